import PyProof.Rows.All
import Wide.All
import OpenK.AllK
import Wide.FinOn
import Lean
import PyProof.EqAt
import PyProof.EqKinds
import PyProof.NeKinds
import PyProof.TupleCall
import PyProof.ZipIter
import PyProof.CompFree
import PyProof.WalksEnum
import PyProof.EnumMake
import KE.IntBitsLaws
import KE.KIsAll
import KE.KTryMore
import PySem.Challenge.RW_evenscales_k06_refused
set_option Elab.async false
set_option linter.all false
set_option maxRecDepth 100000
namespace L2
open PySem PySem.Spec PyProof.Rows
abbrev Key := Sum Int Str
def keyIs : Key → Value → Bool
  | .inl k, v => Value.isInt k v
  | .inr x, v => Value.isStrOf x v
def keyH (w : World) : Key → Int
  | .inl k => hashInt k
  | .inr x => hashStr w x
theorem keyIs_shape : ∀ {k : Key} {v : Value}, keyIs k v = true → (∃ i t, k = Sum.inl i ∧ v = Value.int i t) ∨ (∃ x t, k = Sum.inr x ∧ v = Value.str x t)
  | .inl i, v, h => by
    obtain ⟨t, e⟩ := Value.isInt_shape (k := i) (v := v) h
    exact .inl ⟨i, t, rfl, e⟩
  | .inr x, v, h => by
    obtain ⟨t, e⟩ := Value.isStrOf_shape (x := x) (v := v) h
    exact .inr ⟨x, t, rfl, e⟩
theorem keyIs_int (i : Int) (t : Tok) : keyIs (.inl i) (.int i t) = true := by simp [keyIs, Value.isInt]
theorem keyIs_str (x : Str) (t : Tok) : keyIs (.inr x) (.str x t) = true := by simp [keyIs, Value.isStrOf]
theorem key_ll (a b : Int) : decide ((Sum.inl a : Key) = Sum.inl b) = (a == b) := by
  by_cases e : a = b
  · subst e; simp
  · have h : ¬ (Sum.inl a : Key) = Sum.inl b := fun q => e (Sum.inl.inj q)
    rw [decide_eq_false h]
    exact (beq_eq_false_iff_ne.mpr e).symm
theorem key_rr (a b : Str) : decide ((Sum.inr a : Key) = Sum.inr b) = decide (a = b) := by
  by_cases e : a = b
  · subst e; simp
  · have h : ¬ (Sum.inr a : Key) = Sum.inr b := fun q => e (Sum.inr.inj q)
    rw [decide_eq_false h, decide_eq_false e]
theorem key_lr (a : Int) (b : Str) : decide ((Sum.inl a : Key) = Sum.inr b) = false := decide_eq_false (fun q => nomatch q)
theorem key_rl (a : Str) (b : Int) : decide ((Sum.inr a : Key) = Sum.inl b) = false := decide_eq_false (fun q => nomatch q)
def mixKind (prog : Program) (w : World) : PySem.KeyKind prog w Key where
  is := keyIs
  hash := keyH w
  inj := fun v a b ha hb => by
    rcases keyIs_shape ha with ⟨i, t, rfl, rfl⟩ | ⟨x, t, rfl, rfl⟩
    · rcases keyIs_shape hb with ⟨j, u, rfl, e⟩ | ⟨y, u, rfl, e⟩
      · injection e with e1 _; rw [e1]
      · exact nomatch e
    · rcases keyIs_shape hb with ⟨j, u, rfl, e⟩ | ⟨y, u, rfl, e⟩
      · exact nomatch e
      · injection e with e1 _; rw [e1]
  byValue := fun k v h => by
    rcases keyIs_shape h with ⟨i, t, rfl, rfl⟩ | ⟨x, t, rfl, rfl⟩ <;> rfl
  pyHash := fun hv h => by
    rcases keyIs_shape hv with ⟨i, t, rfl, rfl⟩ | ⟨x, t, rfl, rfl⟩
    · exact wpAny_pyHash_int h
    · exact wpAny_pyHash_str h
  eqBool := fun hu hv h => by
    rcases keyIs_shape hu with ⟨i, t, rfl, rfl⟩ | ⟨x, t, rfl, rfl⟩
    · rcases keyIs_shape hv with ⟨j, u, rfl, rfl⟩ | ⟨y, u, rfl, rfl⟩
      · rw [key_ll] at h; exact wpAny_eqBool_int h
      · rw [key_lr] at h; exact SeqAt.EqAt.int_str i t y u _ _ _ _ h
    · rcases keyIs_shape hv with ⟨j, u, rfl, rfl⟩ | ⟨y, u, rfl, rfl⟩
      · rw [key_rl] at h; exact SeqAt.EqAt.str_int x t j u _ _ _ _ h
      · rw [key_rr] at h; exact wpAny_eqBool_str h
  «strs» := fun k x t v h => by
    rcases keyIs_shape h with ⟨i, u, rfl, e⟩ | ⟨y, u, rfl, e⟩
    · exact nomatch e
    · injection e with e1 _
      subst e1
      cases v <;> rfl
theorem mixKind_int (prog : Program) (w : World) (i : Int) (t : Tok) : (mixKind prog w).is (.inl i) (.int i t) = true := keyIs_int i t
theorem mixKind_str (prog : Program) (w : World) (x : Str) (t : Tok) : (mixKind prog w).is (.inr x) (.str x t) = true := keyIs_str x t
end L2
namespace L2
open PySem PySem.Spec PyProof.Rows
inductive V where
  | non | bl (b : Bool) | int (i : Int) | str (x : Str) | byt (b : Array UInt8) | flt (b : UInt64) | ref (a : Addr) | ty (n : String)
  deriving DecidableEq
def RelV : V → Value → Prop
  | .non, u => u = Value.none
  | .bl b, u => u = Value.bool b
  | .int i, u => ∃ t, u = Value.int i t
  | .str x, u => ∃ t, u = Value.str x t
  | .byt b, u => ∃ t, u = Value.bytes b t
  | .flt b, u => ∃ t, u = Value.float b t
  | .ref a, u => u = Value.ref a
  | .ty n, u => u = Value.type n
abbrev Vals : List V → List Value → Prop := Paired RelV
theorem Vals.length {xs : List V} {us : List Value} (r : Vals xs us) : xs.length = us.length := Paired.length r
theorem Vals.get : ∀ {xs : List V} {us : List Value} {i : Nat} {x : V}, Vals xs us → xs[i]? = some x → ∃ u, us[i]? = some u ∧ RelV x u
  | _, _, _, _, .nil, e => by simp at e
  | _, _, 0, _, .cons r _, e => by simp at e; subst e; exact ⟨_, rfl, r⟩
  | _, _, i + 1, x, .cons _ t, e => by
    obtain ⟨u, h1, h2⟩ := Vals.get (i := i) (x := x) t (by simpa using e)
    exact ⟨u, by simpa using h1, h2⟩
theorem Vals.set {x : V} {u : Value} (r : RelV x u) : ∀ {xs : List V} {us : List Value} (i : Nat), Vals xs us → Vals (xs.set i x) (us.set i u)
  | _, _, _, .nil => .nil
  | _, _, 0, .cons _ t => .cons r t
  | _, _, i + 1, .cons q t => .cons q (Vals.set r i t)
theorem Vals.append : ∀ {xs ys : List V} {us ws : List Value}, Vals xs us → Vals ys ws → Vals (xs ++ ys) (us ++ ws)
  | _, _, _, _, .nil, s => s
  | _, _, _, _, .cons r t, s => .cons r (Vals.append t s)
theorem Vals.take : ∀ {xs : List V} {us : List Value} (n : Nat), Vals xs us → Vals (xs.take n) (us.take n)
  | _, _, 0, _ => .nil
  | _, _, _ + 1, .nil => .nil
  | _, _, n + 1, .cons r t => .cons r (Vals.take n t)
theorem Vals.drop : ∀ {xs : List V} {us : List Value} (n : Nat), Vals xs us → Vals (xs.drop n) (us.drop n)
  | _, _, 0, r => r
  | _, _, _ + 1, .nil => .nil
  | _, _, n + 1, .cons _ t => Vals.drop n t
def RelO : Option V → Option Value → Prop
  | some v, some u => RelV v u
  | none, none => True
  | _, _ => False
def KV {κ : Type} : List (κ × V) → List (κ × Value) → Prop := Paired fun (p : κ × V) (q : κ × Value) => p.1 = q.1 ∧ RelV p.2 q.2
def kV : Key → V
  | .inl i => .int i
  | .inr x => .str x
inductive HO where
  /-- a list -/
  | lst (xs : List V)
  /-- a tuple (never changes) -/
  | tup (xs : List V)
  /-- a dict whose keys are ints and texts; one whose keys are tuples of ints and texts (the empty one is both) -/
  | dK (kvs : List (Key × V)) | dT (kvs : List (List Key × V))
  /-- a set of ints: its members, its size -/
  | set (S : Int → Bool) (n : Nat)
  /-- an instance of the class at C, its dict at dx, its attributes -/
  | ins (C dx : Addr) (fs : List (Str × V))
  /-- the dict of the instance at x -/
  | own (x : Addr)
  /-- the dict of an exception -/
  | xd (fs : List (Str × V))
  /-- a bound method, f of x -/
  | met (f x : Addr)
  /-- a range object lo, lo + 1, .. below hi -/
  | rng (lo hi : Int)
  /-- a thing that is known to the object (the script; a dict while a loop walks it): read, never written while it is so -/
  | frz (o : Obj) (u : HO)
  /-- a code object's table -/
  | tbl (ps : Array Value)
  /-- any other thing, by what is true of its one object (a def of one's own: SetO a S n := HO.ext fun h => ..) -/
  | ext (φ : Heap → Prop)
abbrev Hp := Addr → Option HO
def upd (H : Hp) (a : Addr) (o : HO) : Hp := fun b => if b = a then some o else H b
theorem upd_same {H : Hp} {a : Addr} {o : HO} : upd H a o a = some o := by unfold upd; rw [if_pos rfl]
theorem upd_ne {H : Hp} {a b : Addr} {o : HO} (h : b ≠ a) : upd H a o b = H b := by unfold upd; rw [if_neg h]
theorem upd_upd {H : Hp} {a : Addr} {o u : HO} : upd (upd H a o) a u = upd H a u := by
  funext b; unfold upd; split <;> rfl
theorem ne_of {H : Hp} {a b : Addr} {o u : HO} (h : H a = some o) (h' : H b = some u) (d : o ≠ u) : a ≠ b := by
  intro e; subst e; rw [h] at h'; exact d (Option.some.inj h')
theorem ne_of_none {H : Hp} {a b : Addr} {o : HO} (h : H a = some o) (h' : H b = none) : a ≠ b := by
  intro e; subst e; rw [h] at h'; cases h'
section
variable (P : Program) (w : World)
def ObjOk (H : Hp) (h : Heap) (a : Addr) : HO → Prop
  | .lst xs => xs.length ≤ sizeLine ∧ ∃ (its : List Value) (n : Nat), Vals xs its ∧ h.get? a = some { cls := .type "list", data := .seq its.toArray n }
  | .tup xs => xs.length ≤ sizeLine ∧ ∃ its : List Value, Vals xs its ∧ IsTup h a its.toArray
  | .dK kvs => kvs.length ≤ sizeLine ∧ (a == sysModules) = false ∧ ∃ vs, KV kvs vs ∧ h.DictOf (mixKind P w) a vs
  | .dT kvs => kvs.length ≤ sizeLine ∧ (a == sysModules) = false ∧ ∃ xs : List (List Key × Addr × Value),
      Paired (fun (p : List Key × V) (q : List Key × Addr × Value) => p.1 = q.1 ∧ H q.2.1 = some (.tup (p.1.map kV)) ∧ RelV p.2 q.2.2) kvs xs ∧
      ∃ o es ep, h.get? a = some o ∧ o.ExactDict ∧ o.data = .dict es ep ∧ es.toList = xs.map (entryOfKey (tupleKind (mixKind P w))) ∧ (xs.map (·.1)).Nodup
  | .set S n => h.SetOf (intKind P w) a S n
  | .ins C dx fs => H dx = some (.own a) ∧ fs.length ≤ 1000 ∧ dx ≠ a ∧ h.get? a = some (PySem.W.instObj C dx) ∧
      ∃ mA, h.Ns1 dx mA ∧ (∀ f, RelO (fs.lookup f) (mA f)) ∧ PySem.Within mA (fs.map (·.1))
  | .own _ => ∃ o, h.get? a = some o
  | .xd fs => ∃ mA, h.Ns1 a mA ∧ ∀ f, RelO (fs.lookup f) (mA f)
  | .rng lo hi => ∃ t u v, h.get? a = some { cls := .type "range", data := .fields #[.int lo t, .int hi u, .int 1 v] }
  | .frz o u => h.get? a = some o ∧ ObjOk H h a u
  | .tbl ps => h.get? a = some { cls := .none, data := .fields ps }
  | .met f x => h.get? a = some (PySem.W.methodObj (.ref f) (.ref x))
  | .ext φ => φ h ∧ (∃ o, h.get? a = some o) ∧ ∀ h1 h2 : Heap, φ h1 → (∀ o, h1.get? a = some o → h2.get? a = some o) → φ h2
def HOk (H : Hp) (h : Heap) : Prop := ∀ a o, H a = some o → ObjOk P w H h a o
end
section
variable {P : Program} {w : World} {H H' : Hp} {h h' : Heap} {a : Addr} {o : HO}
theorem ObjOk.lt (x : ObjOk P w H h a o) : a < h.objs.size := by
  cases o with
  | lst xs => obtain ⟨_, _, _, _, e⟩ := x; exact Heap.lt_size e
  | tup xs => obtain ⟨_, _, _, p⟩ := x; exact p.lt
  | dK kvs => obtain ⟨_, _, _, _, o, _, _, e, _⟩ := x; exact Heap.lt_size e
  | dT kvs => obtain ⟨_, _, _, _, o, _, _, e, _⟩ := x; exact Heap.lt_size e
  | set S n => obtain ⟨o, _, _, _, e, _⟩ := x; exact Heap.lt_size e
  | ins C dx fs => obtain ⟨_, _, _, e, _⟩ := x; exact Heap.lt_size e
  | own y => obtain ⟨_, e⟩ := x; exact Heap.lt_size e
  | xd fs => obtain ⟨_, ⟨_, _, _, e, _⟩, _⟩ := x; exact Heap.lt_size e
  | rng lo hi => obtain ⟨_, _, _, e⟩ := x; exact Heap.lt_size e
  | frz ob u => obtain ⟨e, _⟩ := x; exact Heap.lt_size e
  | tbl ps => exact Heap.lt_size (show h.get? a = some _ from x)
  | met f y => exact Heap.lt_size (show h.get? a = some _ from x)
  | ext φ => obtain ⟨_, ⟨_, e⟩, _⟩ := x; exact Heap.lt_size e
theorem Paired.mapP {α β : Type} {F G : α → β → Prop} : ∀ {l₁ : List α} {l₂ : List β}, Paired F l₁ l₂ → (∀ a b, F a b → G a b) → Paired G l₁ l₂
  | _, _, .nil, _ => .nil
  | _, _, .cons r t, f => .cons (f _ _ r) (Paired.mapP t f)
theorem ObjOk.stay (x : ObjOk P w H h a o) (k : ∀ b u, (b = a ∨ H b = some (.own a)) → h.get? b = some u → h'.get? b = some u)
    (ho : ∀ b, H b = some (.own a) → H' b = some (.own a)) (ht : ∀ b xs, H b = some (.tup xs) → H' b = some (.tup xs)) : ObjOk P w H' h' a o := by
  induction o with
  | lst xs => obtain ⟨z, its, n, r, e⟩ := x; exact ⟨z, its, n, r, k _ _ (.inl rfl) e⟩
  | tup xs => obtain ⟨z, its, r, ob, e, c⟩ := x; exact ⟨z, its, r, ob, k _ _ (.inl rfl) e, c⟩
  | dK kvs => obtain ⟨z, y, vs, r, ob, es, ep, e, c⟩ := x; exact ⟨z, y, vs, r, ob, es, ep, k _ _ (.inl rfl) e, c⟩
  | dT kvs =>
    obtain ⟨z, y, xs, r, ob, es, ep, e, c⟩ := x
    exact ⟨z, y, xs, Paired.mapP r fun p q z => ⟨z.1, ht _ _ z.2.1, z.2.2⟩, ob, es, ep, k _ _ (.inl rfl) e, c⟩
  | set S n => obtain ⟨ob, es, ep, t, e, c⟩ := x; exact ⟨ob, es, ep, t, k _ _ (.inl rfl) e, c⟩
  | ins C dx fs =>
    obtain ⟨d, z, ne, e, mA, ⟨od, es, ep, e2, c⟩, r⟩ := x
    exact ⟨ho _ d, z, ne, k _ _ (.inl rfl) e, mA, ⟨od, es, ep, k _ _ (.inr d) e2, c⟩, r⟩
  | own y => obtain ⟨ob, e⟩ := x; exact ⟨ob, k _ _ (.inl rfl) e⟩
  | xd fs => obtain ⟨mA, ⟨od, es, ep, e, c⟩, r⟩ := x; exact ⟨mA, ⟨od, es, ep, k _ _ (.inl rfl) e, c⟩, r⟩
  | rng lo hi => obtain ⟨t, u, v, e⟩ := x; exact ⟨t, u, v, k _ _ (.inl rfl) e⟩
  | frz ob u ih => obtain ⟨e, q⟩ := x; exact ⟨k _ _ (.inl rfl) e, ih q⟩
  | tbl ps =>
    have e : h.get? a = some { cls := .none, data := .fields ps } := x
    show h'.get? a = some { cls := .none, data := .fields ps }
    exact k a _ (.inl rfl) e
  | met f y =>
    have e : h.get? a = some (PySem.W.methodObj (.ref f) (.ref y)) := x
    show h'.get? a = some (PySem.W.methodObj (.ref f) (.ref y))
    exact k a _ (.inl rfl) e
  | ext φ => obtain ⟨p, ⟨o, e⟩, st⟩ := x; exact ⟨st _ _ p fun o q => k _ _ (.inl rfl) q, ⟨o, k _ _ (.inl rfl) e⟩, st⟩
theorem HOk.lt (x : HOk P w H h) (e : H a = some o) : a < h.objs.size := (x a o e).lt
theorem HOk.fresh (x : HOk P w H h) (e : h.objs.size ≤ a) : H a = none := by
  cases q : H a with
  | none => rfl
  | some u => exact absurd (Nat.lt_of_lt_of_le (x.lt q) e) (Nat.lt_irrefl _)
theorem HOk.kept (x : HOk P w H h) (k : ∀ b u, h.get? b = some u → h'.get? b = some u) : HOk P w H h' := fun a o e =>
  (x a o e).stay (fun b u _ q => k b u q) (fun _ q => q) fun _ _ q => q
theorem HOk.laid (x : HOk P w H h) (k : ∀ b u, h.get? b = some u → h'.get? b = some u) (hp : h.objs.size ≤ a) (new : ObjOk P w (upd H a o) h' a o) : HOk P w (upd H a o) h' := fun b u e => by
  have hn := x.fresh hp
  by_cases hb : b = a
  · subst hb; rw [upd_same] at e; cases e; exact new
  · rw [upd_ne hb] at e
    exact (x b u e).stay (fun c v _ q => k c v q) (fun c q => by rw [upd_ne (ne_of_none q hn)]; exact q) fun c xs q => by rw [upd_ne (ne_of_none q hn)]; exact q
end
def Rd (H : Hp) (a : Addr) (u : HO) : Prop := H a = some u ∨ ∃ o, H a = some (.frz o u)
theorem Rd.ok {P : Program} {w : World} {H : Hp} {h : Heap} {a : Addr} {u : HO} (r : Rd H a u) (x : HOk P w H h) : ObjOk P w H h a u := by
  rcases r with r | ⟨o, r⟩
  · exact x a u r
  · obtain ⟨_, q⟩ := x a _ r
    exact q
def Mut : Option HO → Prop
  | some (.lst _) => True
  | some (.dK _) => True
  | some (.dT _) => True
  | some (.set _ _) => True
  | some (.ins _ _ _) => True
  | some (.ext _) => True
  | _ => False
section
variable {P : Program} {w : World} {H : Hp} {h h' : Heap} {x e : Addr} {o' : HO}
theorem HOk.write (ok : HOk P w H h) (mu : Mut (H x)) (he : e = x ∨ H e = some (.own x)) (k : ∀ b u, b ≠ e → h.get? b = some u → h'.get? b = some u) (heo : ∃ u, h'.get? e = some u)
    (new : ObjOk P w (upd H x o') h' x o') : HOk P w (upd H x o') h' := fun b u q => by
  have nown : ∀ c y, H c = some (.own y) → c ≠ x := fun c y r z => by subst z; rw [r] at mu; exact mu
  have ntup : ∀ c xs, H c = some (.tup xs) → c ≠ x := fun c xs r z => by subst z; rw [r] at mu; exact mu
  by_cases hb : b = x
  · subst hb; rw [upd_same] at q; cases q; exact new
  · rw [upd_ne hb] at q
    by_cases hbe : b = e
    · have q' : H b = some (.own x) := by
        rcases he with z | z
        · exact absurd (hbe.trans z) hb
        · rw [hbe]; exact z
      rw [q] at q'; cases q'
      obtain ⟨v, hv⟩ := heo
      exact ⟨v, by rw [hbe]; exact hv⟩
    · refine (ok b u q).stay (fun c v hc r => k c v ?_ r) (fun c r => by rw [upd_ne (nown c b r)]; exact r) fun c xs r => by rw [upd_ne (ntup c xs r)]; exact r
      rcases hc with rfl | hc
      · exact hbe
      · rintro rfl
        rcases he with z | z
        · exact nown c b hc z
        · rw [hc] at z; cases z; exact hb rfl
end
structure Un (fs ex : List Addr) (H H' : Hp) (h h' : Heap) : Prop where
  keep : ∀ b o, h.get? b = some o → H b = none → b ∉ fs → b ∉ ex → h'.get? b = some o
  slot : ∀ b o, h.get? b = some o → H b = none → b ∈ fs → b ∉ ex → ∃ sl, h'.get? b = some { o with slots := sl }
  free : ∀ b o, h.get? b = some o → H b = none → b ∉ ex → H' b = none
  there : ∀ b o, h.get? b = some o → b ∉ ex → ∃ o', h'.get? b = some o'
  tups : ∀ b xs, H b = some (.tup xs) → H' b = some (.tup xs)
  frzs : ∀ b o u, H b = some (.frz o u) → H' b = some (.frz o u)
  tbls : ∀ b ps, H b = some (.tbl ps) → ∃ more, H' b = some (.tbl (ps ++ more))
section
variable {fs fs' ex ex' : List Addr} {H H1 H2 : Hp} {h h1 h2 h' : Heap} {a x e : Addr} {o : HO}
theorem Un.any (u : Un fs ex H H1 h h1) {b : Addr} {ob : Obj} (q : h.get? b = some ob) (n : H b = none) (hx : b ∉ ex) : ∃ sl, h1.get? b = some { ob with slots := sl } := by
  by_cases hb : b ∈ fs
  · exact u.slot b ob q n hb hx
  · exact ⟨ob.slots, u.keep b ob q n hb hx⟩
theorem Un.kept (k : ∀ b u, h.get? b = some u → h'.get? b = some u) : Un fs ex H H h h' :=
  ⟨fun b ob q _ _ _ => k b ob q, fun b ob q _ _ _ => ⟨ob.slots, k b ob q⟩, fun _ _ _ n _ => n, fun b ob q _ => ⟨ob, k b ob q⟩, fun _ _ q => q, fun _ _ _ q => q, fun _ ps q => ⟨#[], by rw [q]; simp⟩⟩
theorem Un.refl : Un fs ex H H h h := Un.kept fun _ _ q => q
theorem Un.laid (k : ∀ b u, h.get? b = some u → h'.get? b = some u) (hp : h.objs.size ≤ a) (hn : H a = none) : Un fs ex H (upd H a o) h h' where
  keep := fun b u q _ _ _ => k b u q
  slot := fun b u q _ _ _ => ⟨u.slots, k b u q⟩
  free := fun b u q n _ => by rw [upd_ne (Nat.ne_of_lt (Nat.lt_of_lt_of_le (Heap.lt_size q) hp))]; exact n
  there := fun b u q _ => ⟨u, k b u q⟩
  tups := fun b xs q => by rw [upd_ne (ne_of_none q hn)]; exact q
  frzs := fun b u xs q => by rw [upd_ne (ne_of_none q hn)]; exact q
  tbls := fun b ps q => ⟨#[], by rw [upd_ne (ne_of_none q hn), q]; simp⟩
theorem Un.write (mu : Mut (H x)) (he : e = x ∨ H e = some (.own x)) (k : ∀ b u, b ≠ e → h.get? b = some u → h'.get? b = some u) (heo : ∃ u, h'.get? e = some u) : Un fs ex H (upd H x o) h h' := by
  have hx : ∀ b, H b = none → b ≠ x := fun b n z => by subst z; rw [n] at mu; exact mu
  have hb : ∀ b, H b = none → b ≠ e := fun b n z => by
    subst z
    rcases he with r | r
    · exact hx b n r
    · rw [n] at r; cases r
  have hm : ∀ b u, H b = some u → ¬ Mut (some u) → b ≠ x := fun b u q nm z => by subst z; rw [q] at mu; exact nm mu
  refine ⟨fun b u q n _ _ => k b u (hb b n) q, fun b u q n _ _ => ⟨u.slots, k b u (hb b n) q⟩, fun b u q n _ => by rw [upd_ne (hx b n)]; exact n, fun b u q _ => ?_,
    fun b xs q => by rw [upd_ne (hm b _ q fun z => z)]; exact q, fun b u xs q => by rw [upd_ne (hm b _ q fun z => z)]; exact q, fun b ps q => ⟨#[], by rw [upd_ne (hm b _ q fun z => z), q]; simp⟩⟩
  by_cases hbe : b = e
  · subst hbe; exact heo
  · exact ⟨u, k b u hbe q⟩
end
def trk (h : Heap) (H : Hp) : List Addr := (List.range h.objs.size).filter fun a => (H a).isSome
def hidT (h : Heap) (H : Hp) : Heap := PySem.W.hideAll h (trk h H)
theorem hidT_size (h : Heap) (H : Hp) : (hidT h H).objs.size = h.objs.size := PySem.W.hideAll_size _ _
theorem hidT_get {h : Heap} {H : Hp} {b : Addr} {o : Obj} (e : h.get? b = some o) (n : H b = none) : (hidT h H).get? b = some o :=
  PySem.W.hideAll_get _ e fun hm => by
    have q : (H b).isSome = true := (List.mem_filter.mp hm).2
    rw [n] at q; simp at q
theorem of_hidT {h : Heap} {H : Hp} {b : Addr} {o : Obj} (e : (hidT h H).get? b = some o) : h.get? b = some o ∧ H b = none := by
  have e' : h.get? b = some o := PySem.W.of_hideAll (trk h H) e
  refine ⟨e', ?_⟩
  cases q : H b with
  | none => rfl
  | some x =>
    have hm : b ∈ trk h H := List.mem_filter.mpr ⟨List.mem_range.mpr (Heap.lt_size e'), by simp [q]⟩
    have z : (hidT h H).get? b = none := PySem.W.hideAll_none (trk h H) hm
    rw [z] at e; cases e
end L2
namespace L2
open PySem PySem.Spec PyProof.Rows
structure Mod (K : PySem.W.Frag) (mg : Str → Option Value) (base : Heap) : Prop where
  kin : K.In base
  glob : base.Ns mainGlobals mg
  blt : ∃ mb, base.Ns builtinsNs mb ∧ ∀ x : Str, x ≠ "__name__" → mb x = bootBuiltins x
  nolimit : base.NoLimit
  seer : base.NoSeer
structure Cx where
  prog : Program
  w : World
  K : PySem.W.Frag
  mg : Str → Option Value
  base : Heap
  A : Around
  N : List Str
  s₀ : Shared
  H₀ : Hp
  env : Env
  outer : List Env
  stack : List Env
  ex : List Addr
  fn : Str → Bool
  calm : Bool
  pn : List (Addr × Obj)
  xe : Value → Shared → Prop
def frs (l : List Env) : List Addr := l.filterMap (·.frame)
abbrev Cx.fs (X : Cx) : List Addr := frs X.outer
def Vis (sc : Scope) (x : Str) : Prop := sc.names.lookup x = some .local ∨ sc.names.lookup x = some .cell ∨ sc.names.lookup x = some .free
def Loc (sc : Scope) (x : Str) : Prop := sc.names.lookup x = some .local ∨ sc.names.lookup x = some .cell
def Look (env : Env) (h : Heap) (m : Str → Option Value) (x : Str) (u : Value) : Prop :=
  (env.kindOf x = some .local ∧ m x = some u) ∨ ((env.kindOf x = some .cell ∨ env.kindOf x = some .free) ∧ ∃ c, env.cells.lookup x = some c ∧ h.IsCell c (some u))
structure Cx.Ok (X : Cx) : Prop where
  mod : Mod X.K X.mg X.base
  kind : X.env.scope.kind = .function
  glob : X.env.globals = mainGlobals
  blt : X.env.builtins = builtinsNs
  above : X.s₀.heap.objs.size ≤ X.env.locals
  inj : ∀ x y c, X.env.cells.lookup x = some c → X.env.cells.lookup y = some c → x = y
  has : ∀ x, (X.env.kindOf x = some .cell ∨ X.env.kindOf x = some .free) → ∃ c, X.env.cells.lookup x = some c
  cab : ∀ x c, X.fn x = true → X.env.cells.lookup x = some c → X.s₀.heap.objs.size ≤ c
  hd : X.calm = true → X.A.handled = none
  frames : X.A.frames = some X.stack
  stk : X.stack = X.outer ∨ (X.stack = X.env :: X.outer ∧ X.env.frame = some X.env.locals)
  exf : ∀ b ∈ X.ex, b ≠ X.env.locals ∧ ∀ x c, X.env.cells.lookup x = some c → c ≠ b
  bs : ∀ b o, X.base.get? b = some o → X.s₀.heap.get? b = some o ∧ X.H₀ b = none
  bsz : X.base.objs.size ≤ X.s₀.heap.objs.size
  noex : ∀ b o, X.base.get? b = some o → b ∉ X.ex
  exfs : ∀ b ∈ X.ex, b ∉ X.fs
  funs : X.s₀.heap.FunFrames X.base X.outer
  frf : ∀ b ∈ X.fs, X.H₀ b = none
structure Inv (X : Cx) (pins : List (Addr × Obj)) (σ : List (Option V)) (H : Hp) (s : Shared) : Prop where
  ok : X.Ok
  os : s.os = X.s₀.os
  bare : AllBare s.gens
  base : Un X.fs X.ex X.H₀ H X.s₀.heap s.heap
  loc : ∃ m, s.heap.Ns X.env.locals m ∧ ∀ (i : Nat) (x : Str) (v : V), X.N[i]? = some x → σ[i]? = some (some v) → Vis X.env.scope x → ∃ u, RelV v u ∧ Look X.env s.heap m x u
  cell : ∀ x c, X.env.cells.lookup x = some c → ∃ v, s.heap.IsCell c v
  free : H X.env.locals = none
  freeC : ∀ x c, X.env.cells.lookup x = some c → H c = none
  pin : ∀ p ∈ X.pn ++ pins, s.heap.get? p.1 = some p.2 ∧ H p.1 = none ∧ p.1 ≠ X.env.locals ∧ p.1 ∉ X.fs ∧ ∀ v, p.2.data ≠ .cell v
  hok : HOk X.prog X.w H s.heap
  len : σ.length = X.N.length
section
variable {X : Cx} {pins : List (Addr × Obj)} {σ : List (Option V)} {H H' : Hp} {s : Shared} {h' : Heap}
theorem Cx.Ok.nofr (ok : X.Ok) {b : Addr} {o : Obj} (e : X.base.get? b = some o) : b ∉ X.fs := fun hb => by
  have := (ok.funs.mem hb).1
  rw [e] at this; cases this
theorem Inv.bs (I : Inv X pins σ H s) : ∀ b o, X.base.get? b = some o → s.heap.get? b = some o ∧ H b = none := fun b o e =>
  ⟨I.base.keep b o (I.ok.bs b o e).1 (I.ok.bs b o e).2 (I.ok.nofr e) (I.ok.noex b o e), I.base.free b o (I.ok.bs b o e).1 (I.ok.bs b o e).2 (I.ok.noex b o e)⟩
theorem Inv.bk (I : Inv X pins σ H s) : ∀ b o, X.base.get? b = some o → s.heap.get? b = some o := fun b o e => (I.bs b o e).1
theorem Inv.mod (I : Inv X pins σ H s) : Mod X.K X.mg X.base := I.ok.mod
theorem Inv.kIn (I : Inv X pins σ H s) : X.K.In s.heap := I.ok.mod.kin.keeps I.bk
theorem Inv.nolimit (I : Inv X pins σ H s) : s.heap.NoLimit := I.ok.mod.nolimit.keeps I.bk
theorem Inv.fr (I : Inv X pins σ H s) : ∃ m, Fr X.base X.env.locals s.heap m :=
  let ⟨m, hn, _⟩ := I.loc
  ⟨m, hn, I.bk, Nat.le_trans I.ok.bsz I.ok.above⟩
theorem Inv.lt (I : Inv X pins σ H s) : X.env.locals < s.heap.objs.size := let ⟨_, hn, _⟩ := I.loc; hn.lt
theorem Inv.sz (I : Inv X pins σ H s) : X.s₀.heap.objs.size ≤ s.heap.objs.size := Nat.le_trans I.ok.above (Nat.le_of_lt I.lt)
theorem Inv.nofs (I : Inv X pins σ H s) {a : Addr} (h : s.heap.objs.size ≤ a) : a ∉ X.fs := fun hb => by
  obtain ⟨_, o, ho, _⟩ := I.ok.funs.mem hb
  exact absurd (Nat.lt_of_lt_of_le (Heap.lt_size ho) (Nat.le_trans I.sz h)) (Nat.lt_irrefl _)
theorem Inv.cne (I : Inv X pins σ H s) : ∀ x c, X.env.cells.lookup x = some c → c ≠ X.env.locals := fun x c e z => by
  obtain ⟨v, o, ho, hd⟩ := I.cell x c e
  obtain ⟨m, ⟨o', es, ep, ho', hd', _⟩, _⟩ := I.loc
  rw [z, ho'] at ho; cases ho; rw [hd'] at hd; cases hd
theorem Inv.funs (I : Inv X pins σ H s) : s.heap.FunFrames X.base X.outer := by
  have all : ∀ (l : List Env), (∀ b ∈ frs l, b ∈ X.fs) → X.s₀.heap.FunFrames X.base l → s.heap.FunFrames X.base l := by
    intro l
    induction l with
    | nil => intro _ _; trivial
    | cons env r ih =>
      intro hs hl
      obtain ⟨hk, ⟨L, o, hf, hn, ho, hd⟩, hr⟩ := hl
      have hL : L ∈ X.fs := hs L (by unfold frs; rw [List.filterMap_cons, hf]; exact List.mem_cons_self)
      obtain ⟨sl, e⟩ := I.base.slot L o ho (I.ok.frf L hL) hL fun z => I.ok.exfs L z hL
      exact ⟨hk, ⟨L, _, hf, hn, e, hd⟩, ih (fun b hb => hs b (by unfold frs; rw [List.filterMap_cons, hf]; exact List.mem_cons_of_mem _ hb)) hr⟩
  exact all X.outer (fun _ hb => hb) I.ok.funs
theorem Inv.stack (I : Inv X pins σ H s) : s.heap.FunFrames X.base X.stack := by
  rcases I.ok.stk with e | ⟨e, hf⟩
  · rw [e]; exact I.funs
  · rw [e]
    obtain ⟨m, hn, _⟩ := I.loc
    refine .cons (by rw [I.ok.kind]; decide) hf hn ?_ I.funs
    exact Heap.get?_none_of_le (Nat.le_trans I.ok.bsz I.ok.above)
theorem Inv.stkSub (I : Inv X pins σ H s) : ∀ b ∈ frs X.stack, b ∈ X.env.locals :: X.fs := fun b hb => by
  rcases I.ok.stk with e | ⟨e, hf⟩
  · rw [e] at hb; exact List.mem_cons_of_mem _ hb
  · rw [e] at hb
    unfold frs at hb
    rw [List.filterMap_cons, hf] at hb
    exact hb
theorem Inv.stkFree (I : Inv X pins σ H s) : ∀ b ∈ frs X.stack, H b = none := fun b hb => by
  rcases List.mem_cons.mp (I.stkSub b hb) with e | hb
  · rw [e]; exact I.free
  · obtain ⟨_, o, ho, _⟩ := I.ok.funs.mem hb
    exact I.base.free b o ho (I.ok.frf b hb) fun z => I.ok.exfs b z hb
theorem Inv.step {g' : Array GenState} {t' : Nat} {d' : Drawn} {ch : List Addr} (I : Inv X pins σ H s)
    (hch : ∀ b ∈ ch, (b ∈ X.ex ∨ X.s₀.heap.objs.size ≤ b) ∧ b ≠ X.env.locals ∧ (∀ x c, X.env.cells.lookup x = some c → c ≠ b) ∧ ∀ p ∈ X.pn ++ pins, p.1 ≠ b)
    (keep : ∀ b o, b ≠ X.env.locals → b ∉ X.fs → b ∉ ch → s.heap.get? b = some o → H b = none → h'.get? b = some o)
    (slot : ∀ b o, b ≠ X.env.locals → b ∈ X.fs → b ∉ ch → s.heap.get? b = some o → H b = none → ∃ sl, h'.get? b = some { o with slots := sl }) (free : ∀ b o, b ∉ ch → s.heap.get? b = some o → H b = none → H' b = none)
    (there : ∀ b o, b ∉ ch → s.heap.get? b = some o → ∃ o', h'.get? b = some o')
    (tups : ∀ b xs, H b = some (.tup xs) → H' b = some (.tup xs)) (frzs : ∀ b o u, H b = some (.frz o u) → H' b = some (.frz o u)) (tbls : ∀ b ps, H b = some (.tbl ps) → ∃ more, H' b = some (.tbl (ps ++ more)))
    (ns : ∀ m, s.heap.Ns X.env.locals m → h'.Ns X.env.locals m) (hok : HOk X.prog X.w H' h') (hg : AllBare g') :
    Inv X pins σ H' { s with heap := h', gens := g', drawn := d', toks := t' } := by
  have neL : ∀ b o, X.s₀.heap.get? b = some o → b ≠ X.env.locals := fun b o e => Nat.ne_of_lt (Nat.lt_of_lt_of_le (Heap.lt_size e) I.ok.above)
  have neC : ∀ b o, X.s₀.heap.get? b = some o → b ∉ X.ex → b ∉ ch := fun b o e hx hb => by
    rcases (hch b hb).1 with z | z
    · exact hx z
    · exact absurd (Nat.lt_of_lt_of_le (Heap.lt_size e) z) (Nat.lt_irrefl _)
  have cellK : ∀ x c, X.env.cells.lookup x = some c → ∀ v, s.heap.IsCell c v → h'.IsCell c v := fun x c e v ⟨o, ho, hd⟩ => by
    have nch : c ∉ ch := fun z => (hch c z).2.2.1 x c e rfl
    by_cases hc : c ∈ X.fs
    · obtain ⟨sl, q⟩ := slot c o (I.cne x c e) hc nch ho (I.freeC x c e)
      exact ⟨_, q, hd⟩
    · exact ⟨o, keep c o (I.cne x c e) hc nch ho (I.freeC x c e), hd⟩
  refine ⟨I.ok, I.os, hg, ⟨fun b o e n hb hx => ?_, fun b o e n hb hx => ?_, fun b o e n hx => ?_, fun b o e hx => ?_, fun b xs e => tups b xs (I.base.tups b xs e), fun b o xs e => frzs b o xs (I.base.frzs b o xs e), fun b ps e => ?_⟩, ?_, fun x c e => ?_, ?_, fun x c e => ?_, fun p hp => ?_, hok, I.len⟩
  · exact keep b o (neL b o e) hb (neC b o e hx) (I.base.keep b o e n hb hx) (I.base.free b o e n hx)
  · obtain ⟨sl, e1⟩ := I.base.slot b o e n hb hx
    obtain ⟨sl', e2⟩ := slot b _ (neL b o e) hb (neC b o e hx) e1 (I.base.free b o e n hx)
    exact ⟨sl', e2⟩
  · obtain ⟨o', e1⟩ := I.base.there b o e hx
    exact free b o' (neC b o e hx) e1 (I.base.free b o e n hx)
  · obtain ⟨o', e1⟩ := I.base.there b o e hx
    exact there b o' (neC b o e hx) e1
  · obtain ⟨m1, e1⟩ := I.base.tbls b ps e
    obtain ⟨m2, e2⟩ := tbls b _ e1
    exact ⟨m1 ++ m2, by rw [e2, Array.append_assoc]⟩
  · obtain ⟨m, hn, hl⟩ := I.loc
    refine ⟨m, ns m hn, fun i x v e1 e2 e3 => ?_⟩
    obtain ⟨u, r, l⟩ := hl i x v e1 e2 e3
    refine ⟨u, r, ?_⟩
    rcases l with l | ⟨k, c, e, z⟩
    · exact .inl l
    · exact .inr ⟨k, c, e, cellK x c e _ z⟩
  · obtain ⟨v, z⟩ := I.cell x c e
    exact ⟨v, cellK x c e v z⟩
  · obtain ⟨m, ⟨o, _, _, ho, _⟩, _⟩ := I.loc
    exact free _ o (fun z => (hch _ z).2.1 rfl) ho I.free
  · obtain ⟨v, o, ho, hd⟩ := I.cell x c e
    exact free c o (fun z => (hch c z).2.2.1 x c e rfl) ho (I.freeC x c e)
  · obtain ⟨e, n, ne, nf, d⟩ := I.pin p hp
    have nch : p.1 ∉ ch := fun z => (hch p.1 z).2.2.2 p hp rfl
    exact ⟨keep p.1 p.2 ne nf nch e n, free p.1 p.2 nch e n, ne, nf, d⟩
theorem Inv.un {t' : Nat} (I : Inv X pins σ H s) (u : Un X.fs [] H H' s.heap h') (hok : HOk X.prog X.w H' h') : Inv X pins σ H' { s with heap := h', toks := t' } := by
  obtain ⟨m, ⟨o, es, ep, ho, r⟩, _⟩ := id I.loc
  obtain ⟨sl, hL⟩ := u.any ho I.free (by simp)
  exact I.step (g' := s.gens) (d' := s.drawn) (ch := []) (fun _ z => nomatch z) (fun b o _ hb _ e n => u.keep b o e n hb (by simp)) (fun b o _ hb _ e n => u.slot b o e n hb (by simp)) (fun b o _ e n => u.free b o e n (by simp)) (fun b o _ e => u.there b o e (by simp)) u.tups u.frzs u.tbls (fun m' hm => by
    obtain ⟨o', es', ep', ho', r'⟩ := hm
    rw [ho] at ho'; cases ho'
    exact ⟨_, es', ep', hL, r'⟩) hok I.bare
theorem Inv.call {g' : Array GenState} {t' : Nat} {d' : Drawn} {ch : List Addr} (I : Inv X pins σ H s) (u : Un (frs X.stack) ch H H' s.heap h') (hok : HOk X.prog X.w H' h') (hg : AllBare g')
    (hch : ∀ b ∈ ch, (b ∈ X.ex ∨ X.s₀.heap.objs.size ≤ b) ∧ b ≠ X.env.locals ∧ (∀ x c, X.env.cells.lookup x = some c → c ≠ b) ∧ ∀ p ∈ X.pn ++ pins, p.1 ≠ b) :
    Inv X pins σ H' { s with heap := h', gens := g', drawn := d', toks := t' } := by
  obtain ⟨m, ⟨o, es, ep, ho, r⟩, _⟩ := id I.loc
  obtain ⟨sl, hL⟩ := u.any ho I.free fun z => (hch _ z).2.1 rfl
  exact I.step (ch := ch) hch (fun b o hL hb hc e n => u.keep b o e n (fun z => (List.mem_cons.mp (I.stkSub b z)).elim hL hb) hc) (fun b o _ _ hc e n => u.any e n hc) (fun b o hc e n => u.free b o e n hc) (fun b o hc e => u.there b o e hc) u.tups u.frzs u.tbls (fun m' hm => by
    obtain ⟨o', es', ep', ho', r'⟩ := hm
    rw [ho] at ho'; cases ho'
    exact ⟨_, es', ep', hL, r'⟩) hok hg
theorem Inv.turned {t' : Nat} {it : Addr} (I : Inv X pins σ H s) (k : ∀ b o, b ≠ it → s.heap.get? b = some o → h'.get? b = some o) (hn : H it = none) (hL : it ≠ X.env.locals)
    (h1 : it ∈ X.ex ∨ X.s₀.heap.objs.size ≤ it) (h2 : ∀ x c, X.env.cells.lookup x = some c → c ≠ it) (h3 : ∀ p ∈ X.pn ++ pins, p.1 ≠ it) : Inv X pins σ H { s with heap := h', toks := t' } := by
  have nit : ∀ b u, H b = some u → b ≠ it := fun b u e z => by rw [z, hn] at e; cases e
  refine I.step (g' := s.gens) (d' := s.drawn) (ch := [it]) (fun b hb => ?_) (fun b o _ _ hc e _ => k b o (fun z => hc (by simp [z])) e) (fun b o _ _ hc e _ => ⟨o.slots, k b o (fun z => hc (by simp [z])) e⟩) (fun _ _ _ _ n => n)
    (fun b o hc e => ⟨o, k b o (fun z => hc (by simp [z])) e⟩) (fun _ _ e => e) (fun _ _ _ e => e) (fun b ps e => ⟨#[], by rw [e]; simp⟩) (fun m hm => ?_) (fun b u e => ?_) I.bare
  · have e : b = it := by simpa using hb
    subst e
    exact ⟨h1, hL, h2, h3⟩
  · obtain ⟨o, es, ep, ho, r⟩ := hm
    exact ⟨o, es, ep, k _ o (Ne.symm hL) ho, r⟩
  · refine (I.hok b u e).stay (fun c v hc q => k c v ?_ q) (fun _ q => q) fun _ _ q => q
    rcases hc with z | z
    · rw [z]; exact nit b u e
    · exact nit c _ z
theorem Inv.tok (I : Inv X pins σ H s) (t : Nat) : Inv X pins σ H { s with toks := t } := I.un (h' := s.heap) (t' := t) Un.refl I.hok
theorem Inv.kept {t' : Nat} (I : Inv X pins σ H s) (k : ∀ b u, s.heap.get? b = some u → h'.get? b = some u) : Inv X pins σ H { s with heap := h', toks := t' } := I.un (Un.kept k) (I.hok.kept k)
theorem Inv.laid {a : Addr} {o : HO} {t' : Nat} (I : Inv X pins σ H s) (k : ∀ b u, s.heap.get? b = some u → h'.get? b = some u) (hp : s.heap.objs.size ≤ a) (new : ObjOk X.prog X.w (upd H a o) h' a o) :
    Inv X pins σ (upd H a o) { s with heap := h', toks := t' } := I.un (Un.laid k hp (I.hok.fresh hp)) (I.hok.laid k hp new)
theorem Inv.write {x e : Addr} {o : HO} {t' : Nat} (I : Inv X pins σ H s) (mu : Mut (H x)) (he : e = x ∨ H e = some (.own x)) (k : ∀ b u, b ≠ e → s.heap.get? b = some u → h'.get? b = some u) (heo : ∃ u, h'.get? e = some u)
    (new : ObjOk X.prog X.w (upd H x o) h' x o) : Inv X pins σ (upd H x o) { s with heap := h', toks := t' } := I.un (Un.write mu he k heo) (I.hok.write mu he k heo new)
theorem Inv.weak {σ' : List (Option V)} (I : Inv X pins σ H s) (hl : σ'.length = σ.length) (w : ∀ (i : Nat) v, σ'[i]? = some (some v) → σ[i]? = some (some v)) : Inv X pins σ' H s :=
  ⟨I.ok, I.os, I.bare, I.base, let ⟨m, hn, hl'⟩ := I.loc; ⟨m, hn, fun i x v e1 e2 e3 => hl' i x v e1 (w i v e2) e3⟩, I.cell, I.free, I.freeC, I.pin, I.hok, hl.trans I.len⟩
theorem Inv.pins_of {pins' : List (Addr × Obj)} (I : Inv X pins σ H s) (h : ∀ p ∈ pins', s.heap.get? p.1 = some p.2 ∧ H p.1 = none ∧ p.1 ≠ X.env.locals ∧ p.1 ∉ X.fs ∧ ∀ v, p.2.data ≠ .cell v) : Inv X pins' σ H s :=
  ⟨I.ok, I.os, I.bare, I.base, I.loc, I.cell, I.free, I.freeC, fun p hp => (List.mem_append.mp hp).elim (fun z => I.pin p (List.mem_append_left _ z)) (h p), I.hok, I.len⟩
theorem nodup_ix {N : List Str} (hN : N.Nodup) {i j : Nat} {x : Str} (a : N[i]? = some x) (b : N[j]? = some x) : i = j := by
  obtain ⟨h1, e1⟩ := List.getElem?_eq_some_iff.mp a
  obtain ⟨h2, e2⟩ := List.getElem?_eq_some_iff.mp b
  exact (List.getElem_inj hN).mp (e1.trans e2.symm)
theorem store_ok2 {M : Model} {A : Around} {E : Value → Shared → Prop} {i : Nat} {x : Str} {v : V} {u : Value} {Q : Unit → Shared → Prop} (I : Inv X pins σ H s) (hN : X.N.Nodup) (hi : X.N[i]? = some x) (hx : Loc X.env.scope x) (r : RelV v u)
    (h : ∀ s', Inv X pins (σ.set i (some v)) H s' → (∃ a, Heap.SameBut a s.heap s'.heap ∧ (a = X.env.locals ∨ X.env.cells.lookup x = some a)) → Q () s') (hf : X.fn x = true ∨ X.env.scope.names.lookup x = some .local := by first | exact .inl rfl | exact .inr rfl | assumption) : wpAny M A (storeName X.env x u) Q E s := by
  obtain ⟨m, hn, hl⟩ := id I.loc
  have hcls : (X.env.scope.kind == .class || (X.env.scope.kind == .module && X.env.locals != X.env.globals)) = false := by rw [I.ok.kind]; rfl
  have hiσ : i < σ.length := by rw [I.len]; exact (List.getElem?_eq_some_iff.mp hi).1
  have cne := I.cne
  have tracked : ∀ {a : Addr} {h' : Heap}, (∃ o, s.heap.get? a = some o ∧ H a = none) → Heap.SameBut a s.heap h' → HOk X.prog X.w H h' := fun {a h'} ha hs b ob e => by
    obtain ⟨_, _, hfree⟩ := ha
    refine (I.hok b ob e).stay (fun c w' hc q => (hs.2 c ?_).trans q) (fun _ q => q) fun _ _ q => q
    rintro rfl
    rcases hc with rfl | hc
    · rw [hfree] at e; cases e
    · rw [hfree] at hc; cases hc
  rcases hx with hk | hk
  · refine wpAny_storeName_local hk hn (fun h' hn' hs => ?_) hcls
    obtain ⟨oL, _, _, hoL, _⟩ := id hn
    refine h _ ⟨I.ok, I.os, I.bare, ⟨fun b o e n hb hx => ?_, fun b o e n hb hx => ?_, I.base.free, fun b o e hx => ?_, I.base.tups, I.base.frzs, I.base.tbls⟩, ⟨_, hn', fun j y v' e1 e2 e3 => ?_⟩, fun y c e => ?_, I.free, I.freeC, fun p hp => ?_, tracked ⟨oL, hoL, I.free⟩ hs, by simpa using I.len⟩ ⟨_, hs, .inl rfl⟩
    · exact (hs.2 b (Nat.ne_of_lt (Nat.lt_of_lt_of_le (Heap.lt_size e) I.ok.above))).trans (I.base.keep b o e n hb hx)
    · obtain ⟨sl, e1⟩ := I.base.slot b o e n hb hx
      exact ⟨sl, (hs.2 b (Nat.ne_of_lt (Nat.lt_of_lt_of_le (Heap.lt_size e) I.ok.above))).trans e1⟩
    · obtain ⟨o', e1⟩ := I.base.there b o e hx
      exact ⟨o', (hs.2 b (Nat.ne_of_lt (Nat.lt_of_lt_of_le (Heap.lt_size e) I.ok.above))).trans e1⟩
    · by_cases hj : j = i
      · subst hj
        rw [hi] at e1; cases e1
        rw [List.getElem?_set_self hiσ] at e2
        cases e2
        exact ⟨u, r, .inl ⟨hk, by simp⟩⟩
      · rw [List.getElem?_set_ne (Ne.symm hj)] at e2
        obtain ⟨u', r', q⟩ := hl j y v' e1 e2 e3
        refine ⟨u', r', ?_⟩
        rcases q with ⟨k, e⟩ | ⟨k, c, e, z⟩
        · refine .inl ⟨k, ?_⟩
          have : y ≠ x := fun e => hj (nodup_ix hN e1 (e ▸ hi))
          simp [this, e]
        · exact .inr ⟨k, c, e, z.sameBut hs (cne y c e)⟩
    · obtain ⟨w', z⟩ := I.cell y c e
      exact ⟨w', z.sameBut hs (cne y c e)⟩
    · obtain ⟨e, n, ne, nf, d⟩ := I.pin p hp
      exact ⟨(hs.2 p.1 ne).trans e, n, ne, nf, d⟩
  · have hfn : X.fn x = true := by
      rcases hf with z | z
      · exact z
      · rw [z] at hk; cases hk
    obtain ⟨c, hc⟩ := I.ok.has x (.inl hk)
    obtain ⟨w', z⟩ := I.cell x c hc
    refine wpAny_storeName_cell I.ok.kind hk hc z (fun h' hc' hs => ?_)
    obtain ⟨oc, hoc, hocd⟩ := id z
    refine h { s with heap := h' } ⟨I.ok, I.os, I.bare, ⟨fun b o e n hb hx => ?_, fun b o e n hb hx => ?_, I.base.free, fun b o e hx => ?_, I.base.tups, I.base.frzs, I.base.tbls⟩, ⟨m, hn.sameBut hs (Ne.symm (cne x c hc)), fun j y v' e1 e2 e3 => ?_⟩, fun y c' e => ?_, I.free, I.freeC, fun p hp => ?_, tracked ⟨oc, hoc, I.freeC x c hc⟩ hs, by simpa using I.len⟩ ⟨c, hs, .inr hc⟩
    · exact (hs.2 b (Nat.ne_of_lt (Nat.lt_of_lt_of_le (Heap.lt_size e) (I.ok.cab x c hfn hc)))).trans (I.base.keep b o e n hb hx)
    · obtain ⟨sl, e1⟩ := I.base.slot b o e n hb hx
      exact ⟨sl, (hs.2 b (Nat.ne_of_lt (Nat.lt_of_lt_of_le (Heap.lt_size e) (I.ok.cab x c hfn hc)))).trans e1⟩
    · obtain ⟨o', e1⟩ := I.base.there b o e hx
      exact ⟨o', (hs.2 b (Nat.ne_of_lt (Nat.lt_of_lt_of_le (Heap.lt_size e) (I.ok.cab x c hfn hc)))).trans e1⟩
    · by_cases hj : j = i
      · subst hj
        rw [hi] at e1; cases e1
        rw [List.getElem?_set_self hiσ] at e2
        cases e2
        exact ⟨u, r, .inr ⟨.inl hk, c, hc, hc'⟩⟩
      · rw [List.getElem?_set_ne (Ne.symm hj)] at e2
        obtain ⟨u', r', q⟩ := hl j y v' e1 e2 e3
        refine ⟨u', r', ?_⟩
        rcases q with q | ⟨k, c', e, z'⟩
        · exact .inl q
        · refine .inr ⟨k, c', e, z'.sameBut hs ?_⟩
          rintro rfl
          exact hj (nodup_ix hN e1 (I.ok.inj _ _ _ e hc ▸ hi))
    · by_cases hcc : c' = c
      · subst hcc; exact ⟨_, hc'⟩
      · obtain ⟨w2, z2⟩ := I.cell y c' e
        exact ⟨w2, z2.sameBut hs hcc⟩
    · obtain ⟨e, n, ne, nf, d⟩ := I.pin p hp
      refine ⟨(hs.2 p.1 ?_).trans e, n, ne, nf, d⟩
      intro q
      rw [q, hoc] at e
      have q' : oc = p.2 := Option.some.inj e
      exact d w' (by rw [← q']; exact hocd)
theorem store_ok {M : Model} {A : Around} {E : Value → Shared → Prop} {i : Nat} {x : Str} {v : V} {u : Value} {Q : Unit → Shared → Prop} (I : Inv X pins σ H s) (hN : X.N.Nodup) (hi : X.N[i]? = some x) (hx : Loc X.env.scope x) (r : RelV v u)
    (h : ∀ s', Inv X pins (σ.set i (some v)) H s' → Q () s') (hf : X.fn x = true ∨ X.env.scope.names.lookup x = some .local := by first | exact .inl rfl | exact .inr rfl | assumption) : wpAny M A (storeName X.env x u) Q E s :=
  store_ok2 I hN hi hx r (fun s' I' _ => h s' I') hf
theorem Inv.call' {s' : Shared} {ch : List Addr} (I : Inv X pins σ H s) (ho : s'.os = s.os) (u : Un (frs X.stack) ch H H' s.heap s'.heap) (hok : HOk X.prog X.w H' s'.heap) (hg : AllBare s'.gens)
    (hch : ∀ b ∈ ch, (b ∈ X.ex ∨ X.s₀.heap.objs.size ≤ b) ∧ b ≠ X.env.locals ∧ (∀ x c, X.env.cells.lookup x = some c → c ≠ b) ∧ ∀ p ∈ X.pn ++ pins, p.1 ≠ b) : Inv X pins σ H' s' := by
  obtain ⟨h', g', d', t', o'⟩ := s'
  have e : o' = s.os := ho
  subst e
  exact I.call (g' := g') (t' := t') (d' := d') u hok hg hch
end
abbrev XK := Value → Option Addr → Hp → Prop
abbrev St := List (Option V)
abbrev VK := V → Hp → Prop
abbrev TE := St → Hp → VK → Prop
abbrev TT := St → Hp → (Bool → Hp → Prop) → Prop
abbrev TA := St → Hp → (List V → Hp → Prop) → Prop
structure Ends where
  nx : St → Hp → Prop
  rt : VK
  bk : St → Hp → Prop := fun _ _ => False
  ct : St → Hp → Prop := fun _ _ => False
abbrev TS := Ends → St → Hp → Prop
def EP (X : Cx) (pins : List (Addr × Obj)) (σ : St) (Q : VK) (u : Value) (s' : Shared) : Prop := ∃ v H', Inv X pins σ H' s' ∧ RelV v u ∧ Q v H'
def TP (X : Cx) (pins : List (Addr × Obj)) (σ : St) (Q : Bool → Hp → Prop) (b : Bool) (s' : Shared) : Prop := ∃ H', Inv X pins σ H' s' ∧ Q b H'
def AP (X : Cx) (pins : List (Addr × Obj)) (σ : St) (Q : List V → Hp → Prop) (us : List Value) (s' : Shared) : Prop := ∃ vs H', Inv X pins σ H' s' ∧ Vals vs us ∧ Q vs H'
def SP (X : Cx) (pins : List (Addr × Obj)) (D : Ends) (f : Flow) (s' : Shared) : Prop :=
  match f with
  | .next => ∃ σ' H', Inv X pins σ' H' s' ∧ D.nx σ' H'
  | .brk => ∃ σ' H', Inv X pins σ' H' s' ∧ D.bk σ' H'
  | .cont => ∃ σ' H', Inv X pins σ' H' s' ∧ D.ct σ' H'
  | .ret u => ∃ v σ' H', Inv X pins σ' H' s' ∧ RelV v u ∧ D.rt v H'
def PE (X : Cx) (e : Expr) (t : TE) : Prop :=
  ∀ (pins : List (Addr × Obj)) (s : Shared) (σ : St) (H : Hp) (Q : VK), Inv X pins σ H s → t σ H Q → wpAny (model X.prog X.w) X.A (eval e X.env) (EP X pins σ Q) X.xe s
def PT (X : Cx) (e : Expr) (t : TT) : Prop :=
  ∀ (pins : List (Addr × Obj)) (s : Shared) (σ : St) (H : Hp) (Q : Bool → Hp → Prop), Inv X pins σ H s → t σ H Q → wpAny (model X.prog X.w) X.A (isTrue e X.env (eval e X.env)) (TP X pins σ Q) X.xe s
def PW (X : Cx) (e : Expr) (t : TT) : Prop :=
  ∀ (whole : Sem Value) (pins : List (Addr × Obj)) (s : Shared) (σ : St) (H : Hp) (Q : Bool → Hp → Prop), Inv X pins σ H s → t σ H Q → wpAny (model X.prog X.w) X.A (isTrue e X.env whole) (TP X pins σ Q) X.xe s
theorem PW.pt {X : Cx} {e : Expr} {t : TT} (h : PW X e t) : PT X e t := h _
def PA (X : Cx) (es : List Expr) (t : TA) : Prop :=
  ∀ (pos : Pos) (pins : List (Addr × Obj)) (s : Shared) (σ : St) (H : Hp) (Q : List V → Hp → Prop), Inv X pins σ H s → t σ H Q → wpAny (model X.prog X.w) X.A (spliced (backTo pos (starEach es X.env))) (AP X pins σ Q) X.xe s
def PS (X : Cx) (st : Stmt) (t : TS) : Prop :=
  ∀ (pins : List (Addr × Obj)) (s : Shared) (σ : St) (H : Hp) (D : Ends), Inv X pins σ H s → t D σ H → wpAny (model X.prog X.w) X.A (exec st X.env) (SP X pins D) X.xe s
def PSs (X : Cx) (st : List Stmt) (t : TS) : Prop :=
  ∀ (pins : List (Addr × Obj)) (s : Shared) (σ : St) (H : Hp) (D : Ends), Inv X pins σ H s → t D σ H → wpAny (model X.prog X.w) X.A (execs st X.env) (SP X pins D) X.xe s
theorem thn {α : Type} {t : Sem α} {Q Q' : α → Shared → Prop} {M : Model} {A : Around} {E : Value → Shared → Prop} {s : Shared} (h : wpAny M A t Q E s) (hQ : ∀ a s, Q a s → Q' a s) : wpAny M A t Q' E s := wpAny_mono h hQ fun _ _ x => x
end L2
namespace L2
open PySem PySem.Spec PyProof.Rows
section
variable {X : Cx}
theorem bin {a b : Expr} {ta tb : TE} (ha : PE X a ta) (hb : PE X b tb) {pins : List (Addr × Obj)} {s : Shared} {σ : St} {H : Hp} {R : V → V → Hp → Prop} (I : Inv X pins σ H s) (h : ta σ H fun x H1 => tb σ H1 fun y H2 => R x y H2)
    {α : Type} {Q : α → Shared → Prop} {f : Value → Value → Sem α}
    (hf : ∀ v u s2 x y H2, Inv X pins σ H2 s2 → RelV x v → RelV y u → R x y H2 → wpAny (model X.prog X.w) X.A (f v u) Q X.xe s2) :
    wpAny (model X.prog X.w) X.A (eval a X.env) (fun v s₁ => wpAny (model X.prog X.w) X.A (eval b X.env) (fun u s₂ => wpAny (model X.prog X.w) X.A (f v u) Q X.xe s₂) X.xe s₁) X.xe s := by
  refine thn (ha pins s σ H _ I h) fun v s1 ⟨x, H1, I1, r1, q1⟩ => ?_
  refine thn (hb pins s1 σ H1 _ I1 q1) fun u s2 ⟨y, H2, I2, r2, q2⟩ => ?_
  exact hf v u s2 x y H2 I2 r1 r2 q2
def onV (o : Option (Option V)) (k : V → Prop) : Prop := match o with | some (some v) => k v | _ => False
theorem onV.ex {o : Option (Option V)} {k : V → Prop} (h : onV o k) : ∃ v, o = some (some v) ∧ k v := by
  unfold onV at h
  split at h
  · exact ⟨_, rfl, h⟩
  · exact h.elim
theorem onV.mk {o : Option (Option V)} {k : V → Prop} {v : V} (e : o = some (some v)) (h : k v) : onV o k := by
  subst e; exact h
def onI (x : V) (k : Int → Prop) : Prop := match x with | .int i => k i | _ => False
def onR (x : V) (k : Addr → Prop) : Prop := match x with | .ref a => k a | _ => False
def on1 (xs : List V) (k : V → Prop) : Prop := match xs with | [x] => k x | _ => False
def onT (b : Bool) (q : Prop) : Prop := match b with | true => q | false => False
theorem onI.ex {x : V} {k : Int → Prop} (h : onI x k) : ∃ i, x = .int i ∧ k i := by
  unfold onI at h
  split at h
  · exact ⟨_, rfl, h⟩
  · exact h.elim
theorem onR.ex {x : V} {k : Addr → Prop} (h : onR x k) : ∃ i, x = .ref i ∧ k i := by
  unfold onR at h
  split at h
  · exact ⟨_, rfl, h⟩
  · exact h.elim
theorem on1.ex {xs : List V} {k : V → Prop} (h : on1 xs k) : ∃ x, xs = [x] ∧ k x := by
  unfold on1 at h
  split at h
  · exact ⟨_, rfl, h⟩
  · exact h.elim
theorem onT.ex {b : Bool} {q : Prop} (h : onT b q) : b = true ∧ q := by
  cases b
  · exact h.elim
  · exact ⟨rfl, h⟩
theorem onI.mk {x : V} {k : Int → Prop} {i : Int} (e : x = .int i) (h : k i) : onI x k := by
  subst e; exact h
theorem onII.ex {x y : V} {k : Int → Int → Prop} (h : onI x fun i => onI y fun j => k i j) : ∃ i j, x = .int i ∧ y = .int j ∧ k i j :=
  let ⟨i, e, h⟩ := h.ex
  let ⟨j, e', h⟩ := h.ex
  ⟨i, j, e, e', h⟩
theorem onRI.ex {x y : V} {k : Addr → Int → Prop} (h : onR x fun i => onI y fun j => k i j) : ∃ i j, x = .ref i ∧ y = .int j ∧ k i j :=
  let ⟨i, e, h⟩ := h.ex
  let ⟨j, e', h⟩ := h.ex
  ⟨i, j, e, e', h⟩
theorem on1R.ex {xs : List V} {k : Addr → Prop} (h : on1 xs fun x => onR x k) : ∃ p, xs = [.ref p] ∧ k p := by
  obtain ⟨x, rfl, h⟩ := on1.ex h
  obtain ⟨p, rfl, h⟩ := onR.ex h
  exact ⟨p, rfl, h⟩
def tVar (i : Nat) : TE := fun σ H Q => onV σ[i]? fun v => Q v H
def tC (v : V) : TE := fun _ H Q => Q v H
theorem pe_var {i : Nat} {x : Str} {pos : Pos} (hN : X.N[i]? = some x) (hv : Vis X.env.scope x) (hd : (x == ("__debug__" : Str)) = false := by decide) (hcd : (x == ("__classdict__" : Str)) = false := by decide) : PE X (.Name x pos) (tVar i) := by
  intro pins s σ H Q I h
  obtain ⟨v, e, h⟩ := onV.ex h
  obtain ⟨m, hn, hl⟩ := I.loc
  obtain ⟨u, r, l⟩ := hl i x v hN e hv
  have fin : EP X pins σ Q u s := ⟨v, H, I, r, h⟩
  rcases l with ⟨hk, hm⟩ | ⟨hk, c, hc, hcell⟩
  · exact wpAny_Name (wpAny_loadName_local I.ok.kind hk hn hm fin) hd
  · rcases hk with hk | hk
    · exact wpAny_Name (wpAny_loadName_cell I.ok.kind hk hc hcell fin) hd
    · exact wpAny_Name (wpAny_loadName_free I.ok.kind hk hc hcell fin hcd) hd
theorem pe_int {i j pos} : PE X (.Constant (.int i) j pos) (tC (.int i)) := fun _ _ _ H _ I h => wpAny_Constant_int ⟨.int i, H, I.tok _, ⟨_, rfl⟩, h⟩
theorem pe_bl {b j pos} : PE X (.Constant (.bool b) j pos) (tC (.bl b)) := fun _ _ _ H _ I h => Constant_bool ⟨.bl b, H, I, rfl, h⟩
theorem pe_non {j pos} : PE X (.Constant .none j pos) (tC .non) := fun _ _ _ H _ I h => Constant_none ⟨.non, H, I, rfl, h⟩
theorem pe_str {x j pos} : PE X (.Constant (.str x) j pos) (tC (.str x)) := fun _ _ _ H _ I h => Calls.Constant_str ⟨.str x, H, I.tok _, ⟨_, rfl⟩, h⟩
def Gl (X : Cx) (x : Str) : Prop := X.env.kindOf x = some .globalImplicit
theorem ld_glob {E : Value → Shared → Prop} {pins : List (Addr × Obj)} {s : Shared} {σ : St} {H : Hp} {x : Str} {u : Value} {pos : Pos} {Q : Value → Shared → Prop} (I : Inv X pins σ H s) (hg : Gl X x) (hm : X.mg x = some u) (h : Q u s)
    (hd : (x == ("__debug__" : Str)) = false := by decide) : wpAny (model X.prog X.w) X.A (eval (.Name x pos) X.env) Q E s :=
  Calls.Name_function_global I.ok.kind hg (Calls.loadGlobal_global (by rw [I.ok.glob]; exact I.mod.glob.keeps I.bk) hm h) hd
theorem ld_blt {E : Value → Shared → Prop} {pins : List (Addr × Obj)} {s : Shared} {σ : St} {H : Hp} {x : Str} {u : Value} {pos : Pos} {Q : Value → Shared → Prop} (I : Inv X pins σ H s) (hg : Gl X x) (hm : X.mg x = none) (hv : bootBuiltins x = some u) (h : Q u s)
    (hn : x ≠ "__name__" := by decide) (hd : (x == ("__debug__" : Str)) = false := by decide) : wpAny (model X.prog X.w) X.A (eval (.Name x pos) X.env) Q E s := by
  obtain ⟨mb, h1, h2⟩ := I.mod.blt
  exact Calls.Name_function_global I.ok.kind hg (Calls.loadGlobal_builtin (by rw [I.ok.glob]; exact I.mod.glob.keeps I.bk) hm (by rw [I.ok.blt]; exact h1.keeps I.bk) ((h2 x hn).trans hv) h) hd
theorem pe_glob {x : Str} {v : V} {u : Value} {pos : Pos} (hg : Gl X x) (hm : X.mg x = some u) (r : RelV v u) (hd : (x == ("__debug__" : Str)) = false := by decide) : PE X (.Name x pos) (tC v) :=
  fun _ _ _ H _ I h => ld_glob I hg hm ⟨v, H, I, r, h⟩ hd
theorem pe_bltn {x : Str} {v : V} {u : Value} {pos : Pos} (hg : Gl X x) (hm : X.mg x = none) (hv : bootBuiltins x = some u) (r : RelV v u) (hn : x ≠ "__name__" := by decide) (hd : (x == ("__debug__" : Str)) = false := by decide) : PE X (.Name x pos) (tC v) :=
  fun _ _ _ H _ I h => ld_blt I hg hm hv ⟨v, H, I, r, h⟩ hn hd
variable {a b : Expr} {ta tb : TE} {pos : Pos}
def PC (X : Cx) (op : CmpOp) (a b : Expr) (t : TE) : Prop :=
  ∀ (pins : List (Addr × Obj)) (s : Shared) (σ : St) (H : Hp) (Q : VK), Inv X pins σ H s → t σ H Q →
    wpAny (model X.prog X.w) X.A (eval a X.env) (fun v s₁ => wpAny (model X.prog X.w) X.A (eval b X.env) (fun u s₂ => wpAny (model X.prog X.w) X.A (compareOp op v u) (EP X pins σ Q) X.xe s₂) X.xe s₁) X.xe s
def tB (t : TE) : TT := fun σ H Q => t σ H fun x H1 => ∃ c, x = .bl c ∧ Q c H1
theorem pt_cmp {op : CmpOp} {t : TE} (h : PC X op a b t) (h1 : behindInMarks op b = false := by first | exact nobehind _ (by decide) (by decide) | rfl) : PT X (.Compare a [op] [b] pos) (tB t) := by
  intro pins s σ H Q I hw
  refine wpAny_isTrue_Compare1 (thn (h pins s σ H _ I hw) fun v s1 h1 => thn h1 fun u s2 h2 => thn h2 fun c s3 ⟨x, H1, I1, r1, q1⟩ => ?_) h1
  obtain ⟨d, rfl, q⟩ := q1
  cases r1
  exact wpAny_truthy_bool ⟨H1, I1, q⟩
theorem pt_val {e : Expr} {t : TE} (h : PE X e t) (he : ∀ whole, isTrue e X.env whole = (do let v ← whole; standAt e.pos; holding [v] (truthy v)) := by intro _; rfl) : PT X e (tB t) := by
  intro pins s σ H Q I hw
  refine isTrue_plain (thn (h pins s σ H _ I hw) fun v s1 ⟨x, H1, I1, r1, q1⟩ => ?_) (he _)
  obtain ⟨d, rfl, q⟩ := q1
  cases r1
  exact wpAny_truthy_bool ⟨H1, I1, q⟩
variable {tA tB' : TT} {rest : List Expr}
def tAnd (t u : TT) : TT := fun σ H Q => t σ H fun c H1 => if c = true then u σ H1 Q else Q false H1
def tOr (t u : TT) : TT := fun σ H Q => t σ H fun c H1 => if c = true then Q true H1 else u σ H1 Q
def tNot (t : TT) : TT := fun σ H Q => t σ H fun c H1 => Q (!c) H1
theorem pw_and1 (ha : PT X a tA) : PW X (.BoolOp .And [a] pos) tA := by
  intro wh pins s σ H Q I h
  refine isTrue_and (thn (ha pins s σ H Q I h) fun c s1 e => ?_)
  cases c with
  | true => exact isTrue_and_nil e
  | false => exact e
theorem pw_or1 (ha : PT X a tA) : PW X (.BoolOp .Or [a] pos) tA := by
  intro wh pins s σ H Q I h
  refine isTrue_or (thn (ha pins s σ H Q I h) fun c s1 e => ?_)
  cases c with
  | false => exact isTrue_or_nil e
  | true => exact e
theorem pw_and (ha : PT X a tA) (hb : PW X (.BoolOp .And (b :: rest) pos) tB') : PW X (.BoolOp .And (a :: b :: rest) pos) (tAnd tA tB') := by
  intro wh pins s σ H Q I h
  refine isTrue_and (thn (ha pins s σ H _ I h) fun c s1 ⟨H1, I1, q1⟩ => ?_)
  cases c with
  | true => exact hb wh pins s1 σ H1 Q I1 q1
  | false => exact ⟨H1, I1, q1⟩
theorem pw_or (ha : PT X a tA) (hb : PW X (.BoolOp .Or (b :: rest) pos) tB') : PW X (.BoolOp .Or (a :: b :: rest) pos) (tOr tA tB') := by
  intro wh pins s σ H Q I h
  refine isTrue_or (thn (ha pins s σ H _ I h) fun c s1 ⟨H1, I1, q1⟩ => ?_)
  cases c with
  | true => exact ⟨H1, I1, q1⟩
  | false => exact hb wh pins s1 σ H1 Q I1 q1
theorem pt_not (ha : PT X a tA) : PT X (.UnaryOp .Not a pos) (tNot tA) := by
  intro pins s σ H Q I h
  exact isTrue_not (ha pins s σ H (fun c H1 => Q (!c) H1) I h)
def tAndV (ta tb : TE) : TE := fun σ H Q => ta σ H fun x H1 => ∃ c, x = .bl c ∧ if c = true then tb σ H1 Q else Q (.bl false) H1
def tNotV (ta : TE) : TE := fun σ H Q => ta σ H fun x H1 => ∃ c, x = .bl c ∧ Q (.bl (!c)) H1
theorem pe_one {op} {t : TE} (h : PE X a t) : PE X (.BoolOp op [a] pos) t := fun pins s σ H Q I hw => BoolOp_one (h pins s σ H Q I hw)
theorem pe_and (ha : PE X a ta) (hb : PE X (.BoolOp .And (b :: rest) pos) tb) : PE X (.BoolOp .And (a :: b :: rest) pos) (tAndV ta tb) := by
  intro pins s σ H Q I h
  refine BoolOp_and (thn (ha pins s σ H _ I h) fun v s1 ⟨x, H1, I1, r1, q1⟩ => ?_)
  obtain ⟨c, rfl, q1⟩ := q1
  cases r1
  refine wpAny_truthy_bool ?_
  cases c with
  | true => exact hb pins s1 σ H1 Q I1 q1
  | false => exact ⟨.bl false, H1, I1, rfl, q1⟩
theorem pe_not (ha : PE X a ta) : PE X (.UnaryOp .Not a pos) (tNotV ta) := by
  intro pins s σ H Q I h
  refine UnaryOp_ (thn (ha pins s σ H _ I h) fun v s1 ⟨x, H1, I1, r1, q1⟩ => ?_)
  obtain ⟨c, rfl, q1⟩ := q1
  cases r1
  exact not_of (wpAny_truthy_bool ⟨.bl (!c), H1, I1, rfl, q1⟩)
end
end L2
namespace L2
open PySem PySem.Spec PyProof.Rows
def SqL (K : PySem.W.Frag) (H : Hp) (a : Addr) (xs : List V) : Prop :=
  Rd H a (.lst xs) ∨
    ∃ (o : Obj) (its : Array Value) (n : Nat), K.lookup a = some o ∧ o.cls = .type "list" ∧ o.dict = none ∧ o.data = .seq its n ∧ its.size ≤ sizeLine ∧ Vals xs its.toList
def SqT (K : PySem.W.Frag) (H : Hp) (a : Addr) (xs : List V) : Prop :=
  Rd H a (.tup xs) ∨
    ∃ (o : Obj) (its : Array Value) (n : Nat), K.lookup a = some o ∧ o.cls = .type "tuple" ∧ o.data = .seq its n ∧ its.size ≤ sizeLine ∧ Vals xs its.toList
def absV : Value → Option V
  | .none => some .non
  | .bool b => some (.bl b)
  | .int i _ => some (.int i)
  | .str x _ => some (.str x)
  | .bytes b _ => some (.byt b)
  | .float b _ => some (.flt b)
  | .ref a => some (.ref a)
  | .type n => some (.ty n)
  | _ => none
theorem RelV.abs {x : V} {u : Value} (r : RelV x u) : absV u = some x := by
  cases x with
  | non => cases r; rfl
  | bl _ => cases r; rfl
  | int _ => obtain ⟨t, rfl⟩ := r; rfl
  | str _ => obtain ⟨t, rfl⟩ := r; rfl
  | byt _ => obtain ⟨t, rfl⟩ := r; rfl
  | flt _ => obtain ⟨t, rfl⟩ := r; rfl
  | ref _ => cases r; rfl
  | ty _ => cases r; rfl
theorem RelV.inj {x y : V} {u : Value} (r : RelV x u) (q : RelV y u) : x = y := Option.some.inj (r.abs.symm.trans q.abs)
theorem Vals.inj : ∀ {xs ys : List V} {us : List Value}, Vals xs us → Vals ys us → xs = ys
  | _, _, _, .nil, .nil => rfl
  | _, _, _, .cons r t, .cons r' t' => by rw [r.inj r', Vals.inj t t']
section
variable {X : Cx} {pins : List (Addr × Obj)} {σ : St} {H : Hp} {s : Shared} {a : Addr} {xs ys : List V}
theorem SqL.of {K : PySem.W.Frag} (h : H a = some (.lst xs)) : SqL K H a xs := .inl (.inl h)
theorem SqT.of {K : PySem.W.Frag} (h : H a = some (.tup xs)) : SqT K H a xs := .inl (.inl h)
theorem Inv.list (I : Inv X pins σ H s) (h : SqL X.K H a xs) : ∃ its : List Value, Vals xs its ∧ PlainL s.heap a its.toArray ∧ xs.length ≤ sizeLine := by
  rcases h with h | ⟨o, its, n, hk, hc, hd, hs, hz, r⟩
  · obtain ⟨z, its, n, r, e⟩ := h.ok I.hok
    exact ⟨its, r, ⟨_, n, e, rfl, rfl, rfl⟩, z⟩
  · refine ⟨its.toList, r, ⟨o, n, I.kIn a o hk, hc, hd, by simpa using hs⟩, ?_⟩
    have e := r.length
    simp only [Array.length_toList] at e
    (first | lia | omega)
theorem Inv.tuple (I : Inv X pins σ H s) (h : SqT X.K H a xs) : ∃ its : List Value, Vals xs its ∧ IsTup s.heap a its.toArray ∧ xs.length ≤ sizeLine := by
  rcases h with h | ⟨o, its, n, hk, hc, hs, hz, r⟩
  · obtain ⟨z, its, r, p⟩ := h.ok I.hok
    exact ⟨its, r, p, z⟩
  · refine ⟨its.toList, r, ⟨o, I.kIn a o hk, hc, n, by simpa using hs⟩, ?_⟩
    have e := r.length
    simp only [Array.length_toList] at e
    (first | lia | omega)
theorem Inv.list_inj (I : Inv X pins σ H s) (h : SqL X.K H a xs) (h' : SqL X.K H a ys) : xs = ys := by
  obtain ⟨its, r, ⟨o, n, e, _, _, d⟩, _⟩ := I.list h
  obtain ⟨its', r', ⟨o', n', e', _, _, d'⟩, _⟩ := I.list h'
  rw [e] at e'; cases e'
  rw [d] at d'
  injection d' with d1 _
  have : its = its' := by simpa using congrArg Array.toList d1
  subst this
  exact r.inj r'
end
abbrev Cx.wish (X : Cx) (E : Value → Shared → Prop) : Cx := { X with xe := E }
abbrev Cx.nox (X : Cx) : Cx := X.wish fun _ _ => False
theorem Cx.Ok.wish {X : Cx} (ok : X.Ok) (E : Value → Shared → Prop) : (X.wish E).Ok :=
  ⟨ok.mod, ok.kind, ok.glob, ok.blt, ok.above, ok.inj, ok.has, ok.cab, ok.hd, ok.frames, ok.stk, ok.exf, ok.bs, ok.bsz, ok.noex, ok.exfs, ok.funs, ok.frf⟩
theorem Cx.Ok.unwish {X : Cx} {E : Value → Shared → Prop} (ok : (X.wish E).Ok) : X.Ok :=
  ⟨ok.mod, ok.kind, ok.glob, ok.blt, ok.above, ok.inj, ok.has, ok.cab, ok.hd, ok.frames, ok.stk, ok.exf, ok.bs, ok.bsz, ok.noex, ok.exfs, ok.funs, ok.frf⟩
section
variable {X : Cx} {pins : List (Addr × Obj)} {σ : St} {H : Hp} {s : Shared} {E : Value → Shared → Prop}
theorem Inv.wish (I : Inv X pins σ H s) (E : Value → Shared → Prop) : Inv (X.wish E) pins σ H s := ⟨I.ok.wish E, I.os, I.bare, I.base, I.loc, I.cell, I.free, I.freeC, I.pin, I.hok, I.len⟩
theorem Inv.unwish (I : Inv (X.wish E) pins σ H s) : Inv X pins σ H s := ⟨I.ok.unwish, I.os, I.bare, I.base, I.loc, I.cell, I.free, I.freeC, I.pin, I.hok, I.len⟩
theorem SP.unwish {D : Ends} {f : Flow} {s' : Shared} (h : SP (X.wish E) pins D f s') : SP X pins D f s' := by
  cases f with
  | next => obtain ⟨σ', H', I, q⟩ := h; exact ⟨σ', H', I.unwish, q⟩
  | brk => obtain ⟨σ', H', I, q⟩ := h; exact ⟨σ', H', I.unwish, q⟩
  | cont => obtain ⟨σ', H', I, q⟩ := h; exact ⟨σ', H', I.unwish, q⟩
  | ret u => obtain ⟨v, σ', H', I, r, q⟩ := h; exact ⟨v, σ', H', I.unwish, r, q⟩
theorem PSs.nox {st : List Stmt} {t : TS} (h : PSs X.nox st t) : PSs X st t := fun pins s σ H D I hw =>
  wpAny_mono (h pins s σ H D (I.wish _) hw) (fun _ _ q => q.unwish) fun _ _ z => False.elim z
end
section
variable {X : Cx} {st : Stmt} {rest : List Stmt} {t u : TS} {e : Expr} {te : TE} {pos : Pos}
def tNext : TS := fun D σ H => D.nx σ H
def tSeq (t u : TS) : TS := fun D σ H => t { D with nx := u D } σ H
theorem pss_nil : PSs X [] tNext := fun _ _ σ H _ I h => wpAny_execs_nil ⟨σ, H, I, h⟩
theorem pss_cons (h1 : PS X st t) (h2 : PSs X rest u) : PSs X (st :: rest) (tSeq t u) := by
  intro pins s σ H D I h
  refine wpAny_execs_cons (thn (h1 pins s σ H { D with nx := u D } I h) fun f s1 q => ?_)
  cases f with
  | next =>
    obtain ⟨σ', H', I', q⟩ := q
    exact h2 pins s1 σ' H' D I' q
  | ret v => exact q
  | brk => exact q
  | cont => exact q
theorem pss_one (h1 : PS X st t) : PSs X [st] t := by
  intro pins s σ H D I h
  refine wpAny_execs_cons (thn (h1 pins s σ H D I h) fun f s1 q => ?_)
  cases f with
  | next => exact wpAny_execs_nil q
  | ret v => exact q
  | brk => exact q
  | cont => exact q
theorem Inv.quiet {pins : List (Addr × Obj)} {σ : St} {H : Hp} {s : Shared} (I : Inv X pins σ H s) : interactive X.env = false := by simp [interactive, I.ok.kind]
def tDrop (te : TE) : TS := fun D σ H => te σ H fun _ H1 => D.nx σ H1
theorem ps_expr (he : PE X e te) (hs : swapsWith e none pos.line X.env = pure false := by rfl) : PS X (.Expr e pos) (tDrop te) := by
  intro pins s σ H D I h
  exact wpAny_Expr_any (thn (he pins s σ H _ I h) fun v s1 ⟨x, H1, I1, r1, q1⟩ => ⟨σ, H1, I1, q1⟩) I.quiet hs
def tRet (te : TE) : TS := fun D σ H => te σ H D.rt
theorem ps_ret (he : PE X e te) : PS X (.Return (some e) pos) (tRet te) := by
  intro pins s σ H D I h
  exact wpAny_Return_some (thn (he pins s σ H _ I h) fun v s1 ⟨x, H1, I1, r1, q1⟩ => ⟨x, σ, H1, I1, r1, q1⟩)
def tIfS (c : TT) (t u : TS) : TS := fun D σ H => c σ H fun b H1 => if b = true then t D σ H1 else u D σ H1
theorem ps_if {c : Expr} {a b : List Stmt} {tc : TT} (hc : PT X c tc) (ha : PSs X a t) (hb : PSs X b u) : PS X (.If c a b pos) (tIfS tc t u) := by
  intro pins s σ H D I h
  refine wpAny_If (thn (hc pins s σ H _ I h) fun d s1 ⟨H1, I1, q1⟩ => ?_)
  cases d with
  | true => exact ha pins s1 σ H1 D I1 q1
  | false => exact hb pins s1 σ H1 D I1 q1
def tNever : TS := fun _ _ _ => False
theorem pss_never {sts : List Stmt} : PSs X sts tNever := fun _ _ _ _ _ _ h => h.elim
end
abbrev TG := V → St → Hp → (St → Hp → Prop) → Prop
abbrev TGs := List V → St → Hp → (St → Hp → Prop) → Prop
def PG (X : Cx) (target : Expr) (t : TG) : Prop :=
  ∀ (pins : List (Addr × Obj)) (s : Shared) (σ : St) (H : Hp) (v : V) (u : Value) (Q : St → Hp → Prop), Inv X pins σ H s → RelV v u → t v σ H Q →
    wpAny (model X.prog X.w) X.A (assign target X.env u) (fun _ s' => ∃ σ' H', Inv X pins σ' H' s' ∧ Q σ' H') X.xe s
def PGs (X : Cx) (ts : List Expr) (t : TGs) : Prop :=
  ∀ (pins : List (Addr × Obj)) (s : Shared) (σ : St) (H : Hp) (vs : List V) (us : List Value) (Q : St → Hp → Prop), Inv X pins σ H s → Vals vs us → t vs σ H Q →
    wpAny (model X.prog X.w) X.A (assignInOrder ((assignEach ts X.env).map (·.2)) us) (fun _ s' => ∃ σ' H', Inv X pins σ' H' s' ∧ Q σ' H') X.xe s
abbrev TSet := V → V → V → Hp → (Hp → Prop) → Prop
def PSet (X : Cx) (t : TSet) : Prop :=
  ∀ (pins : List (Addr × Obj)) (s : Shared) (σ : St) (H : Hp) (o i v : V) (ov iv u : Value) (Q : Hp → Prop), Inv X pins σ H s → RelV o ov → RelV i iv → RelV v u → t o i v H Q →
    wpAny (model X.prog X.w) X.A (setItem ov iv u) (fun _ s' => ∃ H', Inv X pins σ H' s' ∧ Q H') X.xe s
section
variable {X : Cx} {pos : Pos}
def gName (i : Nat) : TG := fun v σ H Q => Q (σ.set i (some v)) H
theorem pg_name {i : Nat} {x : Str} (hN : X.N.Nodup) (hi : X.N[i]? = some x) (hx : Loc X.env.scope x) (hf : X.fn x = true ∨ X.env.scope.names.lookup x = some .local := by first | exact .inl rfl | exact .inr rfl | assumption) : PG X (.Name x pos) (gName i) := by
  intro pins s σ H v u Q I r h
  exact wpAny_assign_Name (store_ok I hN hi hx r (fun s' I' => ⟨_, H, I', h⟩) hf)
def gNil : TGs := fun vs σ H Q => vs = [] ∧ Q σ H
def gCons (t : TG) (u : TGs) : TGs := fun vs σ H Q => ∃ v r, vs = v :: r ∧ t v σ H fun σ' H' => u r σ' H' Q
theorem pgs_nil : PGs X [] gNil := by
  intro pins s σ H vs us Q I r h
  obtain ⟨e, h⟩ := h
  subst e
  cases r
  exact assignInOrder_nil ⟨σ, H, I, h⟩
theorem pgs_cons {e : Expr} {es : List Expr} {t : TG} {u : TGs} (h1 : PG X e t) (h2 : PGs X es u)
    (hs : (assignEach (e :: es) X.env).map (·.2) = assign e X.env :: (assignEach es X.env).map (·.2) := by rfl) : PGs X (e :: es) (gCons t u) := by
  intro pins s σ H vs us Q I r h
  obtain ⟨v, vr, e1, h⟩ := h
  subst e1
  cases r with
  | cons r rr =>
    rw [hs]
    refine assignInOrder_cons (thn (h1 pins s σ H _ _ _ I r h) fun _ s1 ⟨σ1, H1, I1, q1⟩ => ?_)
    exact h2 pins s1 σ1 H1 _ _ Q I1 rr q1
def gTup (K : PySem.W.Frag) (n : Nat) (t : TGs) : TG := fun v σ H Q => ∃ a xs, v = .ref a ∧ SqT K H a xs ∧ xs.length = n ∧ t xs σ H Q
theorem pg_tup {es : List Expr} {k : Nat} {t : TGs} {n : Nat} (hc : X.calm = true) (h : PGs X es t)
    (hn : (assignEach es X.env).length = n := by rfl) (hst : (assignEach es X.env).findIdx? (·.1) = none := by rfl) : PG X (.Tuple es k pos) (gTup X.K n t) := by
  intro pins s σ H v u Q I r hw
  obtain ⟨a, xs, e1, hq, hl, hw⟩ := hw
  subst e1
  cases r
  obtain ⟨its, rv, ht, hz⟩ := I.tuple hq
  refine assign_Tuple_tuple (I.ok.hd hc) ht (by simp [hn, ← hl, rv.length]) hst fun h' hx => ?_
  have I1 : Inv X pins σ H { s with heap := h' } := I.kept (t' := s.toks) fun b o e => hx b o (Nat.ne_of_lt (Heap.lt_size e)) e
  exact h pins _ σ H xs _ Q I1 (by simpa using rv) hw
def gSub (to ti : TE) (t : TSet) : TG := fun v σ H Q => to σ H fun o H1 => ti σ H1 fun i H2 => t o i v H2 fun H3 => Q σ H3
theorem pg_sub {o i : Expr} {to ti : TE} {t : TSet} (ho : PE X o to) (hi : PE X i ti) (hs : PSet X t)
    (ha : ∀ v, assign (.Subscript o i pos) X.env v = (do
      let ov ← holding [v] (eval o X.env)
      let iv ← holding [v, ov] (eval i X.env)
      standAt pos
      holding [v, ov, iv] (setItem ov iv v)
      release [v, ov, iv] []) := by intro _; rfl) : PG X (.Subscript o i pos) (gSub to ti t) := by
  intro pins s σ H v u Q I r h
  rw [ha]
  refine wpAny_bind (wpAny_holding (thn (ho pins s σ H _ I h) fun ov s1 ⟨x, H1, I1, r1, q1⟩ => ?_))
  refine wpAny_bind (wpAny_holding (thn (hi pins s1 σ H1 _ I1 q1) fun iv s2 ⟨y, H2, I2, r2, q2⟩ => ?_))
  refine wpAny_bind (wpAny_standAt (wpAny_bind (wpAny_holding (thn (hs pins s2 σ H2 x y v ov iv u _ I2 r1 r2 r q2) fun _ s3 ⟨H3, I3, q3⟩ => ?_))))
  exact wpAny_release ⟨σ, H3, I3, q3⟩
def tAsg (te : TE) (g : TG) : TS := fun D σ H => te σ H fun x H1 => g x σ H1 D.nx
theorem ps_asg {tg e : Expr} {te : TE} {g : TG} (he : PE X e te) (hg : PG X tg g) (hs : swapsWithSole [tg] e pos.line X.env = pure false := by rfl) (hw : swappedStores [tg] e X.env = pure none := by rfl)
    (h1 : (assignEach [tg] X.env).map (·.2) = [assign tg X.env] := by rfl) : PS X (.Assign [tg] e pos) (tAsg te g) := by
  intro pins s σ H D I h
  refine wpAny_Assign_stores (thn (he pins s σ H _ I h) fun v s1 ⟨x, H1, I1, r1, q1⟩ => ?_) hs hw
  rw [h1]
  exact thn (hg pins s1 σ H1 x v _ I1 r1 q1) fun _ s2 q => q
theorem ps_set {i : Nat} {x : Str} {e : Expr} {te : TE} {pos' : Pos} (hN : X.N.Nodup) (hi : X.N[i]? = some x) (hx : Loc X.env.scope x) (he : PE X e te) (hs : swapsWith e (some (.Name x pos')) pos.line X.env = pure false := by rfl) (hf : X.fn x = true ∨ X.env.scope.names.lookup x = some .local := by first | exact .inl rfl | exact .inr rfl | assumption) :
    PS X (.Assign [.Name x pos'] e pos) (tAsg te (gName i)) := by
  intro pins s σ H D I h
  refine wpAny_Assign_Name (thn (he pins s σ H _ I h) fun v s1 ⟨y, H1, I1, r1, q1⟩ => ?_) hs
  exact store_ok I1 hN hi hx r1 (fun s2 I2 => ⟨_, H1, I2, q1⟩) hf
end
section
variable {X : Cx} {pos : Pos}
def tWhile (c : TT) (tb : TS) : TS := fun D σ H => ∃ W : Nat → St → Hp → Prop, (∃ m, W m σ H) ∧ ∀ m σ H, W m σ H →
  c σ H fun b H1 => if b = true then ∃ N : St → Hp → Prop, (∀ σ' H', N σ' H' → ∃ m', m' < m ∧ W m' σ' H') ∧ tb { D with nx := N, ct := N, bk := D.nx } σ H1 else D.nx σ H1
theorem ps_while {c : Expr} {body : List Stmt} {tc : TT} {tb : TS} (hp : PassesOwn (model X.prog X.w) X.A X.env X.xe) (hc : PT X c tc) (hb : PSs X body tb) : PS X (.While c body [] pos) (tWhile tc tb) := by
  intro pins s σ H D I h
  obtain ⟨W, ⟨m0, w0⟩, turn⟩ := h
  refine wpAny_While (codeAny_whileLoop (fun n s' => ∃ σ' H', Inv X pins σ' H' s' ∧ W n σ' H') ?_ m0 ⟨σ, H, I, w0⟩)
  rintro n s1 ⟨σ1, H1, I1, w1⟩
  refine wpAny_passesOwn hp (thn (hc pins s1 σ1 H1 _ I1 (turn n σ1 H1 w1)) fun b s2 ⟨H2, I2, q2⟩ => ?_)
  cases b with
  | true =>
    obtain ⟨N, hN, q2⟩ := q2
    rw [if_pos rfl]
    refine wpAny_passesOwn hp (thn (hb pins s2 σ1 H2 _ I2 q2) fun f s3 q3 => ?_)
    cases f with
    | next =>
      obtain ⟨σ3, H3, I3, n3⟩ := q3
      obtain ⟨m', hm, w3⟩ := hN σ3 H3 n3
      exact ⟨m', hm, σ3, H3, I3, w3⟩
    | cont =>
      obtain ⟨σ3, H3, I3, n3⟩ := q3
      obtain ⟨m', hm, w3⟩ := hN σ3 H3 n3
      exact ⟨m', hm, σ3, H3, I3, w3⟩
    | brk => exact q3
    | ret v => exact q3
  | false =>
    rw [if_neg Bool.false_ne_true]
    exact wpAny_execs_nil ⟨σ1, H2, I2, q2⟩
end
structure It where
  go : Nat → Hp → Prop
  yld : Nat → Hp → V → Hp → Prop
  stop : Nat → Hp → Prop
def FpOk (X : Cx) (pins : List (Addr × Obj)) (H : Hp) (b : Addr) : Prop :=
  H b = none ∧ b ≠ X.env.locals ∧ b ∉ X.fs ∧ (b ∈ X.ex ∨ X.s₀.heap.objs.size ≤ b) ∧ (∀ x c, X.env.cells.lookup x = some c → c ≠ b) ∧ ∀ p ∈ X.pn ++ pins, p.1 ≠ b
theorem Inv.fpOk {X : Cx} {pins : List (Addr × Obj)} {σ : St} {H H' : Hp} {s : Shared} {b : Addr} (I : Inv X pins σ H s) (hb : s.heap.objs.size ≤ b) (hn : H' b = none) : FpOk X pins H' b := by
  refine ⟨hn, Nat.ne_of_gt (Nat.lt_of_lt_of_le I.lt hb), I.nofs hb, .inr (Nat.le_trans I.sz hb), fun x c e z => ?_, fun p hp z => ?_⟩
  · obtain ⟨v, q⟩ := I.cell x c e
    exact absurd (Nat.lt_of_lt_of_le q.lt (by rw [z]; exact hb)) (Nat.lt_irrefl _)
  · exact absurd (Nat.lt_of_lt_of_le (Heap.lt_size (I.pin p hp).1) (by rw [z]; exact hb)) (Nat.lt_irrefl _)
structure Turn (P : Program) (w : World) (K : PySem.W.Frag) (tg : Expr) (J : It) (fp : List Addr) (it : Addr) (tn : Nat → Heap → Prop) : Prop where
  mem : it ∈ fp
  obj : ∀ i h, tn i h → ∀ b ∈ fp, ∃ o, h.get? b = some o ∧ ∀ v, o.data ≠ .cell v
  keep : ∀ i h h', tn i h → (∀ b ∈ fp, ∀ o, h.get? b = some o → h'.get? b = some o) → tn i h'
  item : ∀ (X : Cx), X.prog = P → X.w = w → X.K = K → X.calm = true → ∀ (i : Nat) (pins : List (Addr × Obj)) (s : Shared) (σ : St) (H : Hp) (E : Value → Shared → Prop), Inv X pins σ H s → (∀ b ∈ fp, FpOk X pins H b) → tn i s.heap → J.go i H →
    wpAny (model P w) X.A (pyNext (.ref it)) (fun r s1 => ∃ u, r = some u ∧
      wpAny (model P w) X.A (letOwnedTupleGo tg (.ref it) u) (fun _ s2 => ∃ x H', Inv X pins σ H' s2 ∧ RelV x u ∧ J.yld i H x H' ∧ tn (i + 1) s2.heap ∧ ∀ b ∈ fp, H' b = none) E s1) E s
  done : ∀ (X : Cx), X.prog = P → X.w = w → X.K = K → X.calm = true → ∀ (i : Nat) (pins : List (Addr × Obj)) (s : Shared) (σ : St) (H : Hp) (E : Value → Shared → Prop), Inv X pins σ H s → (∀ b ∈ fp, FpOk X pins H b) → tn i s.heap → J.stop i H →
    wpAny (model P w) X.A (pyNext (.ref it)) (fun r s1 => r = none ∧ Inv X pins σ H s1) E s
  self : ∀ (A : Around) (i : Nat) (s : Shared) (Q : Value → Shared → Prop) (E : Value → Shared → Prop), tn i s.heap → Q (.ref it) s → wpAny (model P w) A (pyIter (.ref it)) Q E s
abbrev TI := St → Hp → (It → Hp → Prop) → Prop
def PIE (X : Cx) (pins : List (Addr × Obj)) (σ : St) (tg : Expr) (R : It → Hp → Prop) (itv : Value) (s2 : Shared) : Prop :=
  ∃ (it : Addr) (fp : List Addr) (tn : Nat → Heap → Prop) (J : It) (H' : Hp), itv = .ref it ∧ Inv X pins σ H' s2 ∧ Turn X.prog X.w X.K tg J fp it tn ∧ tn 0 s2.heap ∧ (∀ b ∈ fp, FpOk X pins H' b) ∧ R J H'
def PI (X : Cx) (tg iter : Expr) (wi : TI) : Prop :=
  ∀ (pins : List (Addr × Obj)) (s : Shared) (σ : St) (H : Hp) (R : It → Hp → Prop), Inv X pins σ H s → wi σ H R →
    wpAny (model X.prog X.w) X.A (eval iter X.env) (fun v s1 => wpAny (model X.prog X.w) X.A (pyIter v) (PIE X pins σ tg R) X.xe s1) X.xe s
theorem go_of {M : Model} {A : Around} {E : Value → Shared → Prop} {s : Shared} {tg : Expr} {it : Addr} {u : Value} {o : Obj} {n : String} {vs : Array Value} {Q : Unit → Shared → Prop} (ho : s.heap.get? it = some o) (hc : o.cls = .type n) (hd : o.data = .fields vs)
    (hn : ["enumerate", "zip", "dict_itemiterator", "dict_reverseitemiterator", "odict_iterator", "itertools.zip_longest", "itertools.pairwise"].contains n = false) (hQ : Q () s) : wpAny M A (letOwnedTupleGo tg (.ref it) u) Q E s := by
  unfold letOwnedTupleGo
  cases tg <;> first
    | exact wpAny_pure hQ
    | (cases u <;> first
        | exact wpAny_pure hQ
        | (refine wpAny_bind (wpAny_load ho ?_)
           rw [hc, hd]
           show wpAny M A (if (["enumerate", "zip", "dict_itemiterator", "dict_reverseitemiterator", "odict_iterator", "itertools.zip_longest", "itertools.pairwise"].contains n && vs[0]? == some (rawInt _)) = true then _ else _) Q E s
           rw [if_neg (by intro h; rw [hn, Bool.false_and] at h; cases h)]
           exact wpAny_pure hQ))
def Itl (K : PySem.W.Frag) (a : Addr) : It :=
  ⟨fun i H => ∃ xs x, SqL K H a xs ∧ xs[i]? = some x, fun i H x H' => H' = H ∧ ∀ xs, SqL K H a xs → xs[i]? = some x, fun i H => ∃ xs, SqL K H a xs ∧ xs.length ≤ i⟩
def Itr (lo : Int) (n : Nat) : It := ⟨fun i _ => i < n, fun i H x H' => H' = H ∧ x = .int (lo + i), fun i _ => n ≤ i⟩
theorem turn_list {P : Program} {w : World} {K : PySem.W.Frag} {tg : Expr} (a it : Addr) : Turn P w K tg (Itl K a) [it] it (fun i h => h.IsListIter it a i) where
  mem := by simp
  obj := fun i h st b hb => by
    have e : b = it := by simpa using hb
    subst e
    obtain ⟨o, e, c, d⟩ := st
    exact ⟨o, e, fun v z => by rw [d] at z; cases z⟩
  keep := fun i h h' st k => st.at fun o e => k it (by simp) o e
  item := by
    intro X hP hw hK hc i pins s σ H E I hf st hg
    subst hP hw hK
    obtain ⟨xs, x, hq, hx⟩ := hg
    obtain ⟨its, rv, p, hz⟩ := I.list hq
    obtain ⟨u, hu, ru⟩ := rv.get hx
    obtain ⟨f0, f1, f2, f3, f4, f5⟩ := hf it (by simp)
    refine wpAny_pyNext_list_item st p.isList (x := u) (by simpa using hu) fun h' st' sb => ?_
    have I1 : Inv X pins σ H { s with heap := h' } := I.turned (t' := s.toks) (fun b o hb e => (sb.2 b hb).trans e) f0 f1 f3 f4 f5
    obtain ⟨o, e, c, d⟩ := id st'
    exact ⟨u, rfl, go_of (s := { s with heap := h' }) e c d (by decide) ⟨x, H, I1, ru, ⟨rfl, fun ys hy => by rw [I.list_inj hy hq]; exact hx⟩, st', fun b hb => (hf b hb).1⟩⟩
  done := by
    intro X hP hw hK hc i pins s σ H E I hf st hg
    subst hP hw hK
    obtain ⟨xs, hq, hx⟩ := hg
    obtain ⟨its, rv, p, hz⟩ := I.list hq
    obtain ⟨f0, f1, f2, f3, f4, f5⟩ := hf it (by simp)
    have hl := rv.length
    exact wpAny_pyNext_list_end (I.ok.hd hc) st p.isList (by simp; (first | lia | omega)) fun h' eb => ⟨rfl, I.turned (t' := s.toks) (fun b o hb e => eb b o hb e) f0 f1 f3 f4 f5⟩
  self := fun _ _ _ _ _ st h => wpAny_pyIter_listiter st h
theorem turn_range {P : Program} {w : World} {K : PySem.W.Frag} {tg : Expr} (it : Addr) (lo : Int) (n : Nat) : Turn P w K tg (Itr lo n) [it] it (fun i h => IsRangeIter h it (lo + (i : Nat) * 1) ((n : Int) - (i : Nat)) 1) where
  mem := by simp
  obj := fun i h st b hb => by
    have e : b = it := by simpa using hb
    subst e
    exact ⟨_, st, fun v z => by
      have z' : Data.fields _ = Data.cell v := z
      cases z'⟩
  keep := fun i h h' st k => k it (by simp) _ st
  item := by
    intro X hP hw hK hc i pins s σ H E I hf st hg
    subst hP hw hK
    obtain ⟨f0, f1, f2, f3, f4, f5⟩ := hf it (by simp)
    have W := Walks.range (prog := X.prog) (w := X.w) (I.ok.hd hc) it lo 1 n
    refine W.item i s _ _ hg st fun v h' tk hv st' kk => ?_
    obtain ⟨t, rfl⟩ := hv
    have I1 : Inv X pins σ H { s with heap := h', toks := tk } := I.turned (fun b o hb e => kk b o (by simpa using hb) e) f0 f1 f3 f4 f5
    refine ⟨_, rfl, go_of (s := { s with heap := h', toks := tk }) (n := "range_iterator") st' rfl rfl (by decide) ⟨.int (lo + i), H, I1, ⟨t, ?_⟩, ⟨rfl, rfl⟩, st', fun b hb => (hf b hb).1⟩⟩
    rw [Int.mul_one]
  done := by
    intro X hP hw hK hc i pins s σ H E I hf st hg
    subst hP hw hK
    obtain ⟨f0, f1, f2, f3, f4, f5⟩ := hf it (by simp)
    exact wpAny_pyNext_range_end (I.ok.hd hc) st (by have : n ≤ i := hg; (first | lia | omega)) fun h' eb => ⟨rfl, I.turned (t' := s.toks) (fun b o hb e => eb b o hb e) f0 f1 f3 f4 f5⟩
  self := fun _ _ _ _ _ st h => wpAny_pyIter_rangeiter st h
end L2
namespace L2
open PySem PySem.Spec PyProof.Rows
section
variable {X : Cx} {tg : Expr}
def iList (K : PySem.W.Frag) (tl : TE) : TI := fun σ H R => tl σ H fun x H1 => ∃ a, x = .ref a ∧ (∃ xs, SqL K H1 a xs) ∧ R (Itl K a) H1
theorem pi_list {l : Expr} {tl : TE} (hl : PE X l tl) : PI X tg l (iList X.K tl) := by
  intro pins s σ H R I h
  refine thn (hl pins s σ H _ I h) fun v s1 ⟨x, H1, I1, r1, q1⟩ => ?_
  obtain ⟨a, e, ⟨xs, hq⟩, q⟩ := q1
  subst e
  cases r1
  obtain ⟨its, rv, p, hz⟩ := I1.list hq
  refine wpAny_pyIter_list p.isList ?_
  refine ⟨s1.heap.objs.size, [s1.heap.objs.size], _, _, H1, rfl, I1.kept (t' := s1.toks) fun b o e => Heap.get?_push_of_some _ e, turn_list a _, ⟨_, Heap.get?_push_size _ rfl, rfl, rfl⟩, fun b hb => ?_, q⟩
  have e : b = s1.heap.objs.size := by simpa using hb
  subst e
  exact I1.fpOk (Nat.le_refl _) (I1.hok.fresh (Nat.le_refl _))
theorem range_it {pins : List (Addr × Obj)} {σ : St} {H : Hp} {s : Shared} {R : It → Hp → Prop} {E : Value → Shared → Prop} {lo hi : Int} {t u v : Tok} {tk : Nat} (I : Inv X pins σ H s) (h1 : -(2 ^ 62) ≤ lo) (h2 : lo < 2 ^ 62) (h3 : -(2 ^ 62) ≤ hi) (h4 : hi < 2 ^ 62)
    (q : R (Itr lo (hi - lo).toNat) H) : wpAny (model X.prog X.w) X.A (pyIter (.ref s.heap.objs.size)) (PIE X pins σ tg R) E { s with heap := s.heap.push { cls := .type "range", data := .fields #[.int lo t, .int hi u, .int 1 v] }, toks := tk } := by
  refine wpAny_pyIter_range (IsRange.new ..) (small_one h1 h2 h3 h4) ?_
  have I1 : Inv X pins σ H { s with heap := s.heap.push { cls := .type "range", data := .fields #[.int lo t, .int hi u, .int 1 v] }, toks := tk } := I.kept fun b o e => Heap.get?_push_of_some _ e
  refine ⟨(s.heap.push { cls := .type "range", data := .fields #[.int lo t, .int hi u, .int 1 v] }).objs.size, [(s.heap.push { cls := .type "range", data := .fields #[.int lo t, .int hi u, .int 1 v] }).objs.size], _, _, H, rfl,
    I1.kept (t' := tk) fun b o e => Heap.get?_push_of_some _ e, turn_range _ lo (hi - lo).toNat, ?_, fun b hb => ?_, q⟩
  · have e1 : lo + ((0 : Nat) : Int) * 1 = lo := by simp
    have e2 : (((hi - lo).toNat : Nat) : Int) - ((0 : Nat) : Int) = Builtin.Range.rangeSize lo hi 1 := by rw [rangeSize_one]; split <;> (first | lia | omega)
    show IsRangeIter _ _ (lo + ((0 : Nat) : Int) * 1) ((((hi - lo).toNat : Nat) : Int) - ((0 : Nat) : Int)) 1
    rw [e1, e2]
    exact Heap.get?_push_size _ rfl
  · have e : b = (s.heap.push { cls := .type "range", data := .fields #[.int lo t, .int hi u, .int 1 v] }).objs.size := by simpa using hb
    subst e
    exact I1.fpOk (Nat.le_refl _) (I1.hok.fresh (Nat.le_refl _))
def iRng1 (ta : TA) : TI := fun σ H R => ta σ H fun vs H1 => ∃ j : Int, vs = [.int j] ∧ -(2 ^ 62) ≤ j ∧ j < 2 ^ 62 ∧ R (Itr 0 j.toNat) H1
def iRng2 (ta : TA) : TI := fun σ H R => ta σ H fun vs H1 => ∃ i j : Int, vs = [.int i, .int j] ∧ (-(2 ^ 62) ≤ i ∧ i < 2 ^ 62 ∧ -(2 ^ 62) ≤ j ∧ j < 2 ^ 62) ∧ R (Itr i (j - i).toNat) H1
theorem pi_range1 {a : Expr} {ta : TA} {p pos : Pos} (hg : Gl X "range") (hm : X.mg "range" = none) (ha : PA X [a] ta) (hs : starEach [a] X.env = [(false, eval a X.env)] := by rfl) : PI X tg (.Call (.Name "range" p) [a] [] pos) (iRng1 ta) := by
  intro pins s σ H R I h
  refine Call_ (ld_blt I hg hm boot_range (PyProof.Rows.callWith_type1 (thn (ha pos pins s σ H _ I h) fun us s1 ⟨vs, H1, I1, r1, q1⟩ => ?_) hs rfl))
  obtain ⟨j, e, q1, q2, q⟩ := q1
  subst e
  cases r1 with
  | cons r rr =>
    cases rr
    obtain ⟨t, rfl⟩ := r
    exact call_range_1 (range_it I1 (by (first | lia | omega)) (by (first | lia | omega)) q1 q2 (by simpa using q))
theorem pi_range2 {a b : Expr} {ta : TA} {p pos : Pos} (hg : Gl X "range") (hm : X.mg "range" = none) (ha : PA X [a, b] ta) (hs : starEach [a, b] X.env = [(false, eval a X.env), (false, eval b X.env)] := by rfl) (hs2 : starEach [b] X.env = [(false, eval b X.env)] := by rfl) :
    PI X tg (.Call (.Name "range" p) [a, b] [] pos) (iRng2 ta) := by
  intro pins s σ H R I h
  refine Call_ (ld_blt I hg hm boot_range (PyProof.Rows.callWith_type1 (thn (ha pos pins s σ H _ I h) fun us s1 ⟨vs, H1, I1, r1, q1⟩ => ?_) (by rw [hs, hs2]) (by rw [hs2]; rfl)))
  obtain ⟨i, j, e, ⟨q1, q2, q3, q4⟩, q⟩ := q1
  subst e
  cases r1 with
  | cons r rr =>
    cases rr with
    | cons r' rr =>
      cases rr
      obtain ⟨t, rfl⟩ := r
      obtain ⟨t', rfl⟩ := r'
      exact call_range_2 (range_it I1 q1 q2 q3 q4 q)
def tFor (wi : TI) (g : TG) (tb : TS) : TS := fun D σ H => wi σ H fun J H1 => ∃ W : Nat → Nat → St → Hp → Prop, (∃ m, W 0 m σ H1) ∧ ∀ i m σ H, W i m σ H →
  (J.stop i H ∧ D.nx σ H) ∨ (J.go i H ∧ ∃ N : St → Hp → Prop, (∀ σ' H', N σ' H' → ∃ m', m' < m ∧ W (i + 1) m' σ' H') ∧ ∀ x H', J.yld i H x H' → g x σ H' fun σ2 H2 => tb { D with nx := N, ct := N, bk := D.nx } σ2 H2)
def pinsAt (fp : List Addr) (h : Heap) : List (Addr × Obj) := fp.filterMap fun b => (h.get? b).map fun o => (b, o)
theorem mem_pinsAt {fp : List Addr} {h : Heap} {b : Addr} {o : Obj} (hb : b ∈ fp) (e : h.get? b = some o) : (b, o) ∈ pinsAt fp h := List.mem_filterMap.mpr ⟨b, hb, by rw [e]; rfl⟩
theorem of_pinsAt {fp : List Addr} {h : Heap} {p : Addr × Obj} (hp : p ∈ pinsAt fp h) : p.1 ∈ fp ∧ h.get? p.1 = some p.2 := by
  obtain ⟨b, hb, e⟩ := List.mem_filterMap.mp hp
  cases q : h.get? b with
  | none => rw [q] at e; cases e
  | some o =>
    rw [q] at e
    have e' : (b, o) = p := Option.some.inj e
    subst e'
    exact ⟨hb, q⟩
theorem Inv.pinned {pins : List (Addr × Obj)} {σ : St} {H : Hp} {s : Shared} {fp : List Addr} (I : Inv X pins σ H s) (hf : ∀ b ∈ fp, FpOk X pins H b) (ho : ∀ b ∈ fp, ∃ o, s.heap.get? b = some o ∧ ∀ v, o.data ≠ .cell v) : Inv X (pins ++ pinsAt fp s.heap) σ H s :=
  I.pins_of fun p hp => (List.mem_append.mp hp).elim (fun z => I.pin p (List.mem_append_right _ z)) fun z => by
    obtain ⟨hb, e⟩ := of_pinsAt z
    obtain ⟨f0, f1, f2, _⟩ := hf p.1 hb
    obtain ⟨o, e', d⟩ := ho p.1 hb
    rw [e] at e'; cases e'
    exact ⟨e, f0, f1, f2, d⟩
theorem Inv.unpinned {pins pl : List (Addr × Obj)} {σ : St} {H : Hp} {s : Shared} (I : Inv X (pins ++ pl) σ H s) : Inv X pins σ H s := I.pins_of fun p hp => I.pin p (List.mem_append_right _ (List.mem_append_left _ hp))
theorem ps_for {iter : Expr} {body : List Stmt} {wi : TI} {g : TG} {tb : TS} {pos : Pos} (hp : PassesOwn (model X.prog X.w) X.A X.env X.xe) (hc : X.calm = true) (hi : PI X tg iter wi) (hg : PG X tg g) (hb : PSs X body tb)
    (hs : ∀ x, foldedSetIterable iter X.env x = pure x := by intro _; rfl) : PS X (.For tg iter body [] pos) (tFor wi g tb) := by
  intro pins s σ H D I h
  refine wpAny_For (thn (hi pins s σ H _ I h) fun v s1 h1 => thn h1 fun itv s2 h2 => ?_) hs
  obtain ⟨it, fp, tn, J, H2, e, I2, T, st2, f2, W, ⟨m0, w0⟩, turn⟩ := h2
  subst e
  -- what stays true of the iterator's objects through the loop
  have stat : ∀ {H' : Hp}, (∀ b ∈ fp, H' b = none) → ∀ b ∈ fp, FpOk X pins H' b := fun hn b hb => ⟨hn b hb, (f2 b hb).2⟩
  refine codeAny_forLoop_any (fun n s' => ∃ i σ' H', Inv X pins σ' H' s' ∧ tn i s'.heap ∧ (∀ b ∈ fp, H' b = none) ∧ W i n σ' H') ?_ m0 ⟨0, σ, H2, I2, st2, fun b hb => (f2 b hb).1, w0⟩
  rintro n s3 ⟨i, σ3, H3, I3, st3, fr3, w3⟩
  rcases turn i n σ3 H3 w3 with ⟨stop, qn⟩ | ⟨go, N, hN, step⟩
  · refine wpAny_passesOwn hp (thn (T.done X rfl rfl rfl hc i pins s3 σ3 H3 X.xe I3 (stat fr3) st3 stop) fun r s4 ⟨hr, I4⟩ => ?_)
    subst hr
    exact wpAny_execs_nil ⟨σ3, H3, I4, qn⟩
  · refine wpAny_passesOwn hp (thn (T.item X rfl rfl rfl hc i pins s3 σ3 H3 X.xe I3 (stat fr3) st3 go) fun r s4 ⟨u, hr, h4⟩ => ?_)
    subst hr
    refine wpAny_passesOwn hp (thn h4 fun _ s5 ⟨x, H5, I5, r5, y5, st5, fr5⟩ => ?_)
    have I5' := I5.pinned (stat fr5) (T.obj _ _ st5)
    refine wpAny_passesOwn hp (thn (hg _ s5 σ3 H5 x u _ I5' r5 (step x H5 y5)) fun _ s6 ⟨σ6, H6, I6, q6⟩ => ?_)
    refine wpAny_passesOwn hp (thn (hb _ s6 σ6 H6 _ I6 q6) fun f s7 q7 => ?_)
    have again : ∀ {σ7 : St} {H7 : Hp}, Inv X (pins ++ pinsAt fp s5.heap) σ7 H7 s7 → N σ7 H7 → ∃ m, m < n ∧ ∃ i σ' H', Inv X pins σ' H' s7 ∧ tn i s7.heap ∧ (∀ b ∈ fp, H' b = none) ∧ W i m σ' H' := fun {σ7 H7} I7 n7 => by
      obtain ⟨m', hm, w7⟩ := hN σ7 H7 n7
      refine ⟨m', hm, i + 1, σ7, H7, I7.unpinned, T.keep _ _ _ st5 fun b hb o e => (I7.pin (b, o) (List.mem_append_right _ (List.mem_append_right _ (mem_pinsAt hb e)))).1, fun b hb => ?_, w7⟩
      obtain ⟨o, e, d⟩ := T.obj _ _ st5 b hb
      exact (I7.pin (b, o) (List.mem_append_right _ (List.mem_append_right _ (mem_pinsAt hb e)))).2.1
    cases f with
    | next => obtain ⟨σ7, H7, I7, n7⟩ := q7; exact again I7 n7
    | cont => obtain ⟨σ7, H7, I7, n7⟩ := q7; exact again I7 n7
    | brk => obtain ⟨σ7, H7, I7, q7⟩ := q7; exact ⟨σ7, H7, I7.unpinned, q7⟩
    | ret v => obtain ⟨x7, σ7, H7, I7, r7, q7⟩ := q7; exact ⟨x7, σ7, H7, I7.unpinned, r7, q7⟩
end
theorem for_list {K : PySem.W.Frag} {a : Addr} {xs : List V} {g : TG} {tb : TS} {D : Ends} {σ : St} {H : Hp} (Pv : Nat → St → Hp → Prop) (h0 : Pv 0 σ H) (hl : ∀ i σ H, i ≤ xs.length → Pv i σ H → SqL K H a xs)
    (hs : ∀ i x σ H, xs[i]? = some x → Pv i σ H → g x σ H fun σ2 H2 => tb { D with nx := Pv (i + 1), ct := Pv (i + 1), bk := D.nx } σ2 H2) (hd : ∀ σ H, Pv xs.length σ H → D.nx σ H) :
    ∃ W : Nat → Nat → St → Hp → Prop, (∃ m, W 0 m σ H) ∧ ∀ i m σ H, W i m σ H →
      ((Itl K a).stop i H ∧ D.nx σ H) ∨ ((Itl K a).go i H ∧ ∃ N : St → Hp → Prop, (∀ σ' H', N σ' H' → ∃ m', m' < m ∧ W (i + 1) m' σ' H') ∧ ∀ x H', (Itl K a).yld i H x H' → g x σ H' fun σ2 H2 => tb { D with nx := N, ct := N, bk := D.nx } σ2 H2) := by
  refine ⟨fun i m σ H => m = xs.length - i ∧ i ≤ xs.length ∧ Pv i σ H, ⟨xs.length, by simp, Nat.zero_le _, h0⟩, ?_⟩
  rintro i m σ H ⟨rfl, hi, p⟩
  have q := hl i σ H hi p
  by_cases hlt : i < xs.length
  · refine .inr ⟨⟨xs, xs[i], q, by simp [hlt]⟩, Pv (i + 1), fun σ' H' p' => ⟨xs.length - (i + 1), by (first | lia | omega), rfl, hlt, p'⟩, fun x H' y => ?_⟩
    obtain ⟨e, y⟩ := y
    subst e
    exact hs i x σ _ (y xs q) p
  · have e : i = xs.length := by (first | lia | omega)
    subst e
    exact .inl ⟨⟨xs, q, Nat.le_refl _⟩, hd σ H p⟩
theorem for_range {lo : Int} {n : Nat} {g : TG} {tb : TS} {D : Ends} {σ : St} {H : Hp} (Pv : Nat → St → Hp → Prop) (h0 : Pv 0 σ H)
    (hs : ∀ i σ H, i < n → Pv i σ H → g (.int (lo + i)) σ H fun σ2 H2 => tb { D with nx := Pv (i + 1), ct := Pv (i + 1), bk := D.nx } σ2 H2) (hd : ∀ σ H, Pv n σ H → D.nx σ H) :
    ∃ W : Nat → Nat → St → Hp → Prop, (∃ m, W 0 m σ H) ∧ ∀ i m σ H, W i m σ H →
      ((Itr lo n).stop i H ∧ D.nx σ H) ∨ ((Itr lo n).go i H ∧ ∃ N : St → Hp → Prop, (∀ σ' H', N σ' H' → ∃ m', m' < m ∧ W (i + 1) m' σ' H') ∧ ∀ x H', (Itr lo n).yld i H x H' → g x σ H' fun σ2 H2 => tb { D with nx := N, ct := N, bk := D.nx } σ2 H2) := by
  refine ⟨fun i m σ H => m = n - i ∧ i ≤ n ∧ Pv i σ H, ⟨n, by simp, Nat.zero_le _, h0⟩, ?_⟩
  rintro i m σ H ⟨rfl, hi, p⟩
  by_cases hlt : i < n
  · refine .inr ⟨hlt, Pv (i + 1), fun σ' H' p' => ⟨n - (i + 1), by (first | lia | omega), rfl, hlt, p'⟩, fun x H' y => ?_⟩
    obtain ⟨e, y⟩ := y
    subst e y
    exact hs i σ _ hlt p
  · have e : i = n := by (first | lia | omega)
    subst e
    exact .inl ⟨Nat.le_refl _, hd σ H p⟩
theorem while_by {c : TT} {tb : TS} {D : Ends} {σ : St} {H : Hp} (Pv : St → Hp → Prop) (μ : St → Hp → Nat) (h0 : Pv σ H)
    (hs : ∀ σ H, Pv σ H → c σ H fun b H1 => if b = true then tb { D with nx := fun σ' H' => Pv σ' H' ∧ μ σ' H' < μ σ H, ct := fun σ' H' => Pv σ' H' ∧ μ σ' H' < μ σ H, bk := D.nx } σ H1 else D.nx σ H1)
    (mono : ∀ σ H Q Q', (∀ b H1, Q b H1 → Q' b H1) → c σ H Q → c σ H Q') : tWhile c tb D σ H := by
  refine ⟨fun m σ H => m = μ σ H ∧ Pv σ H, ⟨_, rfl, h0⟩, ?_⟩
  rintro m σ H ⟨rfl, p⟩
  refine mono σ H _ _ (fun b H1 q => ?_) (hs σ H p)
  cases b with
  | true => exact ⟨_, fun σ' H' ⟨p', l⟩ => ⟨_, l, rfl, p'⟩, q⟩
  | false => exact q
end L2
namespace L2
open PySem PySem.Spec PyProof.Rows
abbrev R2 := V → V → Hp → VK → Prop
def OpR (X : Cx) (f : Value → Value → Sem Value) (r : R2) : Prop :=
  ∀ (pins : List (Addr × Obj)) (s : Shared) (σ : St) (H : Hp) (x y : V) (v u : Value) (Q : VK), Inv X pins σ H s → RelV x v → RelV y u → r x y H Q →
    wpAny (model X.prog X.w) X.A (f v u) (EP X pins σ Q) X.xe s
def UnR (X : Cx) (f : Value → Sem Value) (r : V → Hp → VK → Prop) : Prop :=
  ∀ (pins : List (Addr × Obj)) (s : Shared) (σ : St) (H : Hp) (x : V) (v : Value) (Q : VK), Inv X pins σ H s → RelV x v → r x H Q →
    wpAny (model X.prog X.w) X.A (f v) (EP X pins σ Q) X.xe s
def CallR (X : Cx) (f : Value) (r : List V → Hp → VK → Prop) : Prop :=
  ∀ (pins : List (Addr × Obj)) (s : Shared) (σ : St) (H : Hp) (xs : List V) (us : List Value) (Q : VK), Inv X pins σ H s → Vals xs us → r xs H Q →
    wpAny (model X.prog X.w) X.A (call f us) (EP X pins σ Q) X.xe s
def tOp (r : R2) (ta tb : TE) : TE := fun σ H Q => ta σ H fun x H1 => tb σ H1 fun y H2 => r x y H2 Q
def tUn (r : V → Hp → VK → Prop) (ta : TE) : TE := fun σ H Q => ta σ H fun x H1 => r x H1 Q
def rI (C : Int → Int → Prop) (g : Int → Int → V) : R2 := fun x y H Q => onI x fun i => onI y fun j => C i j ∧ Q (g i j) H
def rI0 (g : Int → Int → V) : R2 := fun x y H Q => onI x fun i => onI y fun j => Q (g i j) H
def rU (g : Int → V) : V → Hp → VK → Prop := fun x H Q => onI x fun i => Q (g i) H
section
variable {X : Cx} {a b c : Expr} {ta tb tc : TE} {pos : Pos}
theorem binT (ha : PE X a ta) (hb : PE X b tb) {pins : List (Addr × Obj)} {s : Shared} {σ : St} {H : Hp} {R : V → V → Hp → Prop} (I : Inv X pins σ H s)
    (h : ta σ H fun x H1 => tb σ H1 fun y H2 => R x y H2) {Q : Value → Shared → Prop} {f : Value → Value → Sem Value}
    (hf : ∀ v u s2 x y H2, Inv X pins σ H2 s2 → RelV x v → RelV y u → R x y H2 → wpAny (model X.prog X.w) X.A (f v u) Q X.xe s2) :
    wpAny (model X.prog X.w) X.A (eval a X.env) (fun v s₁ => wpAny (model X.prog X.w) X.A (eval b X.env) (fun u s₂ => wpAny (model X.prog X.w) X.A (f v u) Q X.xe s₂) X.xe s₁) X.xe s := by
  refine thn (ha pins s σ H _ I h) fun v s1 ⟨x, H1, I1, r1, q1⟩ => ?_
  refine thn (hb pins s1 σ H1 _ I1 q1) fun u s2 ⟨y, H2, I2, r2, q2⟩ => ?_
  exact hf v u s2 x y H2 I2 r1 r2 q2
theorem pe_op {op : Operator} {r : R2} (ho : OpR X (binaryOp op) r) (ha : PE X a ta) (hb : PE X b tb) : PE X (.BinOp a op b pos) (tOp r ta tb) := by
  intro pins s σ H Q I h
  exact wpAny_BinOp (binT ha hb I h fun v u s2 x y H2 I2 rx ry q => ho pins s2 σ H2 x y v u Q I2 rx ry q)
theorem pe_un {op : UnaryOp} {r : V → Hp → VK → Prop} (ho : UnR X (unaryOp op) r) (ha : PE X a ta) : PE X (.UnaryOp op a pos) (tUn r ta) := by
  intro pins s σ H Q I h
  exact UnaryOp_ (thn (ha pins s σ H _ I h) fun v s1 ⟨x, H1, I1, r1, q1⟩ => ho pins s1 σ H1 x v Q I1 r1 q1)
theorem opI {f : Value → Value → Sem Value} {C : Int → Int → Prop} {g : Int → Int → Int}
    (rule : ∀ (i j : Int) (t u : Tok) (s : Shared) (Q : Value → Shared → Prop) (E : Value → Shared → Prop), C i j → Q (.int (g i j) s.toks) { s with toks := s.toks + 1 } → wpAny (model X.prog X.w) X.A (f (.int i t) (.int j u)) Q E s) :
    OpR X f (rI C fun i j => .int (g i j)) := by
  intro pins s σ H x y v u Q I rx ry h
  obtain ⟨i, j, rfl, rfl, hc, q⟩ := onII.ex h
  obtain ⟨t, rfl⟩ := rx
  obtain ⟨t', rfl⟩ := ry
  exact rule i j t t' s _ _ hc ⟨.int (g i j), H, I.tok _, ⟨_, rfl⟩, q⟩
theorem opI0 {f : Value → Value → Sem Value} {g : Int → Int → Int}
    (rule : ∀ (i j : Int) (t u : Tok) (s : Shared) (Q : Value → Shared → Prop) (E : Value → Shared → Prop), Q (.int (g i j) s.toks) { s with toks := s.toks + 1 } → wpAny (model X.prog X.w) X.A (f (.int i t) (.int j u)) Q E s) :
    OpR X f (rI0 fun i j => .int (g i j)) := by
  intro pins s σ H x y v u Q I rx ry h
  obtain ⟨i, j, rfl, rfl, q⟩ := onII.ex h
  obtain ⟨t, rfl⟩ := rx
  obtain ⟨t', rfl⟩ := ry
  exact rule i j t t' s _ _ ⟨.int (g i j), H, I.tok _, ⟨_, rfl⟩, q⟩
theorem opB0 {f : Value → Value → Sem Value} {g : Int → Int → Bool}
    (rule : ∀ (i j : Int) (t u : Tok) (s : Shared) (Q : Value → Shared → Prop) (E : Value → Shared → Prop), Q (.bool (g i j)) s → wpAny (model X.prog X.w) X.A (f (.int i t) (.int j u)) Q E s) :
    OpR X f (rI0 fun i j => .bl (g i j)) := by
  intro pins s σ H x y v u Q I rx ry h
  obtain ⟨i, j, rfl, rfl, q⟩ := onII.ex h
  obtain ⟨t, rfl⟩ := rx
  obtain ⟨t', rfl⟩ := ry
  exact rule i j t t' s _ _ ⟨.bl (g i j), H, I, rfl, q⟩
def CDiv (i j : Int) : Prop := 0 < j ∧ j < 1073741824
def CPow (i j : Int) : Prop := 0 ≤ j ∧ j ≤ 1000000 ∧ i.natAbs < 2 ^ 64
def CMul (i j : Int) : Prop := (-(2 ^ 64) < i ∧ i < 2 ^ 64) ∨ (-(2 ^ 64) < j ∧ j < 2 ^ 64)
theorem CMul.ok {i j : Int} (h : CMul i j) : IntMulOk i j := by
  rcases h with ⟨h1, h2⟩ | ⟨h1, h2⟩
  · exact .of_left (intBits_le_64 h1 h2)
  · exact .of_right (intBits_le_64 h1 h2)
theorem op_add : OpR X (binaryOp .Add) (rI0 fun i j => .int (i + j)) := opI0 fun _ _ _ _ _ _ _ q => add_int q
theorem op_sub : OpR X (binaryOp .Sub) (rI0 fun i j => .int (i - j)) := opI0 fun _ _ _ _ _ _ _ q => sub_int q
theorem op_mul : OpR X (binaryOp .Mult) (rI CMul fun i j => .int (i * j)) := opI fun _ _ _ _ _ _ _ hc q => mul_int q hc.ok
theorem op_fdiv : OpR X (binaryOp .FloorDiv) (rI CDiv fun i j => .int (i / j)) := opI fun i j _ _ _ _ _ hc q => by
  have h1 : (0 : Int) < j := hc.1
  have h2 : j < 1073741824 := hc.2
  exact floordiv_int (by (first | lia | omega)) (by rw [Int.fdiv_eq_ediv_of_nonneg i (by (first | lia | omega))]; exact q) (.inl (PyProof.noPylong_small (by (first | lia | omega))))
theorem op_mod : OpR X (binaryOp .Mod) (rI (fun _ j => 0 < j) fun i j => .int (i % j)) := opI fun i j _ _ _ _ _ hc q => by
  have h1 : (0 : Int) < j := hc
  exact mod_int' (by (first | lia | omega)) (by rw [Int.fmod_eq_emod_of_nonneg i (by (first | lia | omega))]; exact q)
theorem op_modN : OpR X (binaryOp .Mod) (rI (fun _ j => j ≠ 0) fun i j => .int (i.fmod j)) := opI fun _ _ _ _ _ _ _ hc q => mod_int' hc q
theorem op_pow : OpR X (binaryOp .Pow) (rI CPow fun i j => .int (i ^ j.toNat)) := opI fun _ _ _ _ _ _ _ hc q => pow_int_small hc.1 hc.2.1 hc.2.2 q
theorem unI {f : Value → Sem Value} {g : Int → Int}
    (rule : ∀ (i : Int) (t : Tok) (s : Shared) (Q : Value → Shared → Prop) (E : Value → Shared → Prop), Q (.int (g i) s.toks) { s with toks := s.toks + 1 } → wpAny (model X.prog X.w) X.A (f (.int i t)) Q E s) :
    UnR X f (rU fun i => .int (g i)) := by
  intro pins s σ H x v Q I rx h
  obtain ⟨i, rfl, q⟩ := onI.ex h
  obtain ⟨t, rfl⟩ := rx
  exact rule i t s _ _ ⟨.int (g i), H, I.tok _, ⟨_, rfl⟩, q⟩
theorem un_neg : UnR X (unaryOp .USub) (rU fun i => .int (-i)) := unI fun _ _ _ _ _ q => neg_int q
end
def scal : V → V → Bool
  | .non, .non => true | .non, .int _ => true | .int _, .non => true | .non, .bl _ => true | .bl _, .non => true | .non, .str _ => true | .str _, .non => true
  | .int _, .int _ => true | .bl _, .bl _ => true | .str _, .str _ => true | .byt _, .byt _ => true
  | .int _, .str _ => true | .str _, .int _ => true | .bl _, .str _ => true | .str _, .bl _ => true
  | _, _ => false
def rEq : R2 := fun x y H Q => onT (scal x y) (Q (.bl (decide (x = y))) H)
def rNe : R2 := fun x y H Q => onT (scal x y) (Q (.bl (!decide (x = y))) H)
theorem dec_int {i j : Int} : decide (V.int i = V.int j) = (i == j) := by
  rw [Bool.eq_iff_iff]
  simp
theorem dec_bl {i j : Bool} : decide (V.bl i = V.bl j) = (i == j) := by
  rw [Bool.eq_iff_iff]
  simp
theorem dec_str {i j : Str} : decide (V.str i = V.str j) = (i == j) := by
  rw [Bool.eq_iff_iff]
  simp
theorem dec_byt {i j : Array UInt8} : decide (V.byt i = V.byt j) = (i.toList == j.toList) := by
  rw [Bool.eq_iff_iff]
  cases i
  cases j
  simp
section
variable {X : Cx} {a b c : Expr} {ta tb tc : TE} {pos : Pos}
theorem fin_bl {pins : List (Addr × Obj)} {σ : St} {H : Hp} {s : Shared} {Q : VK} {k k' : Bool} (I : Inv X pins σ H s) (q : Q (.bl k) H) (e : k = k') : EP X pins σ Q (.bool k') s := by
  subst e
  exact ⟨.bl k, H, I, rfl, q⟩
theorem op_eq : OpR X (compareOp .Eq) rEq := by
  intro pins s σ H x y v u Q I rx ry h
  obtain ⟨hs, q⟩ := onT.ex h
  cases x with
  | non =>
    cases rx
    cases y with
    | non => cases ry; exact PySem.EqNone.eq_none_none (fin_bl I q (by simp))
    | bl j => cases ry; exact PySem.EqNone.eq_none_bool (fin_bl I q (by simp))
    | int j => obtain ⟨t', rfl⟩ := ry; exact PySem.EqNone.eq_none_int (fin_bl I q (by simp))
    | str j => obtain ⟨t', rfl⟩ := ry; exact PySem.EqNone.eq_none_str (fin_bl I q (by simp))
    | _ => exact absurd (show false = true from hs) Bool.false_ne_true
  | bl i =>
    cases rx
    cases y with
    | non => cases ry; exact PySem.EqNone.eq_bool_none (fin_bl I q (by simp))
    | bl j => cases ry; exact eq_bool (fin_bl I q dec_bl)
    | str j => obtain ⟨t', rfl⟩ := ry; exact PySem.EqMixed.eq_bool_str (fin_bl I q (by simp))
    | _ => exact absurd (show false = true from hs) Bool.false_ne_true
  | int i =>
    obtain ⟨t, rfl⟩ := rx
    cases y with
    | non => cases ry; exact PySem.EqNone.eq_int_none (fin_bl I q (by simp))
    | int j => obtain ⟨t', rfl⟩ := ry; exact eq_int (fin_bl I q dec_int)
    | str j => obtain ⟨t', rfl⟩ := ry; exact PySem.EqMixed.eq_int_str (fin_bl I q (by simp))
    | _ => exact absurd (show false = true from hs) Bool.false_ne_true
  | str i =>
    obtain ⟨t, rfl⟩ := rx
    cases y with
    | non => cases ry; exact PySem.EqNone.eq_str_none (fin_bl I q (by simp))
    | bl j => cases ry; exact PySem.EqMixed.eq_str_bool (fin_bl I q (by simp))
    | int j => obtain ⟨t', rfl⟩ := ry; exact PySem.EqMixed.eq_str_int (fin_bl I q (by simp))
    | str j => obtain ⟨t', rfl⟩ := ry; exact eq_str (fin_bl I q dec_str)
    | _ => exact absurd (show false = true from hs) Bool.false_ne_true
  | byt i =>
    obtain ⟨t, rfl⟩ := rx
    cases y with
    | byt j => obtain ⟨t', rfl⟩ := ry; exact PySem.W.eq_bytes (fin_bl I q dec_byt)
    | _ => exact absurd (show false = true from hs) Bool.false_ne_true
  | _ => cases y <;> exact absurd (show false = true from hs) Bool.false_ne_true
theorem op_ne : OpR X (compareOp .NotEq) rNe := by
  intro pins s σ H x y v u Q I rx ry h
  obtain ⟨hs, q⟩ := onT.ex h
  cases x with
  | non =>
    cases rx
    cases y with
    | non => cases ry; exact PySem.EqNone.ne_none_none (fin_bl I q (by simp))
    | bl j => cases ry; exact PySem.EqNone.ne_none_bool (fin_bl I q (by simp))
    | int j => obtain ⟨t', rfl⟩ := ry; exact PySem.EqNone.ne_none_int (fin_bl I q (by simp))
    | str j => obtain ⟨t', rfl⟩ := ry; exact PySem.EqNone.ne_none_str (fin_bl I q (by simp))
    | _ => exact absurd (show false = true from hs) Bool.false_ne_true
  | bl i =>
    cases rx
    cases y with
    | non => cases ry; exact PySem.EqNone.ne_bool_none (fin_bl I q (by simp))
    | bl j => cases ry; exact ne_bool (fin_bl I q (congrArg not dec_bl))
    | str j => obtain ⟨t', rfl⟩ := ry; exact PySem.EqMixed.ne_bool_str (fin_bl I q (by simp))
    | _ => exact absurd (show false = true from hs) Bool.false_ne_true
  | int i =>
    obtain ⟨t, rfl⟩ := rx
    cases y with
    | non => cases ry; exact PySem.EqNone.ne_int_none (fin_bl I q (by simp))
    | int j => obtain ⟨t', rfl⟩ := ry; exact ne_int (fin_bl I q (congrArg not dec_int))
    | str j => obtain ⟨t', rfl⟩ := ry; exact PySem.EqMixed.ne_int_str (fin_bl I q (by simp))
    | _ => exact absurd (show false = true from hs) Bool.false_ne_true
  | str i =>
    obtain ⟨t, rfl⟩ := rx
    cases y with
    | non => cases ry; exact PySem.EqNone.ne_str_none (fin_bl I q (by simp))
    | bl j => cases ry; exact PySem.EqMixed.ne_str_bool (fin_bl I q (by simp))
    | int j => obtain ⟨t', rfl⟩ := ry; exact PySem.EqMixed.ne_str_int (fin_bl I q (by simp))
    | str j => obtain ⟨t', rfl⟩ := ry; exact ne_str (fin_bl I q (congrArg not dec_str))
    | _ => exact absurd (show false = true from hs) Bool.false_ne_true
  | byt i =>
    obtain ⟨t, rfl⟩ := rx
    cases y with
    | byt j => obtain ⟨t', rfl⟩ := ry; exact PySem.W.ne_bytes (fin_bl I q (congrArg not dec_byt))
    | _ => exact absurd (show false = true from hs) Bool.false_ne_true
  | _ => cases y <;> exact absurd (show false = true from hs) Bool.false_ne_true
theorem op_lt : OpR X (compareOp .Lt) (rI0 fun i j => .bl (decide (i < j))) := opB0 fun _ _ _ _ _ _ _ q => lt_int q
theorem op_le : OpR X (compareOp .LtE) (rI0 fun i j => .bl (decide (i ≤ j))) := opB0 fun _ _ _ _ _ _ _ q => le_int q
theorem op_gt : OpR X (compareOp .Gt) (rI0 fun i j => .bl (decide (j < i))) := opB0 fun _ _ _ _ _ _ _ q => gt_int q
theorem op_ge : OpR X (compareOp .GtE) (rI0 fun i j => .bl (decide (j ≤ i))) := opB0 fun _ _ _ _ _ _ _ q => ge_int q
theorem op_notN : OpR X (compareOp .IsNot) (fun x y H Q => y = .non ∧ Q (.bl (!decide (x = .non))) H) := by
  intro pins s σ H x y v u Q I rx ry h
  obtain ⟨rfl, q⟩ := h
  cases ry
  refine isnot_none_gen (fin_bl I q ?_)
  cases x <;> first
    | (cases rx; rfl)
    | (obtain ⟨t, rfl⟩ := rx; rfl)
theorem nomark (b : Expr) {op : CmpOp} (h : op ≠ .In := by decide) (h2 : op ≠ .NotIn := by decide) : behindInMarks op b = false := by
  have e1 : (op == CmpOp.In) = false := by cases op <;> first | rfl | exact absurd rfl h
  have e2 : (op == CmpOp.NotIn) = false := by cases op <;> first | rfl | exact absurd rfl h2
  cases b <;> simp [behindInMarks, e1, e2]
theorem pe_cmpR {op : CmpOp} {r : R2} (ho : OpR X (compareOp op) r) (ha : PE X a ta) (hb : PE X b tb) (hm : behindInMarks op b = false) : PE X (.Compare a [op] [b] pos) (tOp r ta tb) := by
  intro pins s σ H Q I h
  exact wpAny_Compare1 (binT ha hb I h fun v u s2 x y H2 I2 rx ry q => ho pins s2 σ H2 x y v u Q I2 rx ry q) hm
def tTest (t : TE) : TT := fun σ H Q => t σ H fun x H' => ∃ k, x = .bl k ∧ Q k H'
theorem pt_cmpR {op : CmpOp} {r : R2} (ho : OpR X (compareOp op) r) (ha : PE X a ta) (hb : PE X b tb) (hm : behindInMarks op b = false) : PT X (.Compare a [op] [b] pos) (tTest (tOp r ta tb)) := by
  intro pins s σ H Q I h
  refine wpAny_isTrue_Compare1 (thn (ha pins s σ H _ I h) fun v s1 ⟨x, H1, I1, r1, q1⟩ => thn (hb pins s1 σ H1 _ I1 q1) fun u s2 ⟨y, H2, I2, r2, q2⟩ =>
    thn (ho pins s2 σ H2 x y v u _ I2 r1 r2 q2) fun c s3 ⟨z, H3, I3, r3, k, e, q3⟩ => ?_) hm
  subst e
  cases r3
  exact wpAny_truthy_bool ⟨H3, I3, q3⟩
theorem line63 : (sizeLine : Nat) < 2 ^ 63 := by rw [sizeLine_eq]; decide
theorem vals1 {x : V} {us : List Value} (r : Vals [x] us) : ∃ u, us = [u] ∧ RelV x u := by
  cases r with
  | cons r1 r2 => cases r2; exact ⟨_, rfl, r1⟩
theorem vals2 {x y : V} {us : List Value} (r : Vals [x, y] us) : ∃ u w', us = [u, w'] ∧ RelV x u ∧ RelV y w' := by
  cases r with
  | cons r1 r2 =>
    cases r2 with
    | cons r3 r4 => cases r4; exact ⟨_, _, rfl, r1, r3⟩
theorem call_abs : CallR X (.builtin "abs") (fun xs H Q => ∃ i, xs = [.int i] ∧ Q (.int (if i < 0 then -i else i)) H) := by
  intro pins s σ H xs us Q I r h
  obtain ⟨i, rfl, q⟩ := h
  obtain ⟨u, rfl, t, rfl⟩ := vals1 r
  exact call_abs_int fun u tk => ⟨.int (if i < 0 then -i else i), H, I.tok _, ⟨_, rfl⟩, q⟩
theorem call_int1 : CallR X (.type "int") (fun xs H Q => (∃ i, xs = [.int i] ∧ Q (.int i) H) ∨ ∃ k, xs = [.bl k] ∧ Q (.int (if k then 1 else 0)) H) := by
  intro pins s σ H xs us Q I r h
  rcases h with ⟨i, rfl, q⟩ | ⟨k, rfl, q⟩
  · obtain ⟨u, rfl, t, rfl⟩ := vals1 r
    exact call_int_int ⟨.int i, H, I, ⟨_, rfl⟩, q⟩
  · obtain ⟨u, rfl, r1⟩ := vals1 r
    cases r1
    exact call_int_bool ⟨.int (if k then 1 else 0), H, I.tok _, ⟨_, rfl⟩, q⟩
end
end L2
namespace L2
open PySem PySem.Spec PyProof.Rows
structure ObjM (h : Heap) (x dx C : Addr) (mA : Str → Option Value) : Prop where
  obj : h.get? x = some (PySem.W.instObj C dx)
  ns : h.Ns1 dx mA
  ne : dx ≠ x
theorem lookIn_ns {h : Heap} {dx : Addr} {mA : Str → Option Value} (n : h.Ns1 dx mA) : ∃ od, h.get? dx = some od ∧ ∀ name, PySem.W.lookIn name od = some (mA name) := by
  obtain ⟨o, es, ep, ho, hd, hk, _, hm⟩ := n
  refine ⟨o, ho, fun name => ?_⟩
  have e := hm name
  unfold nsFind findBy at e
  rw [← Array.find?_toList] at e
  unfold PySem.W.lookIn
  rw [hd]
  dsimp only
  split
  · rename_i y q
    rw [q] at e
    exact congrArg some e
  · rename_i q
    rw [q] at e
    have a : es.toList.any (·.refKey) = false := by
      rw [List.any_eq_false]
      intro y hy
      obtain ⟨z, t, hkey⟩ := hk y (Array.mem_toList_iff.mp hy)
      simp [DictEntry.refKey, hkey]
    have a' : ¬ es.toList.any (·.refKey) = true := by rw [a]; exact Bool.false_ne_true
    rw [if_neg a']
    exact congrArg some e
theorem ObjM.look {h : Heap} {x dx C : Addr} {mA : Str → Option Value} (I : ObjM h x dx C mA) : ∃ od, PySem.W.InstAt h x (PySem.W.instObj C dx) C (some od) ∧ ∀ name, PySem.W.lookIn name od = some (mA name) :=
  let ⟨od, ho, hl⟩ := lookIn_ns I.ns
  ⟨od, ⟨I.obj, rfl, rfl, ho⟩, hl⟩
section
variable {prog : Program} {w : World} {A : Around} {E : Value → Shared → Prop} {s : Shared} {K : PySem.W.Frag} {x dx C f : Addr} {mA : Str → Option Value} {name : Str} {v : Value}
theorem get_map {expr : Bool} {Q : Value → Shared → Prop} (X : K.In s.heap) (I : ObjM s.heap x dx C mA) (hg : PySem.W.plainGet K C name = true) (hh : PySem.W.hasDictIn K C = true)
    (ha : PySem.W.findIn K (.ref C) name = some none) (hv : mA name = some v) (hv' : PySem.W.handedIn v = true) (h : Q v { s with toks := s.toks + 1 }) :
    wpAny (model prog w) A (getAttr (.ref x) name expr) Q E s := by
  obtain ⟨od, J, hl⟩ := I.look
  exact PySem.W.get_value X J (PySem.W.plainGet_of hg).1 (PySem.W.findObj_own hh ha rfl (by rw [hl, hv])) hv' h
theorem set_map {ns : List Str} {Q : Unit → Shared → Prop} (X : K.In s.heap) (I : ObjM s.heap x dx C mA)
    (hs : PySem.W.findIn K (.ref C) "__setattr__" = some (some (.builtin "object.__setattr__"))) (hp : PySem.W.plainOver K C = true) (ht : PySem.W.takerIn K C name = some none) (hh : PySem.W.hasDictIn K C = true)
    (hw : PySem.Within mA ns) (hsz : ns.length ≤ sizeLine)
    (h : ∀ h', ObjM h' x dx C (fun y => if y = name then some v else mA y) → Heap.SameBut dx s.heap h' → Q () { s with heap := h', toks := s.toks + 2 }) :
    wpAny (model prog w) A (setAttr (.ref x) name v) Q E s := by
  obtain ⟨od, J, hl⟩ := I.look
  refine PySem.W.set_plain X J hs (PySem.W.osa_open (s := { s with toks := s.toks + 1 }) (r := none) X J hp ht fun b => ?_)
  obtain ⟨cd, hc, hd'⟩ := PySem.W.any_some hh
  have hx : s.heap.get? x = some ⟨.ref C, some dx, .plain, #[]⟩ := I.obj
  refine wpAny_bind (wpAny_pure (wpAny_bind (wpAny_bind (wpAny_loadPart hx (wpAny_bind (PySem.W.Looks.here (s := { s with toks := s.toks + 1 }) (PySem.W.looks_clsIn X hc) ?_))))))
  rw [hd']
  refine wpAny_pure (a := some dx) (wpAny_bind (wpAny_pure (wpAny_bind ?_)))
  refine wpAny_nsSet1 (s := { s with toks := s.toks + 1 }) I.ns fun h' hn2 hs2 => ?_
  obtain ⟨oD, esD, epD, hoD, hdD, hcD⟩ := hn2.count (PySem.Within.cons name v hw)
  refine wpAny_bind (wpAny_lookBehind hoD (by rw [hdD]; exact pastItsLine_dict (Nat.le_trans hcD (by rw [List.length_cons]; (first | lia | omega)))) ?_)
  exact wpAny_pure (h _ ⟨(hs2.2 _ (Ne.symm I.ne)).trans I.obj, hn2, I.ne⟩ hs2)
theorem make_map {R : Result → Shared → Prop} {vs : List Value} {kw : List (Str × Value)} (X : K.In s.heap) (hm : PySem.W.makesIn K C = true)
    (hi : PySem.W.findIn K (.ref C) "__init__" = some (some (.ref f))) (hf : PySem.W.typeIn K (.ref f) = some (.type "function"))
    (h : codeAny (model prog w) (A.under (.builtin "type.__call__" ⟨.ref C :: vs, kw⟩)) (.call (.ref f) ⟨.ref (s.heap.objs.size + 1) :: vs, kw⟩) (PySem.W.InitBack (s.heap.objs.size + 1) R)
      { s with heap := (s.heap.push PySem.W.emptyDict).push (PySem.W.instObj C s.heap.objs.size) }) :
    codeAny (model prog w) A (.call (.ref C) ⟨vs, kw⟩) R s := by
  obtain ⟨hh, g, d, t, os⟩ := s
  exact PySem.W.make_core (PySem.W.makes_of X hm) (PySem.W.looks_findIn X hi) (fun self => PySem.W.bind_fn X self hf) (.inl rfl) h
end
def putF (f : Str) (v : V) : List (Str × V) → List (Str × V)
  | [] => [(f, v)]
  | (g, x) :: r => if g = f then (g, v) :: r else (g, x) :: putF f v r
theorem lookup_putF (f g : Str) (v : V) : ∀ fs : List (Str × V), (putF f v fs).lookup g = if g = f then some v else fs.lookup g
  | [] => by
    show List.lookup g [(f, v)] = _
    by_cases h : g = f
    · have hb : (g == f) = true := beq_iff_eq.mpr h
      simp only [List.lookup, hb, if_pos h]
    · have hb : (g == f) = false := beq_eq_false_iff_ne.mpr h
      simp only [List.lookup, hb, if_neg h]
  | (k, x) :: r => by
    have ih := lookup_putF f g v r
    rw [show putF f v ((k, x) :: r) = (if k = f then (k, v) :: r else (k, x) :: putF f v r) from rfl]
    by_cases hk : k = f
    · rw [if_pos hk]
      by_cases h : g = k
      · have hb : (g == k) = true := beq_iff_eq.mpr h
        simp only [List.lookup, hb, if_pos (h.trans hk)]
      · have hb : (g == k) = false := beq_eq_false_iff_ne.mpr h
        simp only [List.lookup, hb, if_neg (fun e : g = f => h (e.trans hk.symm))]
    · rw [if_neg hk]
      by_cases h : g = k
      · have hb : (g == k) = true := beq_iff_eq.mpr h
        simp only [List.lookup, hb, if_neg (fun e : g = f => hk (h.symm.trans e))]
      · have hb : (g == k) = false := beq_eq_false_iff_ne.mpr h
        simp only [List.lookup, hb]
        exact ih
theorem keys_putF (f : Str) (v : V) : ∀ fs : List (Str × V), f ∈ (putF f v fs).map (·.1) ∧ ∀ g, g ∈ fs.map (·.1) → g ∈ (putF f v fs).map (·.1)
  | [] => ⟨by simp [putF], fun g h => by simp at h⟩
  | (k, x) :: r => by
    obtain ⟨i1, i2⟩ := keys_putF f v r
    rw [show putF f v ((k, x) :: r) = (if k = f then (k, v) :: r else (k, x) :: putF f v r) from rfl]
    by_cases hk : k = f
    · rw [if_pos hk]
      subst hk
      exact ⟨by simp, fun g h => by simpa using h⟩
    · rw [if_neg hk]
      refine ⟨?_, fun g h => ?_⟩
      · rw [List.map_cons]
        exact List.mem_cons_of_mem _ i1
      · rw [List.map_cons] at h ⊢
        rcases List.mem_cons.mp h with e | e
        · exact List.mem_cons.mpr (.inl e)
        · exact List.mem_cons_of_mem _ (i2 g e)
theorem length_putF (f : Str) (v : V) : ∀ fs : List (Str × V), (putF f v fs).length ≤ fs.length + 1
  | [] => by simp [putF]
  | (k, x) :: r => by
    have ih := length_putF f v r
    rw [show putF f v ((k, x) :: r) = (if k = f then (k, v) :: r else (k, x) :: putF f v r) from rfl]
    by_cases hk : k = f
    · rw [if_pos hk, List.length_cons, List.length_cons]; (first | lia | omega)
    · rw [if_neg hk, List.length_cons, List.length_cons]; (first | lia | omega)
theorem RelO.some_of {v : V} {o : Option Value} (r : RelO (some v) o) : ∃ u, o = some u ∧ RelV v u := by
  cases o with
  | none => exact (show False from r).elim
  | some u => exact ⟨u, rfl, r⟩
theorem handed_of {v : V} {u : Value} (r : RelV v u) : PySem.W.handedIn u = true := by
  cases v with
  | non => cases (show u = Value.none from r); rfl
  | bl b => cases (show u = Value.bool b from r); rfl
  | int i => obtain ⟨t, e⟩ := (show ∃ t, u = Value.int i t from r); cases e; rfl
  | str x => obtain ⟨t, e⟩ := (show ∃ t, u = Value.str x t from r); cases e; rfl
  | byt b => obtain ⟨t, e⟩ := (show ∃ t, u = Value.bytes b t from r); cases e; rfl
  | flt b => obtain ⟨t, e⟩ := (show ∃ t, u = Value.float b t from r); cases e; rfl
  | ref a => cases (show u = Value.ref a from r); rfl
  | ty n => cases (show u = Value.type n from r); rfl
section
variable {P : Program} {w : World} {H H' : Hp} {h h' : Heap} {a C dx : Addr} {fs fs' : List (Str × V)}
theorem ins_get (hok : HOk P w H h) (e : H a = some (.ins C dx fs)) : ∃ mA, ObjM h a dx C mA ∧ (∀ f, RelO (fs.lookup f) (mA f)) ∧ PySem.Within mA (fs.map (·.1)) ∧ fs.length ≤ 1000 ∧ H dx = some (.own a) := by
  obtain ⟨d, z, ne, ob, mA, n, r, q⟩ := (show ObjOk P w H h a (.ins C dx fs) from hok a _ e)
  exact ⟨mA, ⟨ob, n, ne⟩, r, q, z, d⟩
end
structure Cls (K : PySem.W.Frag) (C : Addr) : Prop where
  pg : PySem.W.plainGet K C Str.empty = true
  hd : PySem.W.hasDictIn K C = true
  po : PySem.W.plainOver K C = true
  sa : PySem.W.findIn K (.ref C) "__setattr__" = some (some (.builtin "object.__setattr__"))
theorem Cls.get {K : PySem.W.Frag} {C : Addr} (c : Cls K C) (f : Str) : PySem.W.plainGet K C f = true := c.pg
def NoAttr (K : PySem.W.Frag) (C : Addr) (f : Str) : Prop := PySem.W.findIn K (.ref C) f = some none
theorem NoAttr.taker {K : PySem.W.Frag} {C : Addr} {f : Str} (n : NoAttr K C f) : PySem.W.takerIn K C f = some none := by
  unfold PySem.W.takerIn
  rw [show PySem.W.findIn K (.ref C) f = some none from n]
  rfl
section
variable {X : Cx} {pins : List (Addr × Obj)} {σ : St} {H : Hp} {s : Shared} {a C dx : Addr} {fs : List (Str × V)} {f : Str} {v : V} {A : Around} {E : Value → Shared → Prop}
theorem getattr_ok {b : Bool} {Q : Value → Shared → Prop} (I : Inv X pins σ H s) (e : H a = some (.ins C dx fs)) (c : Cls X.K C) (n : NoAttr X.K C f) (l : fs.lookup f = some v)
    (h : ∀ u s', Inv X pins σ H s' → RelV v u → Q u s') : wpAny (model X.prog X.w) A (getAttr (.ref a) f b) Q E s := by
  obtain ⟨mA, O, r, _, _, _⟩ := ins_get I.hok e
  obtain ⟨u, hu, ru⟩ := RelO.some_of (v := v) (o := mA f) (by rw [← l]; exact r f)
  exact get_map I.kIn O (c.get f) c.hd n hu (handed_of ru) (h u _ (I.tok _) ru)
theorem setattr_ok {y : V} {u : Value} {Q : Unit → Shared → Prop} (I : Inv X pins σ H s) (e : H a = some (.ins C dx fs)) (c : Cls X.K C) (n : NoAttr X.K C f) (hl : fs.length < 1000) (ry : RelV y u)
    (h : ∀ s', Inv X pins σ (upd H a (.ins C dx (putF f y fs))) s' → Q () s') : wpAny (model X.prog X.w) A (setAttr (.ref a) f u) Q E s := by
  obtain ⟨mA, O, r, wi, _, ho⟩ := ins_get I.hok e
  have hz : (fs.map (·.1)).length ≤ sizeLine := by rw [List.length_map, sizeLine_eq]; (first | lia | omega)
  refine set_map I.kIn O c.sa c.po n.taker c.hd wi hz fun h' O' sb => h _ ?_
  have hd : ∃ o, h'.get? dx = some o := let ⟨o, _, _, e', _⟩ := O'.ns; ⟨o, e'⟩
  refine I.write (x := a) (e := dx) (by rw [e]; exact True.intro) (.inr ho) (fun b q hb z => (sb.2 b hb).trans z) hd ?_
  refine ⟨by rw [upd_ne O.ne]; exact ho, ?_, O.ne, O'.obj, _, O'.ns, fun g => ?_, fun g hg => ?_⟩
  · have := length_putF f y fs; (first | lia | omega)
  · show RelO ((putF f y fs).lookup g) (if g = f then some u else mA g)
    rw [lookup_putF]
    by_cases q : g = f
    · rw [if_pos q, if_pos q]; exact ry
    · rw [if_neg q, if_neg q]; exact r g
  · by_cases q : g = f
    · rw [q]; exact (keys_putF f y fs).1
    · refine (keys_putF f y fs).2 g (wi g fun z => hg ?_)
      show (if g = f then some u else mA g) = none
      rw [if_neg q]; exact z
theorem Inv.made (I : Inv X pins σ H s) : Inv X pins σ (upd (upd H s.heap.objs.size (.own (s.heap.objs.size + 1))) (s.heap.objs.size + 1) (.ins C s.heap.objs.size []))
    { s with heap := (s.heap.push PySem.W.emptyDict).push (PySem.W.instObj C s.heap.objs.size) } := by
  have e1 : (s.heap.push PySem.W.emptyDict).get? s.heap.objs.size = some PySem.W.emptyDict := Heap.get?_push_size s.heap rfl
  have e2 : ((s.heap.push PySem.W.emptyDict).push (PySem.W.instObj C s.heap.objs.size)).get? (s.heap.objs.size + 1) = some (PySem.W.instObj C s.heap.objs.size) := by
    have := Heap.get?_push_size (s.heap.push PySem.W.emptyDict) (o := PySem.W.instObj C s.heap.objs.size) rfl
    rwa [Heap.size_push] at this
  have e3 : (s.heap.push PySem.W.emptyDict).Ns s.heap.objs.size (fun _ => none) := ⟨PySem.W.emptyDict, #[], _, e1, rfl, (fun e he => absurd he (by simp)), fun _ => rfl⟩
  have I1 := I.laid (a := s.heap.objs.size) (o := .own (s.heap.objs.size + 1)) (h' := s.heap.push PySem.W.emptyDict) (t' := s.toks) (fun b u q => Heap.get?_push_of_some _ q) (Nat.le_refl _) ⟨_, e1⟩
  refine I1.laid (a := s.heap.objs.size + 1) (o := .ins C s.heap.objs.size []) (t' := s.toks) (fun b u q => Heap.get?_push_of_some _ q) (Nat.le_of_eq (Heap.size_push _ _)) ?_
  have ne : s.heap.objs.size ≠ s.heap.objs.size + 1 := Nat.ne_of_lt (Nat.lt_succ_self _)
  refine ⟨by rw [upd_ne ne, upd_same], Nat.zero_le _, ne, e2, fun _ => none, (Heap.Ns1.of_empty e3).at fun o q => Heap.get?_push_of_some _ q, fun _ => True.intro, fun y hy => absurd rfl hy⟩
theorem attr_of {prog : Program} {w : World} {env : Env} {e : Expr} {f : Str} {pos : Pos} {s : Shared} {Q : Value → Shared → Prop} (hb : attributeBase e f env (eval e env) = eval e env)
    (h : wpAny (model prog w) A (eval e env) (fun o s₁ => wpAny (model prog w) A (getAttr o f true) Q E s₁) E s) : wpAny (model prog w) A (eval (.Attribute e f pos) env) Q E s :=
  Attribute_any_ h (by rw [arm_eval_Attribute, hb])
end
def tFld (K : PySem.W.Frag) (ta : TE) (f : Str) : TE := fun σ H Q => ta σ H fun x H1 => ∃ a C dx fs v, x = .ref a ∧ H1 a = some (.ins C dx fs) ∧ Cls K C ∧ NoAttr K C f ∧ fs.lookup f = some v ∧ Q v H1
def sFld (K : PySem.W.Frag) (ta tv : TE) (f : Str) : TS := fun D σ H => tv σ H fun y H1 => ta σ H1 fun x H2 => ∃ a C dx fs, x = .ref a ∧ H2 a = some (.ins C dx fs) ∧ Cls K C ∧ NoAttr K C f ∧ fs.length < 1000 ∧
  D.nx σ (upd H2 a (.ins C dx (putF f y fs)))
section
variable {X : Cx} {o e value : Expr} {f : Str} {pos pos' tpos : Pos} {ta tv : TE}
theorem pe_fld (he : PE X e ta) (hb : attributeBase e f X.env (eval e X.env) = eval e X.env) : PE X (.Attribute e f pos) (tFld X.K ta f) := by
  intro pins s σ H Q I h
  refine attr_of hb (thn (he pins s σ H _ I h) fun u s1 ⟨x, H1, I1, rx, a, C, dx, fs, v, ex, ea, c, n, l, q⟩ => ?_)
  subst ex
  obtain rfl : u = Value.ref a := rx
  exact getattr_ok I1 ea c n l fun u' s2 I2 ru => ⟨v, H1, I2, ru, q⟩
theorem ps_fld (ha : PE X o ta) (hv : PE X value tv) (hs : swapsWith value (some (.Attribute o f pos')) pos.line X.env = pure false) : PS X (.Assign [.Attribute o f pos'] value pos) (sFld X.K ta tv f) := by
  intro pins s σ H D I h
  refine plainObj_wpAny_Assign_Attribute (thn (hv pins s σ H _ I h) fun u s1 ⟨y, H1, I1, ry, q⟩ => thn (ha pins s1 σ H1 _ I1 q) fun ov s2 ⟨x, H2, I2, rx, a, C, dx, fs, ex, ea, c, n, l, q2⟩ => ?_) hs
  subst ex
  obtain rfl : ov = Value.ref a := rx
  exact setattr_ok I2 ea c n l ry fun s3 I3 => ⟨σ, _, I3, q2⟩
end
section
variable {X : Cx} {pins : List (Addr × Obj)} {σ : St} {H : Hp} {s : Shared} {A : Around} {E : Value → Shared → Prop} {Q : Value → Shared → Prop} {c : Value} {b : Bool}
inductive TyOf (K : PySem.W.Frag) (H : Hp) : V → Value → Prop where
  | non : TyOf K H .non (.type "NoneType")
  | bl (x : Bool) : TyOf K H (.bl x) (.type "bool")
  | int (i : Int) : TyOf K H (.int i) (.type "int")
  | str (x : Str) : TyOf K H (.str x) (.type "str")
  | flt (x : UInt64) : TyOf K H (.flt x) (.type "float")
  | lst {a : Addr} {xs : List V} (e : H a = some (.lst xs)) : TyOf K H (.ref a) (.type "list")
  | frz {a : Addr} {o : Obj} {xs : List V} (e : H a = some (.frz o (.lst xs))) : TyOf K H (.ref a) (.type "list")
  | tup {a : Addr} {xs : List V} (e : H a = some (.tup xs)) : TyOf K H (.ref a) (.type "tuple")
  | dK {a : Addr} {kvs : List (Key × V)} (e : H a = some (.dK kvs)) : TyOf K H (.ref a) (.type "dict")
  | dT {a : Addr} {kvs : List (List Key × V)} (e : H a = some (.dT kvs)) : TyOf K H (.ref a) (.type "dict")
  | ins {a C dx : Addr} {fs : List (Str × V)} (e : H a = some (.ins C dx fs)) (cl : Cls K C) (ha : PySem.W.findIn K (.ref C) "__class__" = some (some (.builtin "object.__class__")))
      (hn : PySem.W.specialIn K (.builtin "object.__class__") "__get__" = some (some (.builtin "getset_descriptor.__get__"))) (htk : PySem.W.takesIn K (.builtin "object.__class__") = some true)
      (hm : PySem.W.mroIn K C (.type "object") = some true) : TyOf K H (.ref a) (.ref C)
theorem isinst_ok {x : V} {u t : Value} (I : Inv X pins σ H s) (rx : RelV x u) (ty : TyOf X.K H x t) (e : PySem.W.kitOne X.K t c = some b) (h : ∀ tk, Q (.bool b) { s with toks := tk }) :
    wpAny (model X.prog X.w) A (call (.builtin "isinstance") [u, c]) Q E s := by
  cases ty with
  | non => cases (show u = Value.none from rx); exact PySem.W.kia_one PySem.W.kitx_none I.kIn True.intro e (fun z => nomatch z) h
  | bl y => cases (show u = Value.bool y from rx); exact PySem.W.kia_one PySem.W.kitx_bool I.kIn True.intro e (fun z => nomatch z) h
  | int i => obtain ⟨t, q⟩ := (show ∃ t, u = Value.int i t from rx); cases q; exact PySem.W.kia_one PySem.W.kitx_int I.kIn True.intro e (fun z => nomatch z) h
  | str y => obtain ⟨t, q⟩ := (show ∃ t, u = Value.str y t from rx); cases q; exact PySem.W.kia_one PySem.W.kitx_str I.kIn True.intro e (fun z => nomatch z) h
  | flt y => obtain ⟨t, q⟩ := (show ∃ t, u = Value.float y t from rx); cases q; exact PySem.W.kia_one PySem.W.kitx_float I.kIn True.intro e (fun z => nomatch z) h
  | @lst a xs ea =>
    cases (show u = Value.ref a from rx)
    obtain ⟨_, _, n, _, h1⟩ := (show ObjOk X.prog X.w H s.heap a (.lst xs) from I.hok a _ ea)
    exact PySem.W.kia_one PySem.W.kitx_list I.kIn ⟨_, h1, rfl⟩ e (fun z => nomatch z) h
  | @frz a ob xs ea =>
    cases (show u = Value.ref a from rx)
    obtain ⟨_, _, _, n, _, h1⟩ := (show ObjOk X.prog X.w H s.heap a (.frz ob (.lst xs)) from I.hok a _ ea)
    exact PySem.W.kia_one PySem.W.kitx_list I.kIn ⟨_, h1, rfl⟩ e (fun z => nomatch z) h
  | @tup a xs ea =>
    cases (show u = Value.ref a from rx)
    obtain ⟨_, _, _, p⟩ := (show ObjOk X.prog X.w H s.heap a (.tup xs) from I.hok a _ ea)
    obtain ⟨o, h1, h2, _⟩ := p
    exact PySem.W.kia_one PySem.W.kitx_tuple I.kIn ⟨o, h1, h2⟩ e (fun z => nomatch z) h
  | @dK a kvs ea =>
    cases (show u = Value.ref a from rx)
    obtain ⟨_, _, vs, _, p⟩ := (show ObjOk X.prog X.w H s.heap a (.dK kvs) from I.hok a _ ea)
    obtain ⟨o, es, ep, h1, h2, _⟩ := p
    exact PySem.W.kia_one PySem.W.kitx_dict I.kIn ⟨o, h1, h2.1⟩ e (fun z => nomatch z) h
  | @dT a kvs ea =>
    cases (show u = Value.ref a from rx)
    obtain ⟨_, _, xs, _, o, es, ep, h1, h2, _⟩ := (show ObjOk X.prog X.w H s.heap a (.dT kvs) from I.hok a _ ea)
    exact PySem.W.kia_one PySem.W.kitx_dict I.kIn ⟨o, h1, h2.1⟩ e (fun z => nomatch z) h
  | @ins a C dx fs ea cl ha hn htk hm =>
    cases (show u = Value.ref a from rx)
    obtain ⟨mA, O, _⟩ := ins_get I.hok ea
    obtain ⟨od, J, _⟩ := O.look
    exact PySem.W.kia_one (PySem.W.kitx_own (cl.get _) cl.hd ha hn htk hm) I.kIn J e (fun z => nomatch z) h
end
end L2
namespace L2
open PySem PySem.Spec PyProof.Rows
structure Room (k : Nat) (A : Around) : Prop where
  hd : A.handled = none
  dp : A.depth + 3 * k + 105 < recursionLimit
  un : A.units + 16 * k + 200 < cLine
theorem Room.mono {j k : Nat} {A : Around} (r : Room k A) (h : j ≤ k) : Room j A := ⟨r.hd, by have := r.dp; (first | lia | omega), by have := r.un; (first | lia | omega)⟩
theorem Room.deeper {k : Nat} {A : Around} (r : Room (k + 1) A) (env : Env) : Room k (A.deeper env) :=
  ⟨r.hd, by have := r.dp; show A.depth + 1 + 3 * k + 105 < _; (first | lia | omega), by have := r.un; show A.units + 3 + 16 * k + 200 < _; (first | lia | omega)⟩
theorem make_depth {A : Around} {C : Addr} {us : List Value} {kw : List (Str × Value)} : (A.under (.builtin "type.__call__" ⟨.ref C :: us, kw⟩)).depth = A.depth + 1 := by
  first | rfl | simp [Around.under, Code.weight, Code.isCreation, Code.isGuard, Code.isCaller, Code.frames, Code.isFrame, guardIds]
theorem make_units {A : Around} {C : Addr} {us : List Value} {kw : List (Str × Value)} : (A.under (.builtin "type.__call__" ⟨.ref C :: us, kw⟩)).units = A.units + 1 := by
  first | rfl | simp [Around.under, Code.cUnits, Code.frames, Code.isFrame]
theorem Room.make {k : Nat} {A : Around} (r : Room (k + 1) A) (C : Addr) (us : List Value) (kw : List (Str × Value)) : Room k (A.under (.builtin "type.__call__" ⟨.ref C :: us, kw⟩)) :=
  ⟨r.hd, by have := r.dp; rw [make_depth]; (first | lia | omega), by have := r.un; rw [make_units]; (first | lia | omega)⟩
theorem Room.depth {k : Nat} {A : Around} (r : Room k A) : A.depth < recursionLimit := by have := r.dp; (first | lia | omega)
theorem Room.units {k : Nat} {A : Around} (r : Room k A) : A.units + 64 < cLine := by have := r.un; (first | lia | omega)
theorem Room.units0 {k : Nat} {A : Around} (r : Room k A) : A.units < cLine := by have := r.un; (first | lia | omega)
def tNil : TA := fun _ H Q => Q [] H
def tCons (ta : TE) (tr : TA) : TA := fun σ H Q => ta σ H fun x H1 => tr σ H1 fun xs H2 => Q (x :: xs) H2
section
variable {X : Cx} {e : Expr} {es : List Expr} {te : TE} {t : TA} {pos : Pos}
theorem pa_nil : PA X [] tNil := fun _ _ _ _ H Q I h => Calls.spliced_nil ⟨[], H, I, .nil, h⟩
theorem pa_cons (ha : PE X e te) (hr : PA X es t) (hs : starEach (e :: es) X.env = (false, eval e X.env) :: starEach es X.env := by rfl) : PA X (e :: es) (tCons te t) := by
  intro pos pins s σ H Q I h
  rw [hs]
  show wpAny _ _ (spliced ((false, eval e X.env) :: backTo pos (starEach es X.env))) _ _ s
  refine Calls.spliced_cons (thn (ha pins s σ H _ I h) fun u s1 ⟨x, H1, I1, r1, q1⟩ => ?_)
  exact thn (hr pos pins s1 σ H1 _ I1 q1) fun us s2 ⟨xs, H2, I2, r2, q2⟩ => ⟨x :: xs, H2, I2, .cons r1 r2, q2⟩
def tTup (t : TA) : TE := fun σ H Q => t σ H fun xs H1 => xs.length ≤ sizeLine ∧ ∀ p, H1 p = none → Q (.ref p) (upd H1 p (.tup xs))
def tLst (t : TA) : TE := fun σ H Q => t σ H fun xs H1 => xs.length ≤ sizeLine ∧ ∀ p, H1 p = none → Q (.ref p) (upd H1 p (.lst xs))
theorem pe_tup {x1} (h : PA X es t) : PE X (.Tuple es x1 pos) (tTup t) := by
  intro pins s σ H Q I hq
  refine wpAny_Tuple_spliced (thn (h pos pins s σ H _ I hq) fun us s1 ⟨xs, H1, I1, r, z, q⟩ => ⟨by rw [← r.length]; exact z, ?_⟩)
  have hf : H1 s1.heap.objs.size = none := I1.hok.fresh (Nat.le_refl _)
  refine ⟨.ref s1.heap.objs.size, upd H1 s1.heap.objs.size (.tup xs), I1.laid (t' := s1.toks) (fun b u e => Heap.get?_push_of_some _ e) (Nat.le_refl _) ?_, rfl, q _ hf⟩
  exact ⟨z, us, r, ⟨_, Heap.get?_push_size _ rfl, rfl, _, rfl⟩⟩
theorem pe_lst (h : PA X es t) : PE X (.List es pos) (tLst t) := by
  intro pins s σ H Q I hq
  refine wpAny_List_spliced (thn (h pos pins s σ H _ I hq) fun us s1 ⟨xs, H1, I1, r, z, q⟩ => ⟨by rw [← r.length]; exact z, ?_⟩)
  have hf : H1 s1.heap.objs.size = none := I1.hok.fresh (Nat.le_refl _)
  refine ⟨.ref s1.heap.objs.size, upd H1 s1.heap.objs.size (.lst xs), I1.laid (t' := s1.toks) (fun b u e => Heap.get?_push_of_some _ e) (Nat.le_refl _) ?_, rfl, q _ hf⟩
  exact ⟨z, us, 0, r, Heap.get?_push_size _ rfl⟩
end
abbrev Sp := List V → Hp → VK → XK → Prop
abbrev CXT := List Env → Hp → Shared → XK → Value → Shared → Prop
structure Env0 (P : Program) (w : World) (K : PySem.W.Frag) (mg : Str → Option Value) (base : Heap) (A : Around) (outer : List Env) (s : Shared) (H : Hp) : Prop where
  frames : A.frames = some outer
  mod : Mod K mg base
  bs : ∀ b o, base.get? b = some o → s.heap.get? b = some o ∧ H b = none
  bsz : base.objs.size ≤ s.heap.objs.size
  funs : s.heap.FunFrames base outer
  frf : ∀ b ∈ frs outer, H b = none
  hok : HOk P w H s.heap
  bare : AllBare s.gens
def CE (outer : List Env) (P : Program) (w : World) (H : Hp) (s : Shared) (Q : VK) (u : Value) (s' : Shared) : Prop :=
  ∃ v H', s'.os = s.os ∧ AllBare s'.gens ∧ Un (frs outer) [] H H' s.heap s'.heap ∧ HOk P w H' s'.heap ∧ RelV v u ∧ Q v H'
def CR (CX : CXT) (outer : List Env) (P : Program) (w : World) (H : Hp) (s : Shared) (Q : VK) (E : XK) (r : Result) (s' : Shared) : Prop :=
  match r with
  | .ok (.ret u) => CE outer P w H s Q u s'
  | .ok _ => False
  | .error e => CX outer H s E e s'
structure FnOk (P : Program) (w : World) (K : PySem.W.Frag) (mg : Str → Option Value) (base : Heap) (CX : CXT) (k : Nat) (f : Addr) (fd : FuncData) (ps : List Str) (sp : Sp) : Prop where
  len : ∀ vs H Q E, sp vs H Q E → vs.length = ps.length
  run : ∀ (A : Around) (outer : List Env) (s : Shared) (H : Hp) (args : Args) (us : List Value) (vs : List V) (Q : VK) (E : XK), Room k A → Env0 P w K mg base A outer s H → BindsTo s fd args (ps.zip us) → Vals vs us → sp vs H Q E →
    codeAny (model P w) A (.call (.ref f) args) (CR CX outer P w H s Q E) s
theorem FnOk.mono {P : Program} {w : World} {K : PySem.W.Frag} {mg : Str → Option Value} {base : Heap} {CX : CXT} {j k : Nat} {f : Addr} {fd : FuncData} {ps : List Str} {sp : Sp} (F : FnOk P w K mg base CX j f fd ps sp) (h : j ≤ k) :
    FnOk P w K mg base CX k f fd ps sp := ⟨F.len, fun A outer s H args us vs Q E hr => F.run A outer s H args us vs Q E (hr.mono h)⟩
theorem Env0.make {P : Program} {w : World} {K : PySem.W.Frag} {mg : Str → Option Value} {base : Heap} {A : Around} {outer : List Env} {s : Shared} {H : Hp} (e : Env0 P w K mg base A outer s H) (C : Addr) (us : List Value) (kw : List (Str × Value)) :
    Env0 P w K mg base (A.under (.builtin "type.__call__" ⟨.ref C :: us, kw⟩)) outer s H := ⟨by first | exact e.frames | (simpa [Around.under, Code.envs, Code.isFrame, pushEnvs] using e.frames), e.mod, e.bs, e.bsz, e.funs, e.frf, e.hok, e.bare⟩
section
variable {X : Cx} {pins : List (Addr × Obj)} {σ : St} {H : Hp} {s s' : Shared}
theorem Inv.env0 (I : Inv X pins σ H s) : Env0 X.prog X.w X.K X.mg X.base X.A X.stack s H :=
  ⟨I.ok.frames, I.ok.mod, I.bs, Nat.le_trans I.ok.bsz I.sz, I.stack, I.stkFree, I.hok, I.bare⟩
theorem Inv.after {Q : VK} {u : Value} (I : Inv X pins σ H s) (h : CE X.stack X.prog X.w H s Q u s') : EP X pins σ Q u s' := by
  obtain ⟨v, H', os, bare, un, hok, r, q⟩ := h
  obtain ⟨hh, g, d, t, os'⟩ := s'
  obtain rfl : os' = s.os := os
  exact ⟨v, H', I.call (h' := hh) (g' := g) (d' := d) (t' := t) (ch := []) un hok bare (fun b z => absurd z (by simp)), r, q⟩
end
def tCall (sp : Sp) (dvs : List V) (E : XK) (t : TA) : TE := fun σ H Q => t σ H fun vs H1 => sp (vs ++ dvs) H1 Q E
def tMake (C : Addr) (sp : Sp) (dvs : List V) (E : XK) (t : TA) : TE := fun σ H Q => t σ H fun vs H1 => ∀ x dx, H1 x = none → H1 dx = none → dx ≠ x →
  sp (.ref x :: (vs ++ dvs)) (upd (upd H1 dx (.own x)) x (.ins C dx [])) (fun v H2 => v = .non ∧ Q (.ref x) H2) E
def Binds (K : PySem.W.Frag) (fd : FuncData) (ps : List Str) (ds : List Value) : Prop :=
  ∀ (s : Shared) (us : List Value), K.In s.heap → (us ++ ds).length = ps.length → BindsTo s fd ⟨us, []⟩ (ps.zip (us ++ ds))
theorem Binds.all {K : PySem.W.Frag} {fd : FuncData} {ps : List Str} (h : ∀ us : List Value, us.length = ps.length → bindArgs fd ⟨us, []⟩ = pure (ps.zip us)) : Binds K fd ps [] := fun s us _ hl => by
  rw [List.append_nil] at hl ⊢
  exact .of_eq (h us hl)
def Passes (CX : CXT) (X : Cx) (E : XK) : Prop := ∀ (pins : List (Addr × Obj)) (σ : St) (H : Hp) (s : Shared) (e : Value) (s' : Shared), Inv X pins σ H s → CX X.stack H s E e s' → X.xe e s'
section
variable {X : Cx} {CX : CXT} {k : Nat} {f C : Addr} {fd : FuncData} {ps : List Str} {sp : Sp} {dvs : List V} {ds : List Value} {E : XK} {x m : Str} {p pos apos : Pos} {e o : Expr} {es : List Expr} {ta : TE} {t : TA}
theorem run_fn {pins : List (Addr × Obj)} {σ : St} {H : Hp} {s : Shared} {Q : VK} {us : List Value} {vs : List V} (F : FnOk X.prog X.w X.K X.mg X.base CX k f fd ps sp) (hr : Room k X.A) (hb : Binds X.K fd ps ds) (hd : Vals dvs ds) (hx : Passes CX X E)
    (I : Inv X pins σ H s) (r : Vals vs us) (h : sp (vs ++ dvs) H Q E) : wpAny (model X.prog X.w) X.A (call (.ref f) us) (EP X pins σ Q) X.xe s := by
  have r2 : Vals (vs ++ dvs) (us ++ ds) := r.append hd
  have hl : (us ++ ds).length = ps.length := by rw [← r2.length]; exact F.len _ _ _ _ h
  refine wpAny_call (codeAny_mono (F.run X.A X.stack s H ⟨us, []⟩ (us ++ ds) (vs ++ dvs) Q E hr I.env0 (hb s us I.kIn hl) r2 h) fun r s' hq => ?_)
  cases r with
  | error e => exact hx pins σ H s e s' I hq
  | ok fl =>
    cases fl with
    | ret u => exact I.after hq
    | next => exact False.elim hq
    | brk => exact False.elim hq
    | cont => exact False.elim hq
theorem pe_call (F : FnOk X.prog X.w X.K X.mg X.base CX k f fd ps sp) (hr : Room k X.A) (hg : Gl X x) (hm : X.mg x = some (.ref f)) (hk : PySem.W.keepIn X.K (.ref f) = true) (hb : Binds X.K fd ps ds) (hd : Vals dvs ds) (hx : Passes CX X E)
    (ha : PA X (e :: es) t) (hdb : (x == ("__debug__" : Str)) = false := by decide) (he : starEach (e :: es) X.env = (false, eval e X.env) :: starEach es X.env := by rfl) (hpl : (backTo pos (starEach es X.env)).any (·.1) = false := by rfl) :
    PE X (.Call (.Name x p) (e :: es) [] pos) (tCall sp dvs E t) := by
  intro pins s σ H Q I h
  refine wpAny_Call_Name_kw (ld_glob I hg hm ?_ hdb)
  refine PySem.W.callWith_K (h₀ := X.base) I.ok.mod.kin hk (thn (ha pos pins s σ H _ I h) fun us s1 ⟨vs, H1, I1, r, q⟩ => ⟨I1.kIn, ?_⟩) he hpl
  exact run_fn F hr hb hd hx I1 r q
structure Mk (K : PySem.W.Frag) (C f : Addr) : Prop where
  makes : PySem.W.makesIn K C = true
  init : PySem.W.findIn K (.ref C) "__init__" = some (some (.ref f))
  fn : PySem.W.isFn K (.ref f) = true
  kp : PySem.W.keepIn K (.ref C) = true
theorem run_make {pins : List (Addr × Obj)} {σ : St} {H : Hp} {s : Shared} {Q : VK} {us : List Value} {vs : List V} (M : Mk X.K C f) (F : FnOk X.prog X.w X.K X.mg X.base CX k f fd ps sp) (hr : Room (k + 1) X.A) (hb : Binds X.K fd ps ds) (hd : Vals dvs ds)
    (hx : Passes CX X E) (I : Inv X pins σ H s) (r : Vals vs us)
    (h : ∀ x dx, H x = none → H dx = none → dx ≠ x → sp (.ref x :: (vs ++ dvs)) (upd (upd H dx (.own x)) x (.ins C dx [])) (fun v H2 => v = .non ∧ Q (.ref x) H2) E) :
    wpAny (model X.prog X.w) X.A (call (.ref C) us) (EP X pins σ Q) X.xe s := by
  have hq := h (s.heap.objs.size + 1) s.heap.objs.size (I.hok.fresh (Nat.le_succ _)) (I.hok.fresh (Nat.le_refl _)) (Nat.ne_of_lt (Nat.lt_succ_self _))
  have I2 := Inv.made (C := C) I
  have r2 : Vals (V.ref (s.heap.objs.size + 1) :: (vs ++ dvs)) (Value.ref (s.heap.objs.size + 1) :: (us ++ ds)) := .cons rfl (r.append hd)
  have hl : (Value.ref (s.heap.objs.size + 1) :: us ++ ds).length = ps.length := by
    have e := r2.length
    rw [F.len _ _ _ _ hq] at e
    exact e.symm
  refine wpAny_call (make_map (f := f) I.kIn M.makes M.init (beq_iff_eq.mp M.fn) (codeAny_mono (F.run _ X.stack _ _ ⟨Value.ref (s.heap.objs.size + 1) :: us, []⟩ (Value.ref (s.heap.objs.size + 1) :: (us ++ ds)) _ _ E (hr.make C us [])
    (I2.env0.make C us []) (hb _ (Value.ref (s.heap.objs.size + 1) :: us) I2.kIn hl) r2 hq) fun r s' hq' => ?_))
  cases r with
  | error e => exact hx pins σ _ _ e s' I2 hq'
  | ok fl =>
    cases fl with
    | ret u =>
      obtain ⟨v, H', I3, rv, ev, q3⟩ := I2.after hq'
      subst ev
      exact ⟨rv, ⟨V.ref (s.heap.objs.size + 1), H', I3, rfl, q3⟩⟩
    | next => exact False.elim hq'
    | brk => exact False.elim hq'
    | cont => exact False.elim hq'
theorem pe_make (M : Mk X.K C f) (F : FnOk X.prog X.w X.K X.mg X.base CX k f fd ps sp) (hr : Room (k + 1) X.A) (hg : Gl X x) (hm : X.mg x = some (.ref C)) (hb : Binds X.K fd ps ds) (hd : Vals dvs ds) (hx : Passes CX X E)
    (ha : PA X (e :: es) t) (hdb : (x == ("__debug__" : Str)) = false := by decide) (he : starEach (e :: es) X.env = (false, eval e X.env) :: starEach es X.env := by rfl) (hpl : (backTo pos (starEach es X.env)).any (·.1) = false := by rfl) :
    PE X (.Call (.Name x p) (e :: es) [] pos) (tMake C sp dvs E t) := by
  intro pins s σ H Q I h
  refine wpAny_Call_Name_kw (ld_glob I hg hm ?_ hdb)
  refine PySem.W.callWith_K (h₀ := X.base) I.ok.mod.kin M.kp (thn (ha pos pins s σ H _ I h) fun us s1 ⟨vs, H1, I1, r, q⟩ => ⟨I1.kIn, ?_⟩) he hpl
  exact run_make M F hr hb hd hx I1 r q
end
section
variable {X : Cx} {CX : CXT} {k : Nat} {f C : Addr} {fd : FuncData} {ps ks : List Str} {sp : Sp} {E : XK} {x m : Str} {p pos apos kpos : Pos} {e o : Expr} {es : List Expr} {kws : List Keyword} {te ta : TE} {t tk : TA} {nm : Option Str}
variable {g : List Value → List Value → List Value} {gV : List V → List V → List V}
end
structure FnScope (N P : List Str) (sc : Scope) : Prop where
  kind : sc.kind = .function
  co : sc.isCoroutine = false
  gen : sc.isGenerator = false
  nd : N.Nodup
  pre : N.take P.length = P
  par : ∀ x ∈ P, sc.names.lookup x = some .local ∨ sc.names.lookup x = some .cell
  nofree : ∀ y ∈ sc.names, y.2 ≠ .free
theorem bindL_out {kindOf : Str → Option NameKind} {x : Str} : ∀ {binds : List (Str × Value)} {m : Str → Option Value}, (∀ v, (x, v) ∉ binds) → bindL kindOf binds m x = m x
  | [], _, _ => rfl
  | (n, v) :: r, m, h => by
    unfold bindL
    rw [bindL_out fun w hw => h w (List.mem_cons_of_mem _ hw)]
    split
    · have : x ≠ n := by rintro rfl; exact h v List.mem_cons_self
      simp [this]
    · rfl
theorem bindC_out {kindOf : Str → Option NameKind} {x : Str} : ∀ {binds : List (Str × Value)} {m : Str → Option Value}, (∀ v, (x, v) ∉ binds) → bindC kindOf binds m x = m x
  | [], _, _ => rfl
  | (n, v) :: r, m, h => by
    unfold bindC
    rw [bindC_out fun w hw => h w (List.mem_cons_of_mem _ hw)]
    split
    · rfl
    · have : x ≠ n := by rintro rfl; exact h v List.mem_cons_self
      simp [this]
theorem bindL_get {kindOf : Str → Option NameKind} {x : Str} {v : Value} : ∀ {P : List Str} {vs : List Value} {i : Nat} {m : Str → Option Value}, P.Nodup → P[i]? = some x → vs[i]? = some v → kindOf x = some .local →
    bindL kindOf (P.zip vs) m x = some v
  | [], _, _, _, _, h, _, _ => by simp at h
  | _ :: _, [], _, _, _, _, h, _ => by simp at h
  | p :: P, w :: vs, 0, m, nd, h1, h2, hk => by
    simp at h1 h2; subst h1; subst h2
    show bindL kindOf ((p, w) :: P.zip vs) m p = _
    unfold bindL
    rw [bindL_out fun v hv => (List.nodup_cons.mp nd).1 (List.of_mem_zip hv).1, if_pos hk]
    simp
  | p :: P, w :: vs, i + 1, m, nd, h1, h2, hk => by
    show bindL kindOf ((p, w) :: P.zip vs) m x = _
    unfold bindL
    exact bindL_get (i := i) (List.nodup_cons.mp nd).2 (by simpa using h1) (by simpa using h2) hk
theorem bindC_get {kindOf : Str → Option NameKind} {x : Str} {v : Value} : ∀ {P : List Str} {vs : List Value} {i : Nat} {m : Str → Option Value}, P.Nodup → P[i]? = some x → vs[i]? = some v → kindOf x ≠ some .local →
    bindC kindOf (P.zip vs) m x = some v
  | [], _, _, _, _, h, _, _ => by simp at h
  | _ :: _, [], _, _, _, _, h, _ => by simp at h
  | p :: P, w :: vs, 0, m, nd, h1, h2, hk => by
    simp at h1 h2; subst h1; subst h2
    show bindC kindOf ((p, w) :: P.zip vs) m p = _
    unfold bindC
    rw [bindC_out fun v hv => (List.nodup_cons.mp nd).1 (List.of_mem_zip hv).1, if_neg hk]
    simp
  | p :: P, w :: vs, i + 1, m, nd, h1, h2, hk => by
    show bindC kindOf ((p, w) :: P.zip vs) m x = _
    unfold bindC
    exact bindC_get (i := i) (List.nodup_cons.mp nd).2 (by simpa using h1) (by simpa using h2) hk
def start (N : List Str) (vs : List V) : St := vs.map some ++ List.replicate (N.length - vs.length) none
def cxOf (CX : CXT) (P : Program) (w : World) (K : PySem.W.Frag) (mg : Str → Option Value) (base : Heap) (N : List Str) (qual : Str) (scope : Scope) (f : Addr) (cd : Value) (A : Around) (outer : List Env) (s : Shared) (H : Hp) (E : XK) : Cx where
  prog := P
  w := w
  K := K
  mg := mg
  base := base
  A := A.deeper (envOfC qual scope s.heap.objs.size f cd)
  N := N
  s₀ := s
  H₀ := H
  env := envOfC qual scope s.heap.objs.size f cd
  outer := outer
  stack := envOfC qual scope s.heap.objs.size f cd :: outer
  ex := []
  calm := true
  fn := fun _ => true
  pn := []
  xe := fun e s' => wpAny (model P w) (A.deeper (envOfC qual scope s.heap.objs.size f cd)) (leaving (envOfC qual scope s.heap.objs.size f cd) e) (fun _ s'' => CX outer H s E e s'') (fun e' s'' => CX outer H s E e' s'') s'
theorem cell_has {sc : Scope} {n : Nat} {x : Str} (h : sc.names.lookup x = some .cell) : ∃ c, (cellsFrom n sc.names []).lookup x = some c := by
  have q := PySem.W.cellsFrom_some sc.names n [] (.inl h)
  exact Option.isSome_iff_exists.mp q
theorem inv_start {CX : CXT} {P : Program} {w : World} {K : PySem.W.Frag} {mg : Str → Option Value} {base : Heap} {N ps : List Str} {qual : Str} {scope : Scope} {f : Addr} {cd : Value} {A : Around} {outer : List Env} {s s1 : Shared} {H : Hp} {E : XK} {us : List Value} {vs : List V}
    (S : FnScope N ps scope) (hd : A.handled = none) (e0 : Env0 P w K mg base A outer s H) (hl : vs.length = ps.length) (r : Vals vs us)
    (x : InCallC s s.heap.objs.size (bindL (envOfC qual scope s.heap.objs.size f cd).kindOf (ps.zip us) fun _ => none) (cellsFrom (s.heap.objs.size + 1) scope.names []) (bindC (envOfC qual scope s.heap.objs.size f cd).kindOf (ps.zip us) fun _ => none) s1) :
    Inv (cxOf CX P w K mg base N qual scope f cd A outer s H E) [] (start N vs) H s1 := by
  have hpl : ps.length ≤ N.length := by have := congrArg List.length S.pre; rw [List.length_take] at this; (first | lia | omega)
  obtain ⟨h1, tk, rfl, hk⟩ := x.done
  have noA : ∀ b : Addr, b ∉ (cxOf CX P w K mg base N qual scope f cd A outer s H E).ex := fun b z => absurd (show b ∈ ([] : List Addr) from z) (by simp)
  refine ⟨⟨e0.mod, S.kind, rfl, rfl, Nat.le_refl _, fun y z c h1 h2 => ?_, fun y hy => ?_, fun y c _ h => ?_, fun _ => hd, Around.frames_deeper e0.frames, .inr ⟨rfl, rfl⟩, fun b z => absurd z (noA b), e0.bs, e0.bsz, fun b _ _ => noA b, fun b z => absurd z (noA b), e0.funs, e0.frf⟩,
    rfl, e0.bare, Un.kept hk, ⟨_, x.toInCall.ns, fun i y v h1 h2 h3 => ?_⟩, fun y c h => ⟨_, x.cell y c h⟩, e0.hok.fresh (Nat.le_refl _), fun y c h => ?_, fun p hp => absurd (show p ∈ ([] : List (Addr × Obj)) from hp) (by simp), e0.hok.kept hk, ?_⟩
  · exact name_of_addr x.apart (PySem.mem_of_lookup h1) (PySem.mem_of_lookup h2)
  · have hy : scope.names.lookup y = some .cell ∨ scope.names.lookup y = some .free := hy
    rcases hy with hy | hy
    · exact cell_has hy
    · exact absurd rfl (S.nofree _ (PySem.mem_of_lookup hy))
  · exact Nat.le_of_lt (x.above y c (PySem.mem_of_lookup h))
  · have hi : i < vs.length := by
      unfold start at h2
      by_cases hi : i < vs.length
      · exact hi
      · rw [List.getElem?_append_right (by simpa using hi)] at h2
        rw [List.getElem?_replicate] at h2
        split at h2 <;> cases h2
    have ha : vs[i]? = some v := by
      unfold start at h2
      rw [List.getElem?_append_left (by simpa using hi), List.getElem?_map] at h2
      cases e : vs[i]? with
      | none => rw [e] at h2; cases h2
      | some a => rw [e] at h2; cases h2; rfl
    obtain ⟨u, hu, rv⟩ := r.get ha
    have hp : ps[i]? = some y := by
      rw [← S.pre, List.getElem?_take_of_lt (by (first | lia | omega))]; exact h1
    have ndP : ps.Nodup := by rw [← S.pre]; exact S.nd.sublist (List.take_sublist _ _)
    refine ⟨u, rv, ?_⟩
    rcases S.par y (List.mem_of_getElem? hp) with k | k
    · exact .inl ⟨k, bindL_get ndP hp hu k⟩
    · obtain ⟨c, e⟩ := cell_has (n := s.heap.objs.size + 1) k
      refine .inr ⟨.inl k, c, e, ?_⟩
      have q := x.cell y c e
      rw [bindC_get ndP hp hu (by show scope.names.lookup y ≠ _; rw [k]; decide)] at q
      exact q
  · exact e0.hok.fresh (Nat.le_of_lt (x.above y c (PySem.mem_of_lookup h)))
  · unfold start
    show _ = N.length
    rw [List.length_append, List.length_map, List.length_replicate]
    (first | lia | omega)
theorem fn_of {CX : CXT} {P : Program} {w : World} {K : PySem.W.Frag} {mg : Str → Option Value} {base : Heap} {k : Nat} {f : Addr} {name qual : Str} {params : Arguments} {body : List Stmt} {scope : Scope} {dV kV doc pm cdv ct oc : Value} {an od : Option Addr}
    {osl : Array (Option Value)} {N ps : List Str} {sp : Sp} (lk : K.lookup f = some ⟨oc, od, .func (PySem.W.fnOf name qual params body scope dV kV doc pm an cdv ct), osl⟩) (hcd : PySem.W.codeIn K cdv qual = true) (S : FnScope N ps scope)
    (len : ∀ vs H Q E, sp vs H Q E → vs.length = ps.length)
    (hbody : ∀ (A : Around) (outer : List Env) (s : Shared) (H : Hp) (vs : List V) (Q : VK) (E : XK), Room k (A.deeper (envOfC qual scope s.heap.objs.size f cdv)) → sp vs H Q E →
      ∃ t, PSs (cxOf CX P w K mg base N qual scope f cdv A outer s H E) body t ∧ t { nx := fun _ H' => Q .non H', rt := Q } (start N vs) H) :
    FnOk P w K mg base CX (k + 1) f (PySem.W.fnOf name qual params body scope dV kV doc pm an cdv ct) ps sp := by
  refine ⟨len, fun A outer s H args us vs Q E hr e0 hb r hsp => ?_⟩
  have hl := len _ _ _ _ hsp
  have KX : K.In s.heap := e0.mod.kin.keeps fun b o e => (e0.bs b o e).1
  have lim : s.heap.NoLimit := e0.mod.nolimit.keeps fun b o e => (e0.bs b o e).1
  have hkind : ∀ y ∈ ps.zip us, scope.names.lookup y.1 = some .local ∨ (scope.names.lookup y.1 = some .cell ∧ ((cellsFrom (s.heap.objs.size + 1) scope.names []).lookup y.1).isSome = true) := fun ⟨n, v⟩ hy => by
    rcases S.par n (List.of_mem_zip hy).1 with q | q
    · exact .inl q
    · exact .inr ⟨q, PySem.W.cellsFrom_some _ _ _ (.inl q)⟩
  refine codeAny_call_function hr.depth (KX _ _ lk) rfl S.co S.gen rfl (PySem.W.codeRec_of KX hcd) (hb _ _ _ _ ?_)
  refine wpAny_newFunctionEnv_cells S.kind hkind fun env he s1 x => ?_
  subst he
  refine ⟨lim.keeps x.toInCall.keep, codeAny_func ?_⟩
  obtain ⟨t, ht, hq⟩ := hbody A outer s H vs Q E (hr.deeper _) hsp
  have I : Inv (cxOf CX P w K mg base N qual scope f cdv A outer s H E) [] (start N vs) H s1 := inv_start S hr.hd e0 hl r x
  refine wpAny_mono (ht [] s1 (start N vs) H _ I hq) (fun fl s' hs => ?_) fun e s' hs => hs
  have fin : ∀ {σ' : St} {H' : Hp} {v : V} {u : Value}, Inv (cxOf CX P w K mg base N qual scope f cdv A outer s H E) [] σ' H' s' → RelV v u → Q v H' → CE outer P w H s Q u s' :=
    fun {σ' H' v u} J rv q => ⟨v, H', J.os, J.bare, J.base, J.hok, rv, q⟩
  cases fl with
  | ret u =>
    obtain ⟨v, σ', H', J, rv, q⟩ := hs
    exact fin J rv q
  | next =>
    obtain ⟨σ', H', J, q⟩ := hs
    exact fin (v := V.non) (u := Value.none) J rfl q
  | brk =>
    obtain ⟨_, _, _, q⟩ := hs
    exact False.elim q
  | cont =>
    obtain ⟨_, _, _, q⟩ := hs
    exact False.elim q
end L2
namespace L2
open PySem PySem.Spec PyProof.Rows
section
variable {X : Cx} {x : Str} {p pos : Pos} {e : Expr} {es : List Expr} {t : TA} {id T : String} {r : List V → Hp → VK → Prop}
def tCB (r : List V → Hp → VK → Prop) (t : TA) : TE := fun σ H Q => t σ H fun vs H1 => r vs H1 Q
theorem pe_callB (hc : CallR X (.builtin id) r) (hg : Gl X x) (hm : X.mg x = none) (hv : bootBuiltins x = some (.builtin id)) (ha : PA X (e :: es) t) (hn : x ≠ "__name__" := by decide) (hdb : (x == ("__debug__" : Str)) = false := by decide)
    (he : starEach (e :: es) X.env = (false, eval e X.env) :: starEach es X.env := by rfl) (hpl : (backTo pos (starEach es X.env)).any (·.1) = false := by rfl) : PE X (.Call (.Name x p) (e :: es) [] pos) (tCB r t) := by
  intro pins s σ H Q I h
  refine wpAny_Call_Name_kw (ld_blt I hg hm hv ?_ hn hdb)
  exact PyProof.Rows.callWith_builtin1 (thn (ha pos pins s σ H _ I h) fun us s1 ⟨vs, H1, I1, r1, q1⟩ => hc pins s1 σ H1 vs us Q I1 r1 q1) he hpl
theorem pe_callTy (hc : CallR X (.type T) r) (hg : Gl X x) (hm : X.mg x = none) (hv : bootBuiltins x = some (.type T)) (ha : PA X (e :: es) t) (hn : x ≠ "__name__" := by decide) (hdb : (x == ("__debug__" : Str)) = false := by decide)
    (he : starEach (e :: es) X.env = (false, eval e X.env) :: starEach es X.env := by rfl) (hpl : (backTo pos (starEach es X.env)).any (·.1) = false := by rfl) : PE X (.Call (.Name x p) (e :: es) [] pos) (tCB r t) := by
  intro pins s σ H Q I h
  refine wpAny_Call_Name_kw (ld_blt I hg hm hv ?_ hn hdb)
  exact PyProof.Rows.callWith_type1 (thn (ha pos pins s σ H _ I h) fun us s1 ⟨vs, H1, I1, r1, q1⟩ => hc pins s1 σ H1 vs us Q I1 r1 q1) he hpl
end
end L2
namespace HT
open PySem PyProof.Rows
section
open PySem.SeqAt
open PySem.AutoSeq1 (wpAny_loadPart')
open PySem.MeetsSeq PySem.MeetsSeq2 PySem.MeetsSeq3
end
section
variable {prog : Program} {w : World} {A : Around} {E : Value → Shared → Prop} {s : Shared}
def sIx (n d : Nat) : Option Int → Nat
  | none => d
  | some v => if v < 0 then (v + (n : Int)).toNat else min v.toNat n
theorem sIx_none (n d : Nat) : sIx n d none = d := rfl
theorem sIx_nat (n d k : Nat) : sIx n d (some (k : Int)) = min k n := by
  show (if (k : Int) < 0 then ((k : Int) + (n : Int)).toNat else min (k : Int).toNat n) = min k n
  rw [if_neg (by (first | lia | omega)), Int.toNat_natCast]
end
end HT
namespace L2
open PySem PySem.Spec PyProof.Rows
abbrev TO := St → Hp → (Option Int → Hp → Prop) → Prop
def PO (X : Cx) (e : Option Expr) (t : TO) : Prop :=
  ∀ (pins : List (Addr × Obj)) (s : Shared) (σ : St) (H : Hp) (Q : Option Int → Hp → Prop), Inv X pins σ H s → t σ H Q →
    wpAny (model X.prog X.w) X.A (evalPart e X.env) (fun u s' => ∃ o H', Inv X pins σ H' s' ∧ IsPart u o ∧ Q o H') X.xe s
def tNoPart : TO := fun _ H Q => Q none H
def tPart (t : TE) : TO := fun σ H Q => t σ H fun x H1 => ∃ i, x = .int i ∧ Q (some i) H1
theorem intsAre_of {ns : List Int} : ∀ {us : List Value}, Vals (ns.map V.int) us → IntsAre us ns := by
  induction ns with
  | nil => intro us r; rw [List.map_nil] at r; cases r; exact .nil
  | cons n ns ih =>
    intro us r
    rw [List.map_cons] at r
    cases r with
    | cons r1 r2 =>
      obtain ⟨t, e⟩ := r1
      subst e
      exact .cons n t (ih r2)
section
variable {X : Cx} {e : Expr} {te : TE} {lo hi : Option Expr} {tl th : TO} {pos p2 : Pos}
theorem po_none : PO X none tNoPart := by
  intro pins s σ H Q I h
  rw [evalPart_none]
  exact wpAny_pure ⟨none, H, I, .none, h⟩
theorem po_some (h : PE X e te) : PO X (some e) (tPart te) := by
  intro pins s σ H Q I hw
  rw [evalPart_some]
  refine thn (h pins s σ H _ I hw) fun u s1 ⟨x, H1, I1, r1, q1⟩ => ?_
  obtain ⟨i, rfl, q⟩ := q1
  obtain ⟨t, rfl⟩ := r1
  exact ⟨some i, H1, I1, .int i t, q⟩
def SlR (X : Cx) (r : V → Option Int → Option Int → Hp → VK → Prop) : Prop :=
  ∀ (pins : List (Addr × Obj)) (s : Shared) (σ : St) (H : Hp) (x : V) (v vl vu : Value) (lo hi : Option Int) (sl : Addr) (Q : VK), Inv X pins σ H s → RelV x v → s.heap.IsSliceOf sl vl vu .none → IsPart vl lo → IsPart vu hi → r x lo hi H Q →
    ∃ T id, typeLookup (.type T) "__getitem__" = pure (some (.builtin id)) ∧ s.TypeIs v T ∧ wpAny (model X.prog X.w) X.A (getItem v (.ref sl)) (EP X pins σ Q) X.xe s
def tSl (r : V → Option Int → Option Int → Hp → VK → Prop) (te : TE) (tl th : TO) : TE := fun σ H Q => te σ H fun x H1 => tl σ H1 fun l H2 => th σ H2 fun u H3 => r x l u H3 Q
theorem pe_slice {r : V → Option Int → Option Int → Hp → VK → Prop} (hr : SlR X r) (he : PE X e te) (hl : PO X lo tl) (hu : PO X hi th) : PE X (.Subscript e (.Slice lo hi none p2) pos) (tSl r te tl th) := by
  intro pins s σ H Q I h
  refine Subscript_ (thn (he pins s σ H _ I h) fun v s1 ⟨x, H1, I1, r1, q1⟩ => ?_)
  refine wpAny_Slice (thn (hl pins s1 σ H1 _ I1 q1) fun vl s2 ⟨l, H2, I2, pl, q2⟩ => thn (hu pins s2 σ H2 _ I2 q2) fun vu s3 ⟨u, H3, I3, pu, q3⟩ => ?_)
  rw [evalPart_none]
  refine wpAny_pure ?_
  have I4 : Inv X pins σ H3 { s3 with heap := s3.heap.push { cls := .type "slice", data := .fields #[vl, vu, .none] } } := I3.kept (t' := s3.toks) fun b ob q => Heap.get?_push_of_some _ q
  obtain ⟨T, id, hT, ht, hg⟩ := hr pins { s3 with heap := s3.heap.push { cls := .type "slice", data := .fields #[vl, vu, .none] } } σ H3 x v vl vu l u s3.heap.objs.size Q I4 r1 (Heap.IsSliceOf.new ..) pl pu q3
  show wpAny (model X.prog X.w) X.A (subscriptTail e (.Slice lo hi none p2) v (.ref s3.heap.objs.size)) (EP X pins σ Q) X.xe { s3 with heap := s3.heap.push { cls := .type "slice", data := .fields #[vl, vu, .none] } }
  exact tail_any (ops := [.ref s3.heap.objs.size, v]) ht hT hg (by with_unfolding_all rfl)
def cutV (xs : List V) (lo hi : Option Int) : List V := (xs.drop (HT.sIx xs.length 0 lo)).take (HT.sIx xs.length xs.length hi - HT.sIx xs.length 0 lo)
theorem cutV_length (xs : List V) (lo hi : Option Int) : (cutV xs lo hi).length ≤ xs.length := by
  unfold cutV
  rw [List.length_take, List.length_drop]
  (first | lia | omega)
end
end L2
namespace L2
open PySem PySem.Spec PyProof.Rows
def ixN (n : Nat) (i : Int) : Option Nat := if 0 ≤ i then (if i < n then some i.toNat else none) else if -(n : Int) ≤ i then some (i + n).toNat else none
def atI {α : Type} (xs : List α) (i : Int) : Option α := (ixN xs.length i).bind fun j => xs[j]?
theorem ixN_seq {n : Nat} {i : Int} {j : Nat} (h : ixN n i = some j) : seqIndex? i n = some j ∧ j < n ∧ -(n : Int) ≤ i ∧ i < n := by
  unfold ixN at h
  by_cases h0 : 0 ≤ i
  · rw [if_pos h0] at h
    by_cases h1 : i < n
    · rw [if_pos h1] at h
      have e : i.toNat = j := Option.some.inj h
      exact ⟨by rw [seqIndex_of h0 h1, e], by (first | lia | omega), by (first | lia | omega), h1⟩
    · rw [if_neg h1] at h; cases h
  · rw [if_neg h0] at h
    by_cases h1 : -(n : Int) ≤ i
    · rw [if_pos h1] at h
      have e : (i + n).toNat = j := Option.some.inj h
      exact ⟨by rw [seqIndex_neg (by (first | lia | omega)) h1, e], by (first | lia | omega), h1, by (first | lia | omega)⟩
    · rw [if_neg h1] at h; cases h
theorem atI_get {α : Type} {xs : List α} {i : Int} {v : α} (h : atI xs i = some v) : ∃ j, seqIndex? i xs.length = some j ∧ xs[j]? = some v ∧ j < xs.length ∧ -(xs.length : Int) ≤ i ∧ i < xs.length := by
  unfold atI at h
  cases e : ixN xs.length i with
  | none => rw [e] at h; cases h
  | some j =>
    rw [e] at h
    obtain ⟨h1, h2, h3, h4⟩ := ixN_seq e
    exact ⟨j, h1, h, h2, h3, h4⟩
theorem atI_nat {α : Type} {xs : List α} {j : Nat} {v : α} (h : xs[j]? = some v) : atI xs (j : Int) = some v := by
  have hj : j < xs.length := (List.getElem?_eq_some_iff.mp h).1
  have e : ixN xs.length (j : Int) = some j := by
    unfold ixN
    rw [if_pos (by (first | lia | omega)), if_pos (by (first | lia | omega))]; simp
  unfold atI; rw [e]; exact h
theorem atI_last {α : Type} (xs : List α) (v : α) : atI (xs ++ [v]) (-1) = some v := by
  have hl : (xs ++ [v]).length = xs.length + 1 := by simp
  have e : ixN (xs ++ [v]).length (-1) = some xs.length := by
    unfold ixN
    rw [hl, if_neg (by decide), if_pos (by (first | lia | omega))]
    congr 1
    (first | lia | omega)
  unfold atI
  rw [e]
  show (xs ++ [v])[xs.length]? = some v
  simp
def PlainIx (b : Expr) : Prop := ∀ o i, subscripted b false o i = operate [o, i] (getItem o i)
def IxR (X : Cx) (r : R2) : Prop :=
  ∀ (value slice : Expr) (pins : List (Addr × Obj)) (s : Shared) (σ : St) (H : Hp) (x y : V) (v u : Value) (Q : VK), Inv X pins σ H s → RelV x v → RelV y u → r x y H Q →
    subscripted slice false v u = operate [v, u] (getItem v u) → wpAny (model X.prog X.w) X.A (subscriptTail value slice v u) (EP X pins σ Q) X.xe s
def MtR (X : Cx) (id : String) (r : V → List V → Hp → VK → Prop) : Prop :=
  ∀ (pins : List (Addr × Obj)) (s : Shared) (σ : St) (H : Hp) (x : V) (xs : List V) (v : Value) (us : List Value) (Q : VK), Inv X pins σ H s → RelV x v → Vals xs us → r x xs H Q →
    wpAny (model X.prog X.w) X.A (call (.builtin id) (v :: us)) (EP X pins σ Q) X.xe s
section
variable {X : Cx} {a b : Expr} {ta tb : TE} {pos : Pos}
theorem pe_ix {r : R2} (hr : IxR X r) (ha : PE X a ta) (hb : PE X b tb) (hs : PlainIx b) : PE X (.Subscript a b pos) (tOp r ta tb) := by
  intro pins s σ H Q I h
  exact Subscript_ (binT ha hb I h fun v u s2 x y H2 I2 rx ry q => hr a b pins s2 σ H2 x y v u Q I2 rx ry q (hs _ _))
def rIxL (K : PySem.W.Frag) : R2 := fun x y H Q => onR x fun p => onI y fun i => ∃ xs v, SqL K H p xs ∧ atI xs i = some v ∧ Q v H
def rIxT (K : PySem.W.Frag) : R2 := fun x y H Q => onR x fun p => onI y fun i => ∃ xs v, SqT K H p xs ∧ atI xs i = some v ∧ Q v H
theorem ix_list : IxR X (rIxL X.K) := by
  intro value slice pins s σ H x y v u Q I rx ry h hs
  obtain ⟨p, i, rfl, rfl, xs, z, hq, he, q⟩ := onRI.ex h
  cases rx
  obtain ⟨t, rfl⟩ := ry
  obtain ⟨its, r, pl, hz⟩ := I.list hq
  obtain ⟨j, h1, h2, h3, h4, h5⟩ := atI_get he
  obtain ⟨w, ew, rw'⟩ := r.get h2
  have hl := r.length
  have hn := line63
  have fin : EP X pins σ Q w s := ⟨z, H, I, rw', q⟩
  by_cases h0 : 0 ≤ i
  · have hj : i.toNat = j := by
      rw [seqIndex_of h0 h5] at h1
      exact Option.some.inj h1
    exact item_listR pl.isList h0 (by (first | lia | omega)) (by rw [hj]; simpa using ew) fin hs
  · have hj : (i + (its.toArray.size : Int)).toNat = j := by
      rw [seqIndex_neg (by (first | lia | omega)) h4] at h1
      rw [List.size_toArray, ← hl]
      exact Option.some.inj h1
    exact subscriptTail_builtinR (x := w) pl.isList.typeIs slot_list_getitem.lookup
      (wpAny_getItem_list_neg (Q := fun r s' => r = w ∧ EP X pins σ Q r s') pl.isList (by (first | lia | omega)) (by rw [List.size_toArray] <;> (first | lia | omega)) (by (first | lia | omega)) (by rw [hj]; simpa using ew) ⟨rfl, fin⟩) hs
theorem ix_tup : IxR X (rIxT X.K) := by
  intro value slice pins s σ H x y v u Q I rx ry h hs
  obtain ⟨p, i, rfl, rfl, xs, z, hq, he, q⟩ := onRI.ex h
  cases rx
  obtain ⟨t, rfl⟩ := ry
  obtain ⟨its, r, pl, hz⟩ := I.tuple hq
  obtain ⟨j, h1, h2, h3, h4, h5⟩ := atI_get he
  obtain ⟨w, ew, rw'⟩ := r.get h2
  have hl := r.length
  have hn := line63
  have fin : EP X pins σ Q w s := ⟨z, H, I, rw', q⟩
  exact subscriptTail_builtinR (x := w) pl.typeIs slot_tuple_getitem.lookup
    (getItem_tuple (j := j) (Q := fun r s' => r = w ∧ EP X pins σ Q r s') pl (by (first | lia | omega)) (by (first | lia | omega)) (by rw [List.size_toArray, ← hl]; exact h1) (by simpa using ew) ⟨rfl, fin⟩) hs
theorem mapSeq_set (its : List Value) (n j : Nat) (u : Value) : Obj.mapSeq (·.setIfInBounds j u) { cls := .type "list", data := .seq its.toArray n } = { cls := .type "list", data := .seq (its.set j u).toArray n } := by
  simp [Obj.mapSeq]
theorem Inv.lst {pins : List (Addr × Obj)} {σ : St} {H : Hp} {s : Shared} {p : Addr} {xs : List V} (I : Inv X pins σ H s) (h : H p = some (.lst xs)) :
    ∃ (its : List Value) (n : Nat), Vals xs its ∧ s.heap.get? p = some { cls := .type "list", data := .seq its.toArray n } ∧ xs.length ≤ sizeLine := by
  obtain ⟨z, its, n, r, e⟩ := I.hok p _ h
  exact ⟨its, n, r, e, z⟩
theorem Inv.lstUpd {pins : List (Addr × Obj)} {σ : St} {H : Hp} {s : Shared} {p : Addr} {xs ys : List V} {its its' : List Value} {n n' : Nat} {f : Obj → Obj} (I : Inv X pins σ H s) (h : H p = some (.lst xs))
    (ho : s.heap.get? p = some { cls := .type "list", data := .seq its.toArray n }) (hf : f { cls := .type "list", data := .seq its.toArray n } = { cls := .type "list", data := .seq its'.toArray n' }) (r : Vals ys its') (hz : ys.length ≤ sizeLine) (t : Nat) :
    Inv X pins σ (upd H p (.lst ys)) { s with heap := s.heap.update p f, toks := t } := by
  have e : (s.heap.update p f).get? p = some { cls := .type "list", data := .seq its'.toArray n' } := by
    rw [Heap.get?_update_self f ho (by rw [hf] <;> rfl), hf]
  refine I.write (x := p) (e := p) (by rw [h]; trivial) (.inl rfl) (fun b u hb q => (Heap.get?_update_other _ _ (Ne.symm hb)).trans q) ⟨_, e⟩ ?_
  exact ⟨hz, its', n', r, e⟩
def rSetL : V → V → V → Hp → (Hp → Prop) → Prop := fun o i v H Q => onR o fun p => onI i fun k => ∃ xs j, H p = some (.lst xs) ∧ ixN xs.length k = some j ∧ Q (upd H p (.lst (xs.set j v)))
theorem set_list : PSet X rSetL := by
  intro pins s σ H o i v ov iv u Q I ro ri rv h
  obtain ⟨p, k, rfl, rfl, xs, j, hp, hj, q⟩ := onRI.ex h
  cases ro
  obtain ⟨t, rfl⟩ := ri
  obtain ⟨its, n, r, ho, hz⟩ := I.lst hp
  obtain ⟨h1, h2, h3, h4⟩ := ixN_seq hj
  have hl := r.length
  have hn := line63
  have I' : Inv X pins σ (upd H p (.lst (xs.set j v))) { s with heap := s.heap.update p (Obj.mapSeq (·.setIfInBounds j u)) } :=
    I.lstUpd hp ho (mapSeq_set its n j u) (r.set rv j) (by rw [List.length_set]; exact hz) s.toks
  by_cases h0 : 0 ≤ k
  · have hk : k.toNat = j := by
      rw [seqIndex_of h0 h4] at h1
      exact Option.some.inj h1
    exact PySem.W.ki_setAt ho h0 (by (first | lia | omega)) (by rw [List.size_toArray, ← hl]; exact h4) (by rw [hk]; exact ⟨_, I', q⟩)
  · have hk : (k + (its.toArray.size : Int)).toNat = j := by
      rw [seqIndex_neg (by (first | lia | omega)) h3] at h1
      rw [List.size_toArray, ← hl]
      exact Option.some.inj h1
    exact PySem.W.ki_setBack ho (by (first | lia | omega)) (by rw [List.size_toArray, ← hl]; exact h3) (by (first | lia | omega)) (by rw [hk]; exact ⟨_, I', q⟩)
theorem slice_bounds (lo hi : Option Int) (n : Nat) : (sliceBounds lo hi none n).1 = ((HT.sIx n 0 lo : Nat) : Int) ∧ (sliceBounds lo hi none n).2.1 = ((HT.sIx n n hi : Nat) : Int) ∧ (sliceBounds lo hi none n).2.2 = 1 := by
  refine ⟨?_, ?_, rfl⟩
  · cases lo with
    | none => simp [sliceBounds, HT.sIx]
    | some i =>
      simp only [sliceBounds, HT.sIx, Option.getD_none, show (1 : Int) > 0 by decide, if_true]
      by_cases h : i < 0
      · simp only [h, if_true] <;> (first | lia | omega)
      · simp only [h, if_false] <;> (first | lia | omega)
  · cases hi with
    | none => simp [sliceBounds, HT.sIx]
    | some i =>
      simp only [sliceBounds, HT.sIx, Option.getD_none, show (1 : Int) > 0 by decide, if_true]
      by_cases h : i < 0
      · simp only [h, if_true] <;> (first | lia | omega)
      · simp only [h, if_false] <;> (first | lia | omega)
theorem slicePick_cut (its : List Value) (lo hi : Option Int) : slicePick its.toArray lo hi none = ((its.drop (HT.sIx its.length 0 lo)).take (HT.sIx its.length its.length hi - HT.sIx its.length 0 lo)).toArray := by
  obtain ⟨h1, h2, h3⟩ := slice_bounds lo hi its.toArray.size
  unfold slicePick
  rw [h1, h2, h3]
  simp only [sliceRange_one, pick_run, List.size_toArray] <;> rfl
def rSlL (K : PySem.W.Frag) : V → Option Int → Option Int → Hp → VK → Prop := fun x lo hi H Q => ∃ a xs, x = .ref a ∧ SqL K H a xs ∧ ∀ p, H p = none → Q (.ref p) (upd H p (.lst (cutV xs lo hi)))
theorem sl_list : SlR X (rSlL X.K) := by
  intro pins s σ H x v vl vu lo hi sl Q I rx hs pl pu h
  obtain ⟨a, xs, rfl, hx, q⟩ := h
  cases rx
  obtain ⟨its, r, ht, hz⟩ := I.list hx
  have hlen := r.length
  refine ⟨"list", _, slot_list_getitem.lookup, ht.isList.typeIs, ?_⟩
  refine wpAny_getItem_list_slice ht.isList hs pl pu .none (by simp) ?_ (by rw [List.size_toArray] <;> (first | lia | omega))
  rw [slicePick_cut, ← hlen]
  refine ⟨.ref s.heap.objs.size, _, I.laid (t' := s.toks) (o := .lst (cutV xs lo hi)) (fun b ob q => Heap.get?_push_of_some _ q) (Nat.le_refl _) ?_, rfl, q _ (I.hok.fresh (Nat.le_refl _))⟩
  exact ⟨Nat.le_trans (cutV_length xs lo hi) hz, _, 0, (r.drop (HT.sIx xs.length 0 lo)).take (HT.sIx xs.length xs.length hi - HT.sIx xs.length 0 lo), Heap.get?_push_size _ rfl⟩
def flatV : V → Bool
  | .non => true
  | .bl _ => true
  | .int _ => true
  | .str _ => true
  | _ => false
def eqV : V → V → Bool
  | .non, .non => true
  | .bl a, .bl b => a == b
  | .bl a, .int b => (if a then 1 else 0) == b
  | .int a, .bl b => a == (if b then 1 else 0)
  | .int a, .int b => a == b
  | .str a, .str b => a == b
  | _, _ => false
theorem eqAt_V {A : Around} {s : Shared} {y x : V} {u v : Value} (ry : RelV y u) (rx : RelV x v) (fy : flatV y = true) (fx : flatV x = true) : SeqAt.EqAt A s u v (eqV y x) := by
  cases y with
  | non =>
    cases ry
    cases x with
    | non => cases rx; exact SeqAt.EqAt.same _
    | bl b => cases rx; exact SeqAt.EqAt.none_bool b
    | int b => obtain ⟨t, rfl⟩ := rx; exact SeqAt.EqAt.none_int b t
    | str b => obtain ⟨t, rfl⟩ := rx; exact SeqAt.EqAt.none_str b t
    | _ => exact absurd (show false = true from fx) Bool.false_ne_true
  | bl a =>
    cases ry
    cases x with
    | non => cases rx; exact SeqAt.EqAt.bool_none a
    | bl b => cases rx; exact SeqAt.EqAt.bool_bool a b
    | int b => obtain ⟨t, rfl⟩ := rx; exact SeqAt.EqAt.bool_int a b t
    | str b => obtain ⟨t, rfl⟩ := rx; exact SeqAt.EqAt.bool_str a b t
    | _ => exact absurd (show false = true from fx) Bool.false_ne_true
  | int a =>
    obtain ⟨t', rfl⟩ := ry
    cases x with
    | non => cases rx; exact SeqAt.EqAt.int_none a t'
    | bl b => cases rx; exact SeqAt.EqAt.int_bool a t' b
    | int b => obtain ⟨t, rfl⟩ := rx; exact SeqAt.EqAt.int_int a t' b t
    | str b => obtain ⟨t, rfl⟩ := rx; exact SeqAt.EqAt.int_str a t' b t
    | _ => exact absurd (show false = true from fx) Bool.false_ne_true
  | str a =>
    obtain ⟨t', rfl⟩ := ry
    cases x with
    | non => cases rx; exact SeqAt.EqAt.str_none a t'
    | bl b => cases rx; exact SeqAt.EqAt.str_bool a t' b
    | int b => obtain ⟨t, rfl⟩ := rx; exact SeqAt.EqAt.str_int a t' b t
    | str b => obtain ⟨t, rfl⟩ := rx; exact SeqAt.EqAt.str_str a t' b t
    | _ => exact absurd (show false = true from fx) Bool.false_ne_true
  | _ => exact absurd (show false = true from fy) Bool.false_ne_true
def eqU (x : V) (u : Value) : Bool := match u with
  | .none => eqV .non x
  | .bool b => eqV (.bl b) x
  | .int i _ => eqV (.int i) x
  | .str z _ => eqV (.str z) x
  | _ => false
theorem eqU_of {x y : V} {u : Value} (r : RelV y u) (f : flatV y = true) : eqU x u = eqV y x := by
  cases y with
  | non => cases r; rfl
  | bl b => cases r; rfl
  | int i => obtain ⟨t, rfl⟩ := r; rfl
  | str z => obtain ⟨t, rfl⟩ := r; rfl
  | _ => exact absurd (show false = true from f) Bool.false_ne_true
theorem any_eqU {x : V} : ∀ {xs : List V} {us : List Value}, Vals xs us → xs.all flatV = true → us.any (eqU x) = xs.any fun y => eqV y x
  | _, _, .nil, _ => rfl
  | y :: xs, u :: us, .cons r t, f => by
    rw [List.all_cons, Bool.and_eq_true] at f
    rw [List.any_cons, List.any_cons, eqU_of r f.1, any_eqU t f.2]
theorem mem_eqAt {A : Around} {s : Shared} {x : V} {v : Value} (rx : RelV x v) (fx : flatV x = true) : ∀ {xs : List V} {us : List Value}, Vals xs us → xs.all flatV = true → ∀ u ∈ us, SeqAt.EqAt A s u v (eqU x u)
  | _, _, .nil, _ => fun u hu => by cases hu
  | y :: xs, u :: us, .cons r t, f => fun u' hu => by
    rw [List.all_cons, Bool.and_eq_true] at f
    rcases List.mem_cons.mp hu with rfl | hu
    · rw [eqU_of r f.1]; exact eqAt_V r rx f.1 fx
    · exact mem_eqAt rx fx t f.2 u' hu
def inV (x : V) (xs : List V) : Bool := xs.any fun y => eqV y x
def rIn (K : PySem.W.Frag) (neg : Bool) : R2 := fun x y H Q => ∃ p xs, y = .ref p ∧ (SqL K H p xs ∨ SqT K H p xs) ∧ flatV x = true ∧ xs.all flatV = true ∧ Q (.bl (if neg then !inV x xs else inV x xs)) H
theorem op_in_seq : OpR X (compareOp .In) (rIn X.K false) := by
  intro pins s σ H x y v u Q I rx ry h
  obtain ⟨p, xs, rfl, hq, fx, fs, q⟩ := h
  cases ry
  rcases hq with hq | hq
  · obtain ⟨its, r, pl, hz⟩ := I.list hq
    refine SeqAt.in_listAt (eqU x) pl.isList (fun w hw => mem_eqAt rx fx r fs w (by simpa using hw)) ⟨.bl _, H, I, rfl, ?_⟩
    rw [show its.toArray.any (eqU x) = its.any (eqU x) by simp, any_eqU r fs]
    exact q
  · obtain ⟨its, r, pl, hz⟩ := I.tuple hq
    refine SeqAt.in_tupleAt (eqU x) pl (fun w hw => mem_eqAt rx fx r fs w (by simpa using hw)) ⟨.bl _, H, I, rfl, ?_⟩
    rw [show its.toArray.any (eqU x) = its.any (eqU x) by simp, any_eqU r fs]
    exact q
def rLen (K : PySem.W.Frag) : List V → Hp → VK → Prop := fun xs H Q => on1 xs fun x => onR x fun p => ∃ ys, (SqL K H p ys ∨ SqT K H p ys) ∧ Q (.int ys.length) H
theorem call_len_seq : CallR X (.builtin "len") (rLen X.K) := by
  intro pins s σ H xs us Q I r h
  obtain ⟨p, rfl, ys, hq, q⟩ := on1R.ex h
  obtain ⟨u, rfl, rx⟩ := vals1 r
  cases rx
  have hn := line63
  rcases hq with hq | hq
  · obtain ⟨its, r', pl, hz⟩ := I.list hq
    have hlen := r'.length
    exact Calls.call_len_list pl.isList (by simp only [List.size_toArray] <;> (first | lia | omega)) ⟨.int ys.length, H, I.tok _, ⟨s.toks + 1, by rw [List.size_toArray, hlen]⟩, q⟩
  · obtain ⟨its, r', pl, hz⟩ := I.tuple hq
    have hlen := r'.length
    exact len_tuple pl (by simp only [List.size_toArray] <;> (first | lia | omega)) ⟨.int ys.length, H, I.tok _, ⟨s.toks + 1, by rw [List.size_toArray, hlen]⟩, q⟩
def rLOf (K : PySem.W.Frag) : List V → Hp → VK → Prop := fun xs H Q => on1 xs fun x => onR x fun p => ∃ ys, (SqL K H p ys ∨ SqT K H p ys) ∧ ∀ l, H l = none → Q (.ref l) (upd H l (.lst ys))
theorem call_list_of : CallR X (.type "list") (rLOf X.K) := by
  intro pins s σ H xs us Q I r h
  obtain ⟨p, rfl, ys, hq, q⟩ := on1R.ex h
  obtain ⟨u, rfl, rx⟩ := vals1 r
  cases rx
  have fin : ∀ (its : List Value), Vals ys its → ys.length ≤ sizeLine → ∀ (h' : Heap) (c' : Nat), (∀ b o', s.heap.get? b = some o' → h'.get? b = some o') →
      h'.get? s.heap.objs.size = some { cls := .type "list", dict := none, data := .seq its.toArray c', slots := #[] } → EP X pins σ Q (.ref s.heap.objs.size) { s with heap := h' } := fun its r' hz h' c' kp e =>
    ⟨.ref s.heap.objs.size, _, I.laid (t' := s.toks) kp (Nat.le_refl _) (show ObjOk X.prog X.w _ h' _ (.lst ys) from ⟨hz, its, c', r', e⟩), rfl, q _ (I.hok.fresh (Nat.le_refl _))⟩
  rcases hq with hq | hq
  · obtain ⟨its, r', pl, hz⟩ := I.list hq
    have hlen := r'.length
    obtain ⟨o, ho, hc, n, hd⟩ := pl.isList
    exact call_list_seq p (.inl rfl) ho hc hd (fun h' c' kp e => fin its r' hz h' c' kp e) (by simp only [List.size_toArray] <;> (first | lia | omega))
  · obtain ⟨its, r', pl, hz⟩ := I.tuple hq
    have hlen := r'.length
    obtain ⟨o, ho, hc, n, hd⟩ := pl
    exact call_list_seq p (.inr rfl) ho hc hd (fun h' c' kp e => fin its r' hz h' c' kp e) (by simp only [List.size_toArray] <;> (first | lia | omega))
def tyV (K : PySem.W.Frag) (T : String) (x : V) (H : Hp) : Prop := match x with
  | .str _ => T = "str"
  | .int _ => T = "int"
  | .ref p => (T = "list" ∧ ∃ xs, SqL K H p xs) ∨ (T = "tuple" ∧ ∃ o, K.lookup p = some o ∧ o.cls = .type "tuple" ∧ o.dict = none) ∨
      (T = "dict" ∧ ((∃ kvs, H p = some (.dK kvs)) ∨ ∃ kvs, H p = some (.dT kvs))) ∨ (T = "set" ∧ ∃ S n, H p = some (.set S n))
  | _ => False
theorem tyV_is {pins : List (Addr × Obj)} {σ : St} {H : Hp} {s : Shared} {T : String} {x : V} {v : Value} (I : Inv X pins σ H s) (r : RelV x v) (ty : tyV X.K T x H) :
    s.TypeIs v T ∧ ∀ a, v = .ref a → ∃ ob, s.heap.get? a = some ob ∧ ob.dict = none := by
  cases x with
  | str z =>
    obtain ⟨t, rfl⟩ := r
    cases (show T = "str" from ty)
    exact ⟨typeIs_str s z t, fun _ e => nomatch e⟩
  | int i =>
    obtain ⟨t, rfl⟩ := r
    cases (show T = "int" from ty)
    exact ⟨typeIs_int s i t, fun _ e => nomatch e⟩
  | ref p =>
    cases r
    rcases ty with ⟨rfl, xs, hq⟩ | ⟨rfl, o, hk, hc, hd⟩ | ⟨rfl, hk⟩ | ⟨rfl, S, n, hk⟩
    · obtain ⟨its, _, pl, _⟩ := I.list hq
      refine ⟨pl.isList.typeIs, fun a e => ?_⟩
      cases e
      obtain ⟨o, n, e, c, hd, _⟩ := pl
      exact ⟨o, e, hd⟩
    · refine ⟨⟨o, I.kIn p o hk, hc⟩, fun a e => ?_⟩
      cases e
      exact ⟨o, I.kIn _ o hk, hd⟩
    · have z : ∃ o, s.heap.get? p = some o ∧ o.ExactDict := by
        rcases hk with ⟨kvs, hk⟩ | ⟨kvs, hk⟩
        · obtain ⟨_, _, _, _, o, _, _, e, ex, _⟩ := I.hok p _ hk
          exact ⟨o, e, ex⟩
        · obtain ⟨_, _, _, _, o, _, _, e, ex, _⟩ := I.hok p _ hk
          exact ⟨o, e, ex⟩
      obtain ⟨o, e, ex⟩ := z
      refine ⟨⟨o, e, ex.1⟩, fun a e2 => ?_⟩
      cases e2
      exact ⟨o, e, ex.2.1⟩
    · obtain ⟨o, _, _, _, e, ex, _⟩ := I.hok p _ hk
      refine ⟨⟨o, e, ex.1⟩, fun a e2 => ?_⟩
      cases e2
      exact ⟨o, e, ex.2.1⟩
  | _ => exact False.elim ty
def tBM (K : PySem.W.Frag) (T : String) (r : V → List V → Hp → VK → Prop) (to : TE) (t : TA) : TE := fun σ H Q => to σ H fun x H1 => tyV K T x H1 ∧ t σ H1 fun xs H2 => r x xs H2 Q
variable {o e : Expr} {es : List Expr} {to : TE} {t : TA} {name : Str} {apos cpos : Pos} {T id : String} {r : V → List V → Hp → VK → Prop}
theorem pe_bm (pa : PlainAttrs T) (slot : Slot T name id) (hty : typeOf (.builtin id) = pure (.type "method_descriptor")) (hm : MtR X id r) (ho : PE X o to) (ha : PA X (e :: es) t)
    (hbase : attributeBase o name X.env (eval o X.env) = eval o X.env := by rfl)
    (hfew : ((backTo cpos (starEach (e :: es) X.env)).all (fun x => !x.1) && (backToKw cpos (keywordEach [] X.env)).all (fun x => x.1.isSome)
      && decide ((e :: es).length + ([] : List Keyword).length + (if ([] : List Keyword).isEmpty then 0 else 1) < 30)) = true := by rfl)
    (hline : (apos.endLine == cpos.line) = true := by rfl) (hs : starEach (e :: es) X.env = (false, eval e X.env) :: starEach es X.env := by rfl) (hplain : (backTo cpos (starEach es X.env)).any (·.1) = false := by rfl) :
    PE X (.Call (.Attribute o name apos) (e :: es) [] cpos) (tBM X.K T r to t) := by
  intro pins s σ H Q I h
  refine wpAny_Call_method_late hbase hfew hline rfl (thn (ho pins s σ H _ I h) fun v s1 ⟨x, H1, I1, r1, ty, q1⟩ => ?_)
  obtain ⟨h1, h2⟩ := tyV_is I1 r1 ty
  refine ⟨T, id, pa, slot, hty, h1, h2, ?_⟩
  have hA := ha cpos pins s1 σ H1 _ I1 q1
  rw [hs] at hA ⊢
  refine Calls.callWith_builtin (by show (false || (backTo cpos (starEach es X.env)).any (·.1)) = false; rw [hplain] <;> rfl) (Calls.evalArgs_plain ?_)
  exact thn hA fun us s2 ⟨vs, H2, I2, r2, q2⟩ => hm pins s2 σ H2 x vs v us Q I2 r1 r2 q2
end
end L2
namespace L2
open PySem PySem.Spec PyProof.Rows
def MtM (X : Cx) (id : String) (r : V → List V → Hp → VK → Prop) : Prop :=
  ∀ (pins : List (Addr × Obj)) (s : Shared) (σ : St) (H : Hp) (x : V) (xs : List V) (v : Value) (us : List Value) (Q : VK), Inv X pins σ H s → RelV x v → Vals xs us → r x xs H Q →
    wpAny (model X.prog X.w) X.A (call (.builtin id) (v :: us)) (EP X pins σ Q) X.xe s
theorem Vals.one : ∀ {x : V} {us : List Value}, Vals [x] us → ∃ u, us = [u] ∧ RelV x u
  | _, _, .cons r .nil => ⟨_, rfl, r⟩
theorem Vals.two : ∀ {x y : V} {us : List Value}, Vals [x, y] us → ∃ u v, us = [u, v] ∧ RelV x u ∧ RelV y v
  | _, _, _, .cons r (.cons q .nil) => ⟨_, _, rfl, r, q⟩
theorem Vals.rep {xs : List V} {us : List Value} (h : Vals xs us) : ∀ k : Nat, Vals (List.replicate k xs).flatten (List.replicate k us).flatten
  | 0 => .nil
  | k + 1 => by
    rw [List.replicate_succ, List.replicate_succ, List.flatten_cons, List.flatten_cons]
    exact Vals.append h (Vals.rep h k)
theorem foldl_rep (its : List Value) : ∀ (k : Nat) (acc : List Value),
    List.foldl (fun x1 x2 => x1 ++ x2) acc.toArray (List.replicate k its.toArray) = (acc ++ (List.replicate k its).flatten).toArray
  | 0, acc => by simp
  | k + 1, acc => by
    have e : acc.toArray ++ its.toArray = (acc ++ its).toArray := by simp
    have e2 : (acc ++ its) ++ (List.replicate k its).flatten = acc ++ (List.replicate (k + 1) its).flatten := by
      rw [List.replicate_succ, List.flatten_cons, List.append_assoc]
    rw [← e2, ← foldl_rep its k (acc ++ its), ← e, List.replicate_succ, List.foldl_cons]
section
variable {X : Cx} {pins : List (Addr × Obj)} {σ : St} {H : Hp} {s : Shared} {l b : Addr} {xs ys zs : List V}
theorem Inv.lset {its its' : List Value} {n : Nat} {f : Array Value → Array Value} {t' : Nat} (I : Inv X pins σ H s) (hH : H l = some (.lst xs))
    (e : s.heap.get? l = some { cls := .type "list", data := .seq its.toArray n }) (hf : f its.toArray = its'.toArray) (hv : Vals ys its') (hz : ys.length ≤ sizeLine) :
    Inv X pins σ (upd H l (.lst ys)) { s with heap := s.heap.update l (Obj.mapSeq f), toks := t' } := by
  have q := PySem.IsL.update e f
  rw [hf] at q
  refine I.write (x := l) (e := l) (by rw [hH]; exact trivial) (.inl rfl) (fun b' u hb hu => (Heap.get?_update_other s.heap (Obj.mapSeq f) (Ne.symm hb)).trans hu) ⟨_, q⟩ ?_
  exact ⟨hz, its', _, hv, q⟩
theorem Inv.lnew {its : List Value} {t' : Nat} (I : Inv X pins σ H s) (hv : Vals ys its) (hz : ys.length ≤ sizeLine) :
    Inv X pins σ (upd H s.heap.objs.size (.lst ys)) { s with heap := s.heap.push { cls := .type "list", data := .seq its.toArray }, toks := t' } :=
  I.laid (fun _ _ q => Heap.get?_push_of_some _ q) (Nat.le_refl _) ⟨hz, its, 0, hv, Heap.get?_push_size _ rfl⟩
theorem Inv.fresh (I : Inv X pins σ H s) : H s.heap.objs.size = none := I.hok.fresh (Nat.le_refl _)
theorem Inv.lstM (I : Inv X pins σ H s) (hH : H l = some (.lst xs)) : xs.length ≤ sizeLine ∧ ∃ (its : List Value) (n : Nat), Vals xs its ∧ xs.length = its.length ∧ s.heap.get? l = some { cls := .type "list", data := .seq its.toArray n } := by
  obtain ⟨z, its, n, r, e⟩ := I.hok l _ hH
  exact ⟨z, its, n, r, r.length, e⟩
theorem notLongL {n : Nat} (h : n ≤ sizeLine) : Builtin.List.listTooLong n = false := by
  unfold Builtin.List.listTooLong
  exact decide_eq_false (by (first | lia | omega))
end
section
variable {X : Cx}
def rAppend : V → List V → Hp → VK → Prop := fun x vs H Q => onR x fun l => on1 vs fun y => ∃ xs, H l = some (.lst xs) ∧ xs.length < sizeLine ∧ Q .non (upd H l (.lst (xs ++ [y])))
theorem mt_append : MtM X "list.append" rAppend := by
  intro pins s σ H x vs v us Q I rx rv h
  obtain ⟨l, rfl, h⟩ := onR.ex h
  obtain ⟨y, rfl, xs, hH, hz, q⟩ := on1.ex h
  cases rx
  obtain ⟨u, rfl, ru⟩ := rv.one
  obtain ⟨z, its, n, r, hl, e⟩ := I.lstM hH
  refine call_meets F.slot_list_append ⟨_, e, rfl⟩ F.entry_list_append (F.args_list_append_2 _ _) (PySem.list_append l its.toArray n u (by rw [List.size_toArray]; (first | lia | omega))) ⟨e, ?_⟩
  refine ⟨.non, _, I.lset (its' := its ++ [u]) hH e (by simp) (r.append (.cons ru .nil)) ?_, rfl, q⟩
  rw [List.length_append, List.length_singleton]
  (first | lia | omega)
def rExtend : V → List V → Hp → VK → Prop := fun x vs H Q => ∃ l b xs zs, x = .ref l ∧ vs = [.ref b] ∧ H l = some (.lst xs) ∧ H b = some (.lst zs) ∧ xs.length + zs.length ≤ sizeLine ∧ Q .non (upd H l (.lst (xs ++ zs)))
theorem mt_extend : MtM X "list.extend" rExtend := by
  intro pins s σ H x vs v us Q I rx rv h
  obtain ⟨l, b, xs, zs, rfl, rfl, hH, hB, hz, q⟩ := h
  cases rx
  obtain ⟨u, rfl, ru⟩ := rv.one
  cases ru
  obtain ⟨z, its, n, r, hl, e⟩ := I.lstM hH
  obtain ⟨z2, its2, n2, r2, hl2, e2⟩ := I.lstM hB
  have hsz : its.toArray.size + its2.toArray.size ≤ sizeLine := by rw [List.size_toArray, List.size_toArray]; (first | lia | omega)
  have hlong : ¬ (!its.toArray.isEmpty && Builtin.List.listTooLong (its.toArray.size + its2.toArray.size)) = true := by
    rw [notLongL hsz, Bool.and_false]
    exact Bool.false_ne_true
  refine call_meets F.slot_list_extend ⟨_, e, rfl⟩ F.entry_list_extend (F.args_list_extend_2 _ _)
    (AutoSeq1.list_extend_list_list_0 l its.toArray n b its2.toArray n2 hlong (by rw [List.size_toArray]; (first | lia | omega)) (by (first | lia | omega))) ⟨e, e2, ?_⟩
  refine ⟨.non, _, I.lset (its' := its ++ its2) hH e (by simp) (r.append r2) ?_, rfl, q⟩
  rw [List.length_append]
  (first | lia | omega)
def rCat : R2 := fun x y H Q => ∃ l b xs zs, x = .ref l ∧ y = .ref b ∧ H l = some (.lst xs) ∧ H b = some (.lst zs) ∧ xs.length + zs.length ≤ sizeLine ∧ ∀ p, H p = none → Q (.ref p) (upd H p (.lst (xs ++ zs)))
theorem op_cat : OpR X (binaryOp .Add) rCat := by
  intro pins s σ H x y v u Q I rx ry h
  obtain ⟨l, b, xs, zs, rfl, rfl, hH, hB, hz, q⟩ := h
  cases rx
  cases ry
  obtain ⟨z, its, n, r, hl, e⟩ := I.lstM hH
  obtain ⟨z2, its2, n2, r2, hl2, e2⟩ := I.lstM hB
  refine PySem.P.add_list e e2 ?_ (by rw [List.size_toArray, List.size_toArray]; (first | lia | omega))
  have ea : its.toArray ++ its2.toArray = (its ++ its2).toArray := by simp
  rw [ea]
  exact ⟨.ref _, _, I.lnew (t' := s.toks) (r.append r2) (by rw [List.length_append]; (first | lia | omega)), rfl, q _ I.fresh⟩
def rRep : R2 := fun x y H Q => ∃ l k xs, x = .ref l ∧ y = .int k ∧ H l = some (.lst xs) ∧ -(2 ^ 63) ≤ k ∧ k < 2 ^ 63 ∧ xs.length * k.toNat ≤ sizeLine ∧
  ∀ p, H p = none → Q (.ref p) (upd H p (.lst (List.replicate k.toNat xs).flatten))
theorem len_rep {α : Type} (xs : List α) (k : Nat) : (List.replicate k xs).flatten.length = k * xs.length := by
  induction k with
  | zero => simp
  | succ k ih => rw [List.replicate_succ, List.flatten_cons, List.length_append, ih, Nat.succ_mul, Nat.add_comm]
theorem op_rep : OpR X (binaryOp .Mult) rRep := by
  intro pins s σ H x y v u Q I rx ry h
  obtain ⟨l, k, xs, rfl, rfl, hH, h1, h2, hz, q⟩ := h
  cases rx
  obtain ⟨t, rfl⟩ := ry
  obtain ⟨z, its, n, r, hl, e⟩ := I.lstM hH
  have hlen : its.toArray.size * k.toNat ≤ sizeLine := by rw [List.size_toArray, ← hl]; exact hz
  have hcap : ¬ its.toArray.size * k.toNat > (2 ^ 63 - 1) / 8 := by
    have : (sizeLine : Nat) ≤ (2 ^ 63 - 1) / 8 := by decide
    (first | lia | omega)
  have hfit : ¬ (!Builtin.List.listFitsIndex k) = true := by
    rw [fitsIndex_both h1 h2]
    exact Bool.false_ne_true
  have hlong : ¬ Builtin.List.listTooLong (its.toArray.size * k.toNat) = true := by
    rw [notLongL hlen]
    exact Bool.false_ne_true
  have hnew : List.foldl (fun x1 x2 => x1 ++ x2) #[] (List.replicate (if its.toArray.isEmpty = true then 0 else k.toNat) its.toArray) = (List.replicate k.toNat its).flatten.toArray := by
    have f0 : ∀ m : Nat, List.foldl (fun x1 x2 => x1 ++ x2) #[] (List.replicate m its.toArray) = (List.replicate m its).flatten.toArray := fun m => by
      have := foldl_rep its m []
      rw [List.nil_append] at this
      exact this
    rw [f0]
    cases its with
    | nil => simp
    | cons a r' => rw [if_neg (by simp)]
  refine wpAny_binaryOp_repeat_ref (T := "list") (U := "int") (by decide) ⟨_, e, rfl⟩ (fun s' => typeIs_int s' k t) noFill_list_mul F.fills_int_mul F.slot_int_rmul repeat_list F.slot_int_index.lookup
    (call_meets F.slot_int_rmul (typeIs_int s k t) F.entry_int_rmul (F.args_int_rmul_2 _ _) (int___rmul___int_list k t l its.toArray n)
      ⟨e, rfl, ⟨_, e, rfl⟩, call_meets F.slot_list_mul ⟨_, e, rfl⟩ F.entry_list_mul (F.args_list_mul_2 _ _) (AutoListH.list___mul___list_int_3 l its.toArray n k t hfit hcap hlong) ⟨e, ?_⟩⟩)
  rw [hnew]
  exact ⟨.ref _, _, I.lnew (t' := s.toks) (r.rep k.toNat) (by rw [len_rep, Nat.mul_comm]; exact hz), rfl, q _ I.fresh⟩
end
section
variable {prog : Program} {w : World} {A : Around} {E : Value → Shared → Prop} {s : Shared}
end
section
variable {X : Cx}
end
end L2
namespace Att
open PySem PySem.W PySem.Calls PyProof.Rows
theorem ints_of_wellAll {P : Params} {h : Heap} : ∀ (ns : List Int) (vs : List Value), WellAll P h vs (ns.map WData.int) → IntsAre vs ns := by
  intro ns
  induction ns with
  | nil =>
    intro vs w
    rw [List.map_nil] at w
    cases w
    exact .nil
  | cons n ns ih =>
    intro vs w
    rw [List.map_cons] at w
    cases w with
    | cons a b =>
      cases a
      exact .cons _ _ (ih _ b)
theorem script_of {l : OpenLaw} {n : Nat} (hn : l.most = some n) {P : Params} {h : Heap} {args : List WData} {vals : List Value}
    (hpre : l.row.toRowW.claim.pre args = true) (hwl : WellAll P h vals args) :
    ∃ a vs ns, vals = [Value.ref a] ∧ args = [WData.list (ns.map WData.int)] ∧ h.get? a = some { cls := .type "list", data := .seq vs.toArray } ∧ IntsAre vs ns ∧ ns.length ≤ n := by
  have hsh : WShape.hasAll [] args [.list .int] = true := (pre_splitW hpre).1
  have hc : l.pre.holds [] { args := args } = true := (pre_splitW hpre).2
  obtain ⟨d, r, rfl, h1, h2⟩ := hasAllW_cons hsh
  obtain rfl := hasAllW_nil h2
  obtain ⟨xs, rfl, h3⟩ := hasW_list h1
  obtain ⟨ns, rfl⟩ := items_int h3
  have hlen : ns.length ≤ n := by
    unfold OpenLaw.pre at hc
    have h4 : (WTm.not (.lt (.lit (.int (n : Int))) (.len (.arg 0)))).holds [] { args := [.list (ns.map .int)] } = true := by
      have h4 := (holds_andW hc).1
      rw [hn] at h4
      exact h4
    have h5 := condW_of h4 (w_not (w_lt w_lit (w_len_list (w_arg rfl))))
    rw [List.length_map] at h5
    refine Nat.le_of_not_lt fun q => ?_
    have q' : (n : Int) < ((ns.length : Nat) : Int) := by (first | lia | omega)
    first
      | (rw [decide_eq_true q'] at h5; exact absurd h5 (by decide))
      | (simp at h5; (first | lia | omega))
  cases hwl with
  | cons w1 w2 =>
    cases w2
    cases w1 with
    | list ho hall => exact ⟨_, _, ns, rfl, rfl, ho, ints_of_wellAll ns _ hall, hlen⟩
theorem post_true (l : OpenLaw) (args : List WData) : l.row.toRowW.claim.post args (.bool true) args = true :=
  postW_of (r := l.row.toRowW) (X := (true == true))
    (show WShape.has [] (.bool true) .bool = true by first | rfl | decide | simp [WShape.has, WShape.arms, WShape.armsAll])
    (show (WTm.eq .res (.lit (.bool true))).value [] { args := args, res := some (.bool true), after := args } = some (.bool (true == true)) from w_eq_bool (w_res rfl) w_lit) rfl
theorem attach_call {l : OpenLaw} {n : Nat} {q : Program} {loose : List Str} {XP : (Str → Option Value) → Heap → Prop} {YP : World → Heap → Prop} {d : DefRec}
    (hn : l.most = some n) (hdf : d.params.defaults = [])
    (call : ∀ (w : World) (s₀ s₁ : Shared) (mg mb : Str → Option Value) (fa : Addr) (o : Obj) (pm cd doc : Value) (a : Addr) (vs : List Value) (ns : List Int),
      Ground q loose [] XP w s₀ mg mb s₁.heap → YP w s₁.heap →
      s₁.heap.get? fa = some o → o.data = .func (docDef d.name d.params d.body d.scope pm cd doc) → s₁.heap.CodeRec cd d.name → mg d.name = some (.ref fa) →
      s₁.heap.get? a = some { cls := .type "list", data := .seq vs.toArray } → IntsAre vs ns → ns.length ≤ n → s₁.gens = #[] →
      codeAny (model l.prog w) callerA (.call (.ref fa) ⟨[.ref a], []⟩) (fun r s' => r = .ok (.ret (.bool true)) ∧ OldK s₁.heap s'.heap ∧ s'.os = s₁.os ∧ AllBare s'.gens) s₁) :
    WalkO q loose XP YP l.row.toRowW d [] (fun f vs => PySem.call f vs) := by
  intro w s₀ s₁ mg mb G Y fa o pm cd doc dV kV ho hd hcd hD hmg hg args vals as hpre hlay hrd hwl hlo
  obtain rfl : dV = .none := Dflts.none hD hdf
  obtain rfl : kV = .none := Dflts.noKw hD
  obtain ⟨a, vs, ns, rfl, rfl, hobj, hints, hlen⟩ := script_of hn hpre hwl
  refine enter_call (codeAny_mono (call w s₀ s₁ mg mb fa o pm cd doc a vs ns G Y ho (fd_plain hd) hcd hmg hobj hints hlen hg) fun r s' hq => ?_)
  obtain ⟨rfl, h2, h3, h4⟩ := hq
  exact ⟨.inl ⟨.bool true, .bool true, [], rfl, fun _ => rfl, .bool true, post_true l _, fun _ => ⟨List.Pairwise.nil, fun _ hm => (nomatch hm)⟩⟩, h2, h3, h4⟩
section
variable {prog : Program} {w : World} {A : Around} {E : Value → Shared → Prop} {s : Shared} {K : Frag}
end
end Att
namespace L2
open PySem PySem.Spec PyProof.Rows
theorem vals_ints : ∀ {vs : List Value} {ns : List Int}, IntsAre vs ns → Vals (ns.map V.int) vs
  | _, _, .nil => .nil
  | _, _, .cons n t h => .cons ⟨t, rfl⟩ (vals_ints h)
def Only (H : Hp) : Prop := ∀ b, H b = none ∨ ∃ o xs, H b = some (.frz o (.lst xs))
theorem law_call {P : Program} {w : World} {K : PySem.W.Frag} {mg mb : Str → Option Value} {CX : CXT} {k : Nat} {fa a : Addr} {fd : FuncData} {x : Str} {sp : Sp} {s₁ : Shared} {vs : List Value} {ns : List Int}
    (KX : K.In s₁.heap) (hns : s₁.heap.Ns mainGlobals mg) (hb : s₁.heap.Ns builtinsNs mb) (hbb : ∀ x : Str, x ≠ "__name__" → mb x = bootBuiltins x) (hlim : s₁.heap.NoLimit) (hseer : s₁.heap.NoSeer) (hg : s₁.gens = #[])
    (ha : s₁.heap.get? a = some { cls := .type "list", data := .seq vs.toArray }) (hi : IntsAre vs ns) (hl : ns.length ≤ sizeLine) (hr : Room k callerA)
    (F : ∀ base : Heap, K.In base → base.Ns mainGlobals mg → FnOk P w K mg base CX k fa fd [x] sp) (hbind : ∀ (s : Shared) (u : Value), BindsTo s fd ⟨[u], []⟩ [(x, u)])
    (hsp : ∀ H : Hp, Only H → SqL K H a (ns.map V.int) → sp [.ref a] H (fun v _ => v = .bl true) fun _ _ _ => False)
    (hCX : ∀ H e s', CX [] H s₁ (fun _ _ _ => False) e s' → False) :
    codeAny (model P w) callerA (.call (.ref fa) ⟨[.ref a], []⟩) (fun r s' => r = .ok (.ret (.bool true)) ∧ OldK s₁.heap s'.heap ∧ s'.os = s₁.os ∧ AllBare s'.gens) s₁ := by
  have rv := vals_ints hi
  have lenV := hi.length
  -- from an abstract heap in which nothing but the script may be tracked
  have core : ∀ H : Hp, Only H → SqL K H a (ns.map V.int) → HOk P w H s₁.heap → (∀ b, H b ≠ none → b = a) → (H a ≠ none → K.lookup a = none) →
      codeAny (model P w) callerA (.call (.ref fa) ⟨[.ref a], []⟩) (fun r s' => r = .ok (.ret (.bool true)) ∧ OldK s₁.heap s'.heap ∧ s'.os = s₁.os ∧ AllBare s'.gens) s₁ := by
    intro H hO hS hok hA hK
    have base_of : ∀ {b : Addr} {o : Obj}, s₁.heap.get? b = some o → H b = none → (hidT s₁.heap H).get? b = some o := fun e n => hidT_get e n
    have noA : ∀ {b : Addr} {o : Obj} {es : Array DictEntry} {ep : Nat}, s₁.heap.get? b = some o → o.data = .dict es ep → H b = none := fun {b o es ep} e d => by
      cases q : H b with
      | none => rfl
      | some u =>
        have e' : b = a := hA b (by rw [q]; simp)
        subst e'
        rw [ha] at e; cases e
        have d' : Data.seq vs.toArray _ = Data.dict es ep := d
        cases d'
    have nsK : ∀ {b : Addr} {m : Str → Option Value}, s₁.heap.Ns b m → (hidT s₁.heap H).Ns b m := fun {b m} ⟨o, es, ep, e, d, r⟩ => ⟨o, es, ep, base_of e (noA e d), d, r⟩
    have hKb : K.In (hidT s₁.heap H) := fun b o e => base_of (KX b o e) (by
      cases q : H b with
      | none => rfl
      | some u =>
        have e' : b = a := hA b (by rw [q]; simp)
        subst e'
        rw [hK (by rw [q]; simp)] at e; cases e)
    have seerK : (hidT s₁.heap H).NoSeer := ⟨let ⟨mc, h1, h2⟩ := hseer.statics; ⟨mc, nsK h1, h2⟩, let ⟨mc, h1, h2⟩ := hseer.mods; ⟨mc, nsK h1, h2⟩, let ⟨mc, h1, h2⟩ := hseer.imp; ⟨mc, nsK h1, h2⟩, by
      obtain ⟨mg', bm, ob, h1, h2, h3, h4, h5⟩ := hseer.main
      refine ⟨mg', bm, ob, nsK h1, h2, base_of h3 ?_, h4, h5⟩
      cases q : H bm with
      | none => rfl
      | some u =>
        have e' : bm = a := hA bm (by rw [q]; simp)
        subst e'
        rw [ha] at h3; cases h3
        have h4' : Value.type "list" = Value.type "module" := h4
        injection h4' with z
        exact absurd z (by decide)⟩
    have hM : Mod K mg (hidT s₁.heap H) := ⟨hKb, nsK hns, ⟨mb, nsK hb, hbb⟩, let ⟨mc, h1, h2⟩ := hlim; ⟨mc, nsK h1, h2⟩, seerK⟩
    have e0 : Env0 P w K mg (hidT s₁.heap H) callerA [] s₁ H := ⟨rfl, hM, fun b o e => of_hidT e, Nat.le_of_eq (hidT_size _ _), trivial, fun b hb => absurd (show b ∈ ([] : List Addr) from hb) (by simp), hok, .of_eq hg⟩
    refine codeAny_mono ((F _ hKb (nsK hns)).run callerA [] s₁ H ⟨[.ref a], []⟩ [.ref a] [.ref a] _ _ hr e0 (hbind s₁ (.ref a)) (.cons rfl .nil) (hsp H hO hS)) fun r s' h => ?_
    cases r with
    | error e => exact (hCX H e s' h).elim
    | ok fl =>
      cases fl with
      | next => exact False.elim h
      | brk => exact False.elim h
      | cont => exact False.elim h
      | ret u =>
        obtain ⟨v, H', os, bare, un, hok', r', q⟩ := h
        have q' : v = .bl true := q
        subst q'
        obtain rfl : u = Value.bool true := r'
        refine ⟨rfl, OldK.of_keep fun b o e => ?_, os, bare⟩
        cases q : H b with
        | none => exact un.keep b o e q (by intro z; exact absurd (show b ∈ ([] : List Addr) from z) (by simp)) (by simp)
        | some u =>
          rcases hO b with z | ⟨ob, xs, z⟩
          · rw [q] at z; cases z
          · have z2 := un.frzs b ob _ z
            obtain ⟨e1, _⟩ := hok b _ z
            obtain ⟨e2, _⟩ := hok' b _ z2
            rw [e] at e1; cases e1
            exact e2
  cases hk : K.lookup a with
  | some o =>
    -- the script is one of the module's own objects
    have e := KX a o hk
    rw [ha] at e
    cases e
    refine core (fun _ => none) (fun _ => .inl rfl) (.inr ⟨_, vs.toArray, _, hk, rfl, rfl, rfl, by rw [List.size_toArray, lenV]; exact hl, by simpa using rv⟩) (fun b u z => by have z' : (none : Option HO) = some u := z; cases z') (fun b z => absurd rfl z) fun z => absurd rfl z
  | none =>
    refine core (fun b => if b = a then some (.frz { cls := .type "list", data := .seq vs.toArray } (.lst (ns.map V.int))) else none) (fun b => ?_) (.inl (.inr ⟨{ cls := .type "list", data := .seq vs.toArray }, if_pos rfl⟩)) (fun b u z => ?_) (fun b z => ?_) fun _ => hk
    · by_cases hb : b = a
      · exact .inr ⟨_, _, if_pos hb⟩
      · exact .inl (if_neg hb)
    · by_cases hb : b = a
      · have z' := (if_pos hb).symm.trans z
        cases z'
        subst hb
        exact ⟨ha, by rw [List.length_map]; exact hl, vs, _, rv, ha⟩
      · have z' := (if_neg hb).symm.trans z
        cases z'
    · by_cases hb : b = a
      · exact hb
      · exact absurd (if_neg hb) z
end L2
namespace L2
open PySem PySem.Spec PyProof.Rows
theorem walk_of {l : PySem.W.OpenLaw} {n k : Nat} {q : Program} {loose : List Str} {XP : (Str → Option Value) → Heap → Prop} {YP : World → Heap → Prop} {d : DefRec} {K : Params → PySem.W.Frag} {CX : World → CXT} {sp : World → Sp} {x : Str}
    (hn : l.most = some n) (hn2 : n ≤ sizeLine) (hdf : d.params.defaults = []) (hr : Room k callerA) (hi : importsNone q = true)
    (hY : ∀ (w : World) (h : Heap), YP w h → (K w.params).In h)
    (F : ∀ (w : World) (mg : Str → Option Value) (fa : Addr) (h : Heap), (K w.params).In h → h.Ns mainGlobals mg → mg d.name = some (.ref fa) →
      ∃ fd : FuncData, (∀ (s : Shared) (u : Value), BindsTo s fd ⟨[u], []⟩ [(x, u)]) ∧
        ∀ base : Heap, (K w.params).In base → base.Ns mainGlobals mg → FnOk l.prog w (K w.params) mg base (CX w) k fa fd [x] (sp w))
    (hsp : ∀ (w : World) (H : Hp) (a : Addr) (ns : List Int), ns.length ≤ n → Only H → SqL (K w.params) H a (ns.map V.int) → sp w [.ref a] H (fun v _ => v = .bl true) fun _ _ _ => False)
    (hCX : ∀ (w : World) (H : Hp) (s : Shared) (e : Value) (s' : Shared), CX w [] H s (fun _ _ _ => False) e s' → False) :
    PySem.W.WalkO q loose XP YP l.row.toRowW d [] (fun f vs => PySem.call f vs) := by
  refine Att.attach_call hn hdf fun w s₀ s₁ mg mb fa o pm cd doc a vs ns G Y ho hd hcd hmg hobj hints hlen hg => ?_
  have KX := hY w _ Y
  obtain ⟨fd, hb, hF⟩ := F w mg fa _ KX G.T.g hmg
  exact law_call KX G.T.g G.T.b G.T.builtins G.T.nolimit (G.T.seer hi) hg hobj hints (Nat.le_trans hlen hn2) hr hF hb (fun H hO hS => hsp w H a ns hlen hO hS) fun H e s' => hCX w H s₁ e s'
end L2
namespace L2
open PySem PySem.Spec PyProof.Rows
def inClass (s : Stmt) (j : Nat) : Stmt := match s with
  | .ClassDef _ _ _ body _ _ _ _ _ _ _ => body.getD j (.Pass ⟨0, 0, 0, 0⟩)
  | _ => .Pass ⟨0, 0, 0, 0⟩
def defArgs (s : Stmt) : Arguments := match s with
  | .FunctionDef _ a _ _ _ _ _ _ _ _ => a
  | _ => { posonlyargs := [], args := [], vararg := none, kwonlyargs := [], kw_defaults := [], kwarg := none, defaults := [] }
def defBody (s : Stmt) : List Stmt := match s with
  | .FunctionDef _ _ b _ _ _ _ _ _ _ => b
  | _ => []
def defScope (s : Stmt) : Scope := match s with
  | .FunctionDef _ _ _ _ _ _ sc _ _ _ => sc
  | _ => { kind := .function, names := [], isGenerator := false, isCoroutine := false }
abbrev CX0 : CXT := fun _ _ _ _ _ _ => False
abbrev E0 : XK := fun _ _ _ => False
theorem pass0 {X : Cx} : Passes CX0 X E0 := fun _ _ _ _ _ _ _ h => h.elim
structure Fun (K : PySem.W.Frag) (x qual : Str) (st : Stmt) (f : Addr) (fd : FuncData) : Prop where
  ex : ∃ (oc : Value) (od : Option Addr) (kV doc pm : Value) (an : Option Addr) (cdv ct : Value) (osl : Array (Option Value)),
    fd = PySem.W.fnOf x qual (defArgs st) (defBody st) (defScope st) .none kV doc pm an cdv ct ∧ K.lookup f = some ⟨oc, od, .func fd, osl⟩ ∧ PySem.W.codeIn K cdv qual = true
  kp : PySem.W.keepIn K (.ref f) = true
section
variable {P : Program} {w : World} {K : PySem.W.Frag} {mg : Str → Option Value} {base : Heap}
theorem Fun.ok {x qual : Str} {st : Stmt} {f : Addr} {fd : FuncData} {N ps : List Str} {k : Nat} {sp : Sp} (F : Fun K x qual st f fd) (S : FnScope N ps (defScope st)) (len : ∀ vs H Q E, sp vs H Q E → vs.length = ps.length)
    (hbody : ∀ (cdv : Value) (A : Around) (outer : List Env) (s : Shared) (H : Hp) (vs : List V) (Q : VK) (E : XK), Room k (A.deeper (envOfC qual (defScope st) s.heap.objs.size f cdv)) → sp vs H Q E →
      ∃ t, PSs (cxOf CX0 P w K mg base N qual (defScope st) f cdv A outer s H E).nox (defBody st) t ∧ t { nx := fun _ H' => Q .non H', rt := Q } (start N vs) H) : FnOk P w K mg base CX0 (k + 1) f fd ps sp := by
  obtain ⟨oc, od, kV, doc, pm, an, cdv, ct, osl, rfl, lk, hcd⟩ := F.ex
  refine fn_of lk hcd S len fun A outer s H vs Q E hr hsp => ?_
  obtain ⟨t, h, q⟩ := hbody cdv A outer s H vs Q E hr hsp
  exact ⟨t, h.nox, q⟩
theorem Fun.binds {x qual : Str} {st : Stmt} {f : Addr} {fd : FuncData} {ps : List Str} (F : Fun K x qual st f fd)
    (h : ∀ (kV doc pm : Value) (an : Option Addr) (cdv ct : Value) (us : List Value), us.length = ps.length → bindArgs (PySem.W.fnOf x qual (defArgs st) (defBody st) (defScope st) .none kV doc pm an cdv ct) ⟨us, []⟩ = pure (ps.zip us)) : Binds K fd ps [] := by
  obtain ⟨oc, od, kV, doc, pm, an, cdv, ct, osl, rfl, lk, hcd⟩ := F.ex
  exact .all (h kV doc pm an cdv ct)
theorem fun_mk {x qual : Str} {st : Stmt} {f : Addr} {oc : Value} {od an : Option Addr} {osl : Array (Option Value)} {kV doc pm cdv ct : Value} (l : K.lookup f = some ⟨oc, od, .func (PySem.W.fnOf x qual (defArgs st) (defBody st) (defScope st) .none kV doc pm an cdv ct), osl⟩)
    (c : PySem.W.codeIn K cdv qual = true) (k : PySem.W.keepIn K (.ref f) = true) : Fun K x qual st f (PySem.W.fnOf x qual (defArgs st) (defBody st) (defScope st) .none kV doc pm an cdv ct) := ⟨⟨oc, od, kV, doc, pm, an, cdv, ct, osl, rfl, l, c⟩, k⟩
end
theorem hu_of {A : Around} {k : Nat} (hr : Room k A) : A.units + 1 < cLine := Nat.lt_of_le_of_lt (Nat.add_le_add_left (by decide : 1 ≤ 64) _) hr.units
theorem small1000 {n : Nat} (h : n ≤ 1000) : n < sizeLine := Nat.lt_of_le_of_lt h (by decide)
section
variable {X : Cx}
theorem pv (i : Nat) {x : Str} {pos : Pos} (hN : X.N[i]? = some x := by rfl) (hv : Vis X.env.scope x := by first | exact Or.inl rfl | exact Or.inr (Or.inl rfl) | exact Or.inr (Or.inr rfl)) (hd : (x == ("__debug__" : Str)) = false := by decide)
    (hcd : (x == ("__classdict__" : Str)) = false := by decide) : PE X (.Name x pos) (tVar i) := pe_var hN hv hd hcd
end
theorem ite2 {c A B : Prop} [Decidable c] (h1 : c → A) (h2 : ¬ c → B) : if c then A else B := by
  by_cases h : c
  · rw [if_pos h]
    exact h1 h
  · rw [if_neg h]
    exact h2 h
def Same (H H' : Hp) : Prop := ∀ b o, H b = some o → H' b = some o
theorem Same.refl (H : Hp) : Same H H := fun _ _ h => h
theorem Same.trans {H H1 H2 : Hp} (a : Same H H1) (b : Same H1 H2) : Same H H2 := fun c o h => b c o (a c o h)
theorem Same.free {H H' : Hp} (e : Same H H') {l : Addr} (h : H' l = Option.none) : H l = Option.none := by
  cases q : H l with
  | none => rfl
  | some o =>
    rw [e l o q] at h
    cases h
theorem Same.seq {K : PySem.W.Frag} {H H' : Hp} {a : Addr} {xs : List V} (e : Same H H') (h : SqL K H a xs) : SqL K H' a xs := by
  rcases h with (h | ⟨o, h⟩) | h
  · exact .inl (.inl (e _ _ h))
  · exact .inl (.inr ⟨o, e _ _ h⟩)
  · exact .inr h
end L2
set_option maxHeartbeats 4000000
namespace L2
open PySem PySem.Spec PyProof.Rows
def cxC (X : Cx) (sc : Scope) (cl : List (Str × Addr)) (N : List Str) (C : Addr) (s : Shared) (H : Hp) (fp : List Addr) (pins : List (Addr × Obj)) : Cx where
  prog := X.prog
  w := X.w
  K := X.K
  mg := X.mg
  base := X.base
  A := X.A
  N := N
  s₀ := s
  H₀ := H
  env := compEnvC sc cl C X.env
  outer := X.stack
  stack := X.stack
  ex := fp
  fn := fun _ => false
  calm := X.calm
  pn := X.pn ++ pins
  xe := fun _ _ => False
theorem closure_ex {env : Env} : ∀ (names : List (Str × NameKind)) (acc : List (Str × Addr)), (∀ y ∈ names, y.2 = .free → ∃ c, env.cells.lookup y.1 = some c) → (∀ x c, acc.lookup x = some c → env.cells.lookup x = some c) →
    ∃ cl : List (Str × Addr), (forIn names acc fun (x : Str × NameKind) (cs : List (Str × Addr)) => (if x.2 == .free then do let c ← cellOf env x.1; pure (ForInStep.yield ((x.1, c) :: cs)) else pure (ForInStep.yield cs) : Sem (ForInStep (List (Str × Addr))))) = pure cl ∧
      (∀ x c, cl.lookup x = some c → env.cells.lookup x = some c) ∧ (∀ x c, acc.lookup x = some c → ∃ c', cl.lookup x = some c') ∧ (∀ y ∈ names, y.2 = .free → ∃ c, cl.lookup y.1 = some c)
  | [], acc, _, ha => ⟨acc, rfl, ha, fun x c e => ⟨c, e⟩, fun y hy => absurd hy (by simp)⟩
  | (n, k) :: r, acc, h, ha => by
    by_cases hk : k = .free
    · subst hk
      obtain ⟨c, hc⟩ := h (n, .free) List.mem_cons_self rfl
      have ha' : ∀ x c', ((n, c) :: acc).lookup x = some c' → env.cells.lookup x = some c' := fun x c' e => by
        rw [List.lookup_cons] at e
        cases q : x == n with
        | true =>
          rw [q] at e
          have e1 : x = n := by simpa using q
          have e2 : c = c' := by simpa using e
          rw [e1, ← e2]; exact hc
        | false => rw [q] at e; exact ha x c' e
      obtain ⟨cl, e, h1, h2, h3⟩ := closure_ex r ((n, c) :: acc) (fun y hy => h y (List.mem_cons_of_mem _ hy)) ha'
      refine ⟨cl, ?_, h1, fun x c' e' => ?_, fun y hy hf => ?_⟩
      · rw [List.forIn_cons]
        have hcell : cellOf env n = pure c := by
          unfold cellOf
          rw [hc]
        simp only [beq_self_eq_true, if_true, hcell]
        exact e
      · by_cases q : x = n
        · exact h2 n c (by rw [List.lookup_cons]; simp) |> fun z => by rw [q]; exact z
        · exact h2 x c' (by rw [List.lookup_cons, show (x == n) = false by simpa using q]; exact e')
      · rcases List.mem_cons.mp hy with rfl | hy
        · exact h2 n c (by rw [List.lookup_cons]; simp)
        · exact h3 y hy hf
    · have hb : (k == NameKind.free) = false := by simpa using hk
      obtain ⟨cl, e, h1, h2, h3⟩ := closure_ex r acc (fun y hy => h y (List.mem_cons_of_mem _ hy)) ha
      refine ⟨cl, ?_, h1, h2, fun y hy hf => ?_⟩
      · rw [List.forIn_cons]
        simp only [hb, Bool.false_eq_true, if_false]
        exact e
      · rcases List.mem_cons.mp hy with rfl | hy
        · exact absurd hf hk
        · exact h3 y hy hf
theorem closureFor_ex {env : Env} (sc : Scope) (h : ∀ y ∈ sc.names, y.2 = .free → ∃ c, env.cells.lookup y.1 = some c) :
    ∃ cl : List (Str × Addr), closureFor sc env = pure cl ∧ (∀ x c, cl.lookup x = some c → env.cells.lookup x = some c) ∧ (∀ y ∈ sc.names, y.2 = .free → ∃ c, cl.lookup y.1 = some c) := by
  obtain ⟨cl, e, h1, _, h3⟩ := closure_ex sc.names [] h (fun x c z => by simp at z)
  refine ⟨cl, ?_, h1, h3⟩
  have q : closureFor sc env = (forIn sc.names ([] : List (Str × Addr)) (fun (x : Str × NameKind) (cs : List (Str × Addr)) => (if x.2 == .free then do let c ← cellOf env x.1; pure (ForInStep.yield ((x.1, c) :: cs)) else pure (ForInStep.yield cs) : Sem (ForInStep (List (Str × Addr))))) >>= fun cs => pure cs) := rfl
  rw [q, e]
  rfl
theorem relabel_kind {sc : Scope} {env : Env} {x : Str} (hn : ∀ y ∈ sc.names, y.2 ≠ .cell) (h : (relabel sc env).names.lookup x = some .cell ∨ (relabel sc env).names.lookup x = some .free) : ∃ y ∈ sc.names, y.1 = x ∧ y.2 = .free := by
  obtain ⟨k', hk, hm⟩ : ∃ k', (k' = NameKind.cell ∨ k' = NameKind.free) ∧ (x, k') ∈ (relabel sc env).names := by
    rcases h with h | h
    · exact ⟨_, .inl rfl, PySem.mem_of_lookup h⟩
    · exact ⟨_, .inr rfl, PySem.mem_of_lookup h⟩
  unfold relabel at hm
  obtain ⟨⟨n, k⟩, hy, e⟩ := List.mem_map.mp hm
  dsimp only at e
  split at e
  · rename_i hc
    have e1 : n = x := congrArg Prod.fst e
    simp only [Bool.and_eq_true, beq_iff_eq] at hc
    exact ⟨(n, k), hy, e1, hc.1.1⟩
  · have e1 : n = x := congrArg Prod.fst e
    have e2 : k = k' := congrArg Prod.snd e
    refine ⟨(n, k), hy, e1, ?_⟩
    rcases hk with z | z
    · exact absurd (e2.trans z) (hn _ hy)
    · exact e2.trans z
end L2
namespace L2
open PySem PySem.Spec PyProof.Rows
theorem lookup_relabel_free {env : Env} : ∀ {names : List (Str × NameKind)} {x : Str}, names.lookup x = some .free →
    (names.map fun (n, k) => if (k == NameKind.free && env.scope.kind == .function && env.kindOf n == some .cell) then (n, NameKind.cell) else (n, k)).lookup x = some .cell ∨
    (names.map fun (n, k) => if (k == NameKind.free && env.scope.kind == .function && env.kindOf n == some .cell) then (n, NameKind.cell) else (n, k)).lookup x = some .free
  | [], _, h => by simp at h
  | (n, k) :: r, x, h => by
    have ih := @lookup_relabel_free env r x
    show List.lookup x ((if (k == NameKind.free && env.scope.kind == .function && env.kindOf n == some .cell) = true then (n, NameKind.cell) else (n, k)) :: _) = _ ∨
      List.lookup x ((if (k == NameKind.free && env.scope.kind == .function && env.kindOf n == some .cell) = true then (n, NameKind.cell) else (n, k)) :: _) = _
    cases hx : x == n with
    | true =>
      simp only [List.lookup_cons, hx] at h
      by_cases hc : (k == NameKind.free && env.scope.kind == .function && env.kindOf n == some .cell) = true
      · rw [if_pos hc]; exact .inl (by simp [List.lookup_cons, hx])
      · rw [if_neg hc]; exact .inr (by simpa [List.lookup_cons, hx] using h)
    | false =>
      simp only [List.lookup_cons, hx] at h
      by_cases hc : (k == NameKind.free && env.scope.kind == .function && env.kindOf n == some .cell) = true
      · rw [if_pos hc]; simp only [List.lookup_cons, hx]; exact ih h
      · rw [if_neg hc]; simp only [List.lookup_cons, hx]; exact ih h
def stC (own : List Str) (fr : List (Str × Nat)) (σ : St) : St := own.map (fun _ => none) ++ fr.map (fun p => (σ[p.2]?).join)
def nmC (own : List Str) (fr : List (Str × Nat)) : List Str := own ++ fr.map (·.1)
structure CompSc (X : Cx) (sc : Scope) (own : List Str) (fr : List (Str × Nat)) : Prop where
  kind : sc.kind = .function
  cell : ∀ y ∈ sc.names, y.2 ≠ .cell
  names : ∀ y ∈ sc.names, y.2 = .local → sc.names.lookup y.1 = some .local
  free : ∀ y ∈ sc.names, y.2 = .free → (X.env.kindOf y.1 = some .cell ∨ X.env.kindOf y.1 = some .free)
  fr : ∀ p ∈ fr, X.N[p.2]? = some p.1 ∧ sc.names.lookup p.1 = some .free
theorem inv_comp {X : Cx} {pins : List (Addr × Obj)} {σ : St} {H : Hp} {s : Shared} {sc : Scope} {cl : List (Str × Addr)} {own : List Str} {fr : List (Str × Nat)} {fp : List Addr} {h4 : Heap} {m : Str → Option Value} {tk : Nat}
    (I : Inv X pins σ H s) (S : CompSc X sc own fr) (hcl1 : ∀ x c, cl.lookup x = some c → X.env.cells.lookup x = some c) (hcl2 : ∀ y ∈ sc.names, y.2 = .free → ∃ c, cl.lookup y.1 = some c)
    (hf : ∀ b ∈ fp, FpOk X pins H b) (hfl : ∀ b ∈ fp, b < s.heap.objs.size) (hns : h4.Ns s.heap.objs.size m) (hk4 : ∀ b o, s.heap.get? b = some o → h4.get? b = some o) :
    Inv (cxC X sc cl (nmC own fr) s.heap.objs.size s H fp pins) [] (stC own fr σ) H { s with heap := h4, toks := tk } := by
  have cellK : ∀ x c, cl.lookup x = some c → ∃ v, h4.IsCell c v ∧ s.heap.IsCell c v := fun x c e => by
    obtain ⟨v, o, ho, hd⟩ := I.cell x c (hcl1 x c e)
    exact ⟨v, ⟨o, hk4 c o ho, hd⟩, ⟨o, ho, hd⟩⟩
  refine ⟨⟨I.ok.mod, S.kind, I.ok.glob, I.ok.blt, Nat.le_refl _, fun x y c h1 h2 => I.ok.inj x y c (hcl1 x c h1) (hcl1 y c h2), fun x hx => ?_, fun x c hx => (nomatch hx), I.ok.hd, I.ok.frames, .inl rfl, fun b hb => ⟨Nat.ne_of_lt (hfl b hb), fun x c e => (hf b hb).2.2.2.2.1 x c (hcl1 x c e)⟩,
    I.bs, Nat.le_trans I.ok.bsz I.sz, fun b o e hb => ?_, fun b hb hz => ?_, I.stack, I.stkFree⟩, rfl, I.bare, Un.kept hk4, ⟨m, hns, fun i x v h1 h2 h3 => ?_⟩, fun x c e => ?_, I.hok.fresh (Nat.le_refl _), fun x c e => I.freeC x c (hcl1 x c e), fun p hp => ?_, I.hok.kept hk4, ?_⟩
  · obtain ⟨y, hy, e, hk⟩ := relabel_kind S.cell hx
    obtain ⟨c, hc⟩ := hcl2 y hy hk
    exact ⟨c, by rw [← e]; exact hc⟩
  · rcases (hf b hb).2.2.2.1 with z | z
    · exact I.ok.noex b o e z
    · exact absurd (Nat.lt_of_lt_of_le (Heap.lt_size e) (Nat.le_trans I.ok.bsz z)) (Nat.lt_irrefl _)
  · rcases List.mem_cons.mp (I.stkSub b hz) with z | z
    · exact (hf b hb).2.1 z
    · exact (hf b hb).2.2.1 z
  · have h1 : (nmC own fr)[i]? = some x := h1
    unfold nmC at h1
    unfold stC at h2
    by_cases hi : i < own.length
    · rw [List.getElem?_append_left (by simpa using hi), List.getElem?_map] at h2
      cases e : own[i]? with
      | none => rw [e] at h2; cases h2
      | some z => rw [e] at h2; cases h2
    · rw [List.getElem?_append_right (by simpa using hi), List.getElem?_map, List.length_map] at h2
      rw [List.getElem?_append_right (by simpa using hi), List.getElem?_map] at h1
      cases e : fr[i - own.length]? with
      | none => rw [e] at h1; cases h1
      | some p =>
        rw [e] at h1 h2
        have e1 : p.1 = x := Option.some.inj h1
        have e2 : (σ[p.2]?).join = some v := Option.some.inj h2
        have e3 : σ[p.2]? = some (some v) := by
          cases q : σ[p.2]? with
          | none => rw [q] at e2; cases e2
          | some z => rw [q] at e2; rw [show z = some v from e2]
        obtain ⟨f1, f2⟩ := S.fr p (List.mem_of_getElem? e)
        rw [e1] at f1 f2
        have hy := PySem.mem_of_lookup f2
        have f3 : X.env.kindOf x = some .cell ∨ X.env.kindOf x = some .free := S.free (x, .free) hy rfl
        obtain ⟨m', hn', hl⟩ := I.loc
        obtain ⟨u, r, l⟩ := hl p.2 x v f1 e3 (by rcases f3 with z | z; exact .inr (.inl z); exact .inr (.inr z))
        refine ⟨u, r, .inr ⟨lookup_relabel_free f2, ?_⟩⟩
        obtain ⟨c', hc'⟩ := hcl2 (x, .free) hy rfl
        refine ⟨c', hc', ?_⟩
        rcases l with ⟨z, _⟩ | ⟨_, c, hc, o, ho, hd⟩
        · rcases f3 with q | q
          · rw [q] at z; cases z
          · rw [q] at z; cases z
        · rw [hcl1 x c' hc'] at hc
          cases hc
          exact ⟨o, hk4 _ o ho, hd⟩
  · obtain ⟨v, h, _⟩ := cellK x c e
    exact ⟨v, h⟩
  · have hp : p ∈ (X.pn ++ pins) ++ [] := hp
    rw [List.append_nil] at hp
    obtain ⟨e, n, ne, nf, d⟩ := I.pin p hp
    refine ⟨hk4 _ _ e, n, Nat.ne_of_lt (Heap.lt_size e), fun hz => ?_, d⟩
    rcases List.mem_cons.mp (I.stkSub p.1 hz) with z | z
    · exact ne z
    · exact nf z
  · show (stC own fr σ).length = (nmC own fr).length
    unfold stC nmC
    simp
theorem Inv.ofComp {X : Cx} {pins : List (Addr × Obj)} {σ σ' : St} {H3 H' : Hp} {s3 s' : Shared} {sc : Scope} {cl : List (Str × Addr)} {N : List Str} {fp : List Addr} {pins' : List (Addr × Obj)} {C : Addr} {h' : Heap}
    (I : Inv X pins σ H3 s3) (hC : C = s3.heap.objs.size) (hf : ∀ b ∈ fp, FpOk X pins H3 b) (I' : Inv (cxC X sc cl N C s3 H3 fp pins) pins' σ' H' s') (sb : Heap.SameBut C s'.heap h') : Inv X pins σ H' { s' with heap := h' } := by
  have hn : H' C = none := I'.free
  have neC : ∀ b o, s3.heap.get? b = some o → b ≠ C := fun b o e => by rw [hC]; exact Nat.ne_of_lt (Heap.lt_size e)
  refine I.call' (ch := fp) (s' := { s' with heap := h' }) (show s'.os = s3.os from I'.os) ⟨fun b o e n h1 h2 => ?_, fun b o e n h1 h2 => ?_, I'.base.free, fun b o e h2 => ?_, I'.base.tups, I'.base.frzs, I'.base.tbls⟩ (fun b o e => ?_) I'.bare fun b hb => ?_
  · exact (sb.2 b (neC b o e)).trans (I'.base.keep b o e n h1 h2)
  · obtain ⟨sl, q⟩ := I'.base.slot b o e n h1 h2
    exact ⟨sl, (sb.2 b (neC b o e)).trans q⟩
  · obtain ⟨o', q⟩ := I'.base.there b o e h2
    exact ⟨o', (sb.2 b (neC b o e)).trans q⟩
  · refine (I'.hok b o e).stay (fun c v hc q => (sb.2 c ?_).trans q) (fun _ q => q) fun _ _ q => q
    rintro rfl
    rcases hc with z | z
    · rw [← z, hn] at e; cases e
    · rw [hn] at z; cases z
  · obtain ⟨_, f1, _, f3, f4, f5⟩ := hf b hb
    exact ⟨f3, f1, f4, f5⟩
end L2
namespace L2
open PySem PySem.Spec PyProof.Rows
section
variable {prog : Program} {w : World} {A : Around} {R : Result → Shared → Prop} {s : Shared}
theorem compLoop_own {elt target iter : Expr} {scope : Scope} {pos : Pos} {it acc : Value} {env : Env} (I : Nat → Shared → Prop)
    (turn : ∀ n s, I n s → wpAny (model prog w) A (pyNext it) (fun r s₁ => match r with
      | none => R (.ok .next) s₁
      | some v => wpAny (model prog w) A (letOwnedTupleGo target it v) (fun _ s₁' => wpAny (model prog w) A (assign target env v) (fun _ s₂ => wpAny (model prog w) A (eval elt env) (fun x s₃ =>
          wpAny (model prog w) A (call (.builtin "list.append") [acc, x]) (fun _ s₄ => ∃ m, m < n ∧ I m s₄) (fun _ _ => False) s₃) (fun _ _ => False) s₂) (fun _ _ => False) s₁') (fun _ _ => False) s₁) (fun _ _ => False) s)
    (n : Nat) (h : I n s) :
    codeAny (model prog w) A (.compLoop (.ListComp elt [⟨target, iter, [], 0⟩] scope pos) 0 it acc env) R s := by
  refine codeAny_loop rfl I (fun n s hI => ?_) n h
  show wpAny _ _ ((compTurn (.ListComp elt [⟨target, iter, [], 0⟩] scope pos) 0 it acc env).onRaise (fun x => do noteFrame x env; theTreesLotGoes x)) _ _ s
  refine wpAny_noted ?_
  rw [compTurn_list1]
  refine wpAny_bind (wpAny_standAt (wpAny_bind (wpAny_mono (turn n s hI) (fun r s₁ h₁ => ?_) fun _ _ h' => False.elim h')))
  cases r with
  | none => exact wpAny_pure h₁
  | some v =>
    refine wpAny_bind (wpAny_mono h₁ (fun _ s₁' h₁' => ?_) fun _ _ h' => False.elim h')
    exact wpAny_bind (wpAny_mono h₁' (fun _ s₂ h₂ => wpAny_bind (wpAny_bind (wpAny_mono h₂ (fun x s₃ h₃ => wpAny_bind (wpAny_mono h₃
      (fun _ s₄ h₄ => wpAny_pure (wpAny_pure ⟨rfl, h₄⟩)) fun _ _ h' => False.elim h')) fun _ _ h' => False.elim h'))) fun _ _ h' => False.elim h')
end
def tComp (wi : TI) (g : TG) (own : List Str) (fr : List (Str × Nat)) (te : TE) : TE := fun σ H Q => wi σ H fun J H1 => ∀ D, H1 D = none →
  ∃ W : Nat → Nat → List V → Hp → Prop, (∃ m, W 0 m [] (upd H1 D (.lst []))) ∧ ∀ i m ys H, W i m ys H → H D = some (.lst ys) ∧
    ((J.stop i H ∧ Q (.ref D) H) ∨ (J.go i H ∧ ys.length < sizeLine ∧ ∃ N : VK, (∀ y H3, N y H3 → H3 D = some (.lst ys) ∧ ∃ m', m' < m ∧ W (i + 1) m' (ys ++ [y]) (upd H3 D (.lst (ys ++ [y])))) ∧ ∀ x H', J.yld i H x H' → g x (stC own fr σ) H' fun σ2 H2 => te σ2 H2 N))
def GKeeps (n : Nat) (g : TG) : Prop := ∀ x σ H Q, g x σ H Q → g x σ H fun σ2 H2 => (∀ j, n ≤ j → σ2[j]? = σ[j]?) ∧ Q σ2 H2
theorem gk_name {i n : Nat} (h : i < n) : GKeeps n (gName i) := fun _ _ _ _ q => ⟨fun j hj => List.getElem?_set_ne (by (first | lia | omega)), q⟩
theorem gk_tup2 {K : PySem.W.Frag} {i j n : Nat} (h : i < n) (h' : j < n) : GKeeps n (gTup K 2 (gCons (gName i) (gCons (gName j) gNil))) := by
  intro x σ H Q q
  obtain ⟨a, xs, e, hs, hl, v, r, e1, v2, r2, e2, e3, q⟩ := q
  exact ⟨a, xs, e, hs, hl, v, r, e1, v2, r2, e2, e3, fun k hk => by rw [List.getElem?_set_ne (by (first | lia | omega)), List.getElem?_set_ne (by (first | lia | omega))], q⟩
section
variable {X : Cx}
theorem comp_block {elt target iter : Expr} {sc : Scope} {pos : Pos} {own : List Str} {fr : List (Str × Nat)} {g : TG} {te : TE} (hc : X.calm = true) (S : CompSc X sc own fr) (hk : GKeeps own.length g)
    (hg : ∀ cl C s H fp pins, PG (cxC X sc cl (nmC own fr) C s H fp pins) target g) (he : ∀ cl C s H fp pins, PE (cxC X sc cl (nmC own fr) C s H fp pins) elt te)
    {pins : List (Addr × Obj)} {σ : St} {Q : VK} {itv : Value} {s2 : Shared} {cl : List (Str × Addr)} (hcl1 : ∀ x c, cl.lookup x = some c → X.env.cells.lookup x = some c) (hcl2 : ∀ y ∈ sc.names, y.2 = .free → ∃ c, cl.lookup y.1 = some c)
    {E : Value → Shared → Prop} {RR : Value → Addr → Result → Shared → Prop}
    (h : PIE X pins σ target (fun J H1 => ∀ D, H1 D = none →
      ∃ W : Nat → Nat → List V → Hp → Prop, (∃ m, W 0 m [] (upd H1 D (.lst []))) ∧ ∀ i m ys H, W i m ys H → H D = some (.lst ys) ∧
      ((J.stop i H ∧ Q (.ref D) H) ∨ (J.go i H ∧ ys.length < sizeLine ∧ ∃ N : VK, (∀ y H3, N y H3 → H3 D = some (.lst ys) ∧ ∃ m', m' < m ∧ W (i + 1) m' (ys ++ [y]) (upd H3 D (.lst (ys ++ [y])))) ∧ ∀ x H', J.yld i H x H' → g x (stC own fr σ) H' fun σ2 H2 => te σ2 H2 N))) itv s2)
    (hRR : ∀ (D C : Addr) (s' : Shared) (H' : Hp) (m : Str → Option Value), s'.heap.Ns C m → Q (.ref D) H' → Inv X pins σ H' s' → FpOk X pins H' C → RR (.ref D) C (.ok .next) s') :
    wpAny (model X.prog X.w) X.A (newList []) (fun acc s3 => wpAny (model X.prog X.w) X.A (newFunctionEnv sc X.env.globals cl [] X.env.qual none .none (some X.env)) (fun cenv s4 =>
      codeAny (model X.prog X.w) X.A (.compStart (.ListComp elt [⟨target, iter, [], 0⟩] sc pos) 0 itv acc { cenv with scope := relabel sc X.env }) (RR acc cenv.locals) s4) E s3) E s2 := by
  obtain ⟨it, fp, tn, J, H1, rfl, I, T, st, hf, hR⟩ := h
  have hfree : H1 s2.heap.objs.size = none := I.hok.fresh (Nat.le_refl _)
  obtain ⟨W, ⟨m0, w0⟩, turn⟩ := hR _ hfree
  refine wpAny_newObj_type ?_ (by show 0 ≤ sizeLine; exact Nat.zero_le _)
  have I3 : Inv X pins σ (upd H1 s2.heap.objs.size (.lst [])) { s2 with heap := s2.heap.push { cls := .type "list", data := .seq ([] : List Value).toArray } } := I.lnew (t' := s2.toks) .nil (Nat.zero_le _)
  generalize hs3 : ({ s2 with heap := s2.heap.push { cls := .type "list", data := .seq ([] : List Value).toArray } } : Shared) = s3 at I3 ⊢
  have hsz3 : s3.heap.objs.size = s2.heap.objs.size + 1 := by rw [← hs3]; exact Heap.size_push ..
  have old3 : ∀ b o, s2.heap.get? b = some o → s3.heap.get? b = some o := fun b o e => by rw [← hs3]; exact Heap.get?_push_of_some _ e
  have fpl : ∀ b ∈ fp, b < s2.heap.objs.size := fun b hb => by
    obtain ⟨o, e, _⟩ := T.obj _ _ st b hb
    exact Heap.lt_size e
  have hf3 : ∀ b ∈ fp, FpOk X pins (upd H1 s2.heap.objs.size (.lst [])) b := fun b hb => by
    obtain ⟨f0, f1⟩ := hf b hb
    exact ⟨by rw [upd_ne (Nat.ne_of_lt (fpl b hb))]; exact f0, f1⟩
  have st3 : tn 0 s3.heap := T.keep _ _ _ st fun b _ o e => old3 b o e
  refine wpAny_newFunctionEnv S.cell (by intro y hy; simp at hy) (fun h4 hns hsb => ?_) S.kind
  have hk4 : ∀ b o, s3.heap.get? b = some o → h4.get? b = some o := fun b o e => hsb.extBut b o (Nat.ne_of_lt (Heap.lt_size e)) (Heap.get?_push_of_some _ e)
  have I4 := inv_comp (tk := s3.toks + ([] : List (Str × Value)).length) I3 S hcl1 hcl2 hf3 (fun b hb => by rw [hsz3]; exact Nat.lt_succ_of_lt (fpl b hb)) hns hk4
  have st4 : tn 0 h4 := T.keep _ _ _ st3 fun b _ o e => hk4 b o e
  -- what is kept of the iterator's objects in the block
  have fpC : ∀ {pins' : List (Addr × Obj)} {H' : Hp}, pins' = [] → (∀ b ∈ fp, H' b = none) → ∀ b ∈ fp, FpOk (cxC X sc cl (nmC own fr) s3.heap.objs.size s3 (upd H1 s2.heap.objs.size (.lst [])) fp pins) pins' H' b := fun {pins' H'} hp hn b hb => by
    subst hp
    obtain ⟨f0, f1, f2, f3, f4, f5⟩ := hf3 b hb
    refine ⟨hn b hb, ?_, fun z => ?_, .inl hb, fun x c e => f4 x c (hcl1 x c e), fun p hp => ?_⟩
    · show b ≠ s3.heap.objs.size
      rw [hsz3]; exact Nat.ne_of_lt (Nat.lt_succ_of_lt (fpl b hb))
    · rcases List.mem_cons.mp (I3.stkSub b z) with q | q
      · exact f1 q
      · exact f2 q
    · have hp : p ∈ (X.pn ++ pins) ++ [] := hp
      rw [List.append_nil] at hp
      exact f5 p hp
  have loop : ∀ s4 : Shared, s4 = { s3 with heap := h4, toks := s3.toks + ([] : List (Str × Value)).length } →
      codeAny (model X.prog X.w) X.A (.compLoop (.ListComp elt [⟨target, iter, [], 0⟩] sc pos) 0 (.ref it) (.ref s2.heap.objs.size) (compEnvC sc cl s3.heap.objs.size X.env)) (RR (.ref s2.heap.objs.size) s3.heap.objs.size) s4 := by
    rintro s4 rfl
    refine compLoop_own (fun n s' => ∃ i ys H', Inv (cxC X sc cl (nmC own fr) s3.heap.objs.size s3 (upd H1 s2.heap.objs.size (.lst [])) fp pins) [] (stC own fr σ) H' s' ∧ tn i s'.heap ∧ (∀ b ∈ fp, H' b = none) ∧ W i n ys H') ?_ m0
      ⟨0, [], _, I4, st4, fun b hb => (hf3 b hb).1, w0⟩
    rintro n s5 ⟨i, ys, H5, I5, st5, fr5, w5⟩
    obtain ⟨hD, tt⟩ := turn i n ys H5 w5
    rcases tt with ⟨stop, q⟩ | ⟨go, hlen, N, hN, step⟩
    · refine thn (T.done (cxC X sc cl (nmC own fr) s3.heap.objs.size s3 (upd H1 s2.heap.objs.size (.lst [])) fp pins) rfl rfl rfl hc i [] s5 _ H5 _ I5 (fpC rfl fr5) st5 stop) fun r s6 ⟨hr, I6⟩ => ?_
      subst hr
      obtain ⟨m6, n6, _⟩ := I6.loc
      exact hRR _ _ s6 H5 m6 n6 q (I3.ofComp rfl hf3 I6 (.refl ..)) (I3.fpOk (Nat.le_refl _) I6.free)
    · refine thn (T.item (cxC X sc cl (nmC own fr) s3.heap.objs.size s3 (upd H1 s2.heap.objs.size (.lst [])) fp pins) rfl rfl rfl hc i [] s5 _ H5 _ I5 (fpC rfl fr5) st5 go) fun r s6 ⟨u, hr, h6⟩ => ?_
      subst hr
      refine thn h6 fun _ s7 ⟨x, H7, I7, r7, y7, st7, fr7⟩ => ?_
      have I7' := I7.pinned (fpC rfl fr7) (T.obj _ _ st7)
      refine thn (hg _ _ _ _ _ _ _ s7 _ H7 x u _ I7' r7 (hk _ _ _ _ (step x H7 y7))) fun _ s8 ⟨σ8, H8, I8, k8, q8⟩ => ?_
      refine thn (he _ _ _ _ _ _ _ s8 σ8 H8 _ I8 q8) fun v s9 ⟨y, H9, I9, r9, n9⟩ => ?_
      obtain ⟨hD9, m', hm, w9⟩ := hN y H9 n9
      refine thn (mt_append (X := cxC X sc cl (nmC own fr) s3.heap.objs.size s3 (upd H1 s2.heap.objs.size (.lst [])) fp pins) _ s9 σ8 H9 (.ref s2.heap.objs.size) [y] _ [v]
        (fun _ H => H = upd H9 s2.heap.objs.size (.lst (ys ++ [y]))) I9 rfl (.cons r9 .nil) ⟨ys, hD9, hlen, rfl⟩) fun _ s10 ⟨_, H10, I10, _, e10⟩ => ?_
      subst e10
      refine ⟨m', hm, i + 1, ys ++ [y], _, ?_, T.keep _ _ _ st7 fun b hb o e => (I10.pin (b, o) (List.mem_append_right _ (List.mem_append_right _ (mem_pinsAt hb e)))).1, fun b hb => ?_, w9⟩
      · refine (Inv.weak I10 ?_ ?_).pins_of fun p hp => absurd hp (by simp)
        · have l1 := I10.len
          have l5 := I5.len
          (first | lia | omega)
        · intro j v hj
          by_cases hjo : j < own.length
          · unfold stC at hj
            rw [List.getElem?_append_left (by simpa using hjo), List.getElem?_map] at hj
            cases e : own[j]? with
            | none => rw [e] at hj; cases hj
            | some z => rw [e] at hj; cases hj
          · rw [k8 j (by (first | lia | omega))]
            exact hj
      · obtain ⟨o, e, d⟩ := T.obj _ _ st7 b hb
        exact (I10.pin (b, o) (List.mem_append_right _ (List.mem_append_right _ (mem_pinsAt hb e)))).2.1
  exact codeAny_compStart_list (loop _ rfl) (T.self _ 0 _ _ _ st4 (loop _ rfl))
theorem Inv.blockGone {pins : List (Addr × Obj)} {σ : St} {H : Hp} {s : Shared} {C : Addr} {h' : Heap} (I : Inv X pins σ H s) (f : FpOk X pins H C) (sb : Heap.SameBut C s.heap h') : Inv X pins σ H { s with heap := h' } :=
  I.turned (t' := s.toks) (fun b o hb e => (sb.2 b hb).trans e) f.1 f.2.1 f.2.2.2.1 f.2.2.2.2.1 f.2.2.2.2.2
theorem CompSc.clos {sc : Scope} {own : List Str} {fr : List (Str × Nat)} {pins : List (Addr × Obj)} {σ : St} {H : Hp} {s : Shared} (S : CompSc X sc own fr) (I : Inv X pins σ H s) :
    ∃ cl : List (Str × Addr), closureFor sc X.env = pure cl ∧ (∀ x c, cl.lookup x = some c → X.env.cells.lookup x = some c) ∧ (∀ y ∈ sc.names, y.2 = .free → ∃ c, cl.lookup y.1 = some c) :=
  closureFor_ex sc fun y hy hf => I.ok.has y.1 (S.free y hy hf)
theorem pe_comp {elt target iter : Expr} {sc : Scope} {pos : Pos} (own : List Str) (fr : List (Str × Nat)) {wi : TI} {g : TG} {te : TE} (hc : X.calm = true) (S : CompSc X sc own fr) (hi : PI X target iter wi) (hk : GKeeps own.length g)
    (hg : ∀ cl C s H fp pins, PG (cxC X sc cl (nmC own fr) C s H fp pins) target g) (he : ∀ cl C s H fp pins, PE (cxC X sc cl (nmC own fr) C s H fp pins) elt te)
    (hs : ∀ x, foldedSetIterable iter X.env x = pure x := by intro _; rfl) : PE X (.ListComp elt [⟨target, iter, [], 0⟩] sc pos) (tComp wi g own fr te) := by
  intro pins s σ H Q I h
  obtain ⟨cl, hclos, h1, h2⟩ := S.clos I
  rw [eval_ListComp]
  refine wpAny_comprehension_free (use := none) rfl hs hclos S.kind S.names (thn (hi pins s σ H _ I h) fun v s1 hv => thn hv fun itv s2 hp => ?_)
  exact comp_block (RR := fun acc C => compPost (model X.prog X.w) X.A X.xe none (EP X pins σ Q) acc C) hc S hk hg he h1 h2 hp fun D C s' H' m hn q I' f => ⟨m, hn, fun h' sb => ⟨.ref D, H', I'.blockGone f sb, rfl, q⟩⟩
theorem ps_comp {i : Nat} {x : Str} {pos' : Pos} {elt target iter : Expr} {sc : Scope} {cpos pos : Pos} (own : List Str) (fr : List (Str × Nat)) {wi : TI} {g : TG} {te : TE} (hN : X.N.Nodup) (hi' : X.N[i]? = some x) (hx : Loc X.env.scope x)
    (hsw : swapsWith (.ListComp elt [⟨target, iter, [], 0⟩] sc cpos) (some (.Name x pos')) pos.line X.env = pure true)
    (hc : X.calm = true) (S : CompSc X sc own fr) (hi : PI X target iter wi) (hk : GKeeps own.length g)
    (hg : ∀ cl C s H fp pins, PG (cxC X sc cl (nmC own fr) C s H fp pins) target g) (he : ∀ cl C s H fp pins, PE (cxC X sc cl (nmC own fr) C s H fp pins) elt te)
    (hs : ∀ x, foldedSetIterable iter X.env x = pure x := by intro _; rfl) (hf : X.fn x = true ∨ X.env.scope.names.lookup x = some .local := by first | exact .inl rfl | exact .inr rfl | assumption) :
    PS X (.Assign [.Name x pos'] (.ListComp elt [⟨target, iter, [], 0⟩] sc cpos) pos) (tAsg (tComp wi g own fr te) (gName i)) := by
  intro pins s σ H D I h
  obtain ⟨cl, hclos, h1, h2⟩ := S.clos I
  rw [exec_Assign_Name_used _ _ _ _ hsw]
  refine wpAny_bind (wpAny_standAt (wpAny_bind ?_))
  show wpAny _ X.A (do let _ ← comprehension (.ListComp elt [⟨target, iter, [], 0⟩] sc cpos) sc X.env _ (newList []) false (eval iter X.env) (some (assign (.Name x pos') X.env))) _ _ s
  refine wpAny_bind (wpAny_mono (wpAny_comprehension_free (use := some (assign (.Name x pos') X.env)) (Q := fun _ s' => SP X pins D .next s') rfl hs hclos S.kind S.names
    (thn (hi pins s σ H _ I h) fun v s1 hv => thn hv fun itv s2 hp => ?_)) (fun _ s' hq => wpAny_pure (wpAny_pure hq)) fun _ _ e => e)
  refine comp_block (Q := fun x H1 => gName i x σ H1 D.nx) (pins := pins) (σ := σ) (RR := fun acc C => compPost (model X.prog X.w) X.A X.xe (some (assign (.Name x pos') X.env)) (fun _ s' => SP X pins D .next s') acc C) hc S hk hg he h1 h2 hp fun Da C s' H' m hn q I' f => ?_
  show wpAny _ X.A (assign (.Name x pos') X.env (.ref Da)) _ _ _
  refine wpAny_assign_Name (store_ok2 I' hN hi' hx (v := .ref Da) rfl (fun s'' I'' ⟨a, sb, ha⟩ => ?_) hf)
  have hCa : C ≠ a := by
    rcases ha with z | z
    · rw [z]; exact f.2.1
    · exact fun e => f.2.2.2.2.1 x a z e.symm
  exact ⟨m, hn.sameBut sb hCa, fun h' sb' => ⟨_, H', I''.blockGone f sb', q⟩⟩
end
end L2
namespace L2
open PySem PySem.Spec PyProof.Rows
theorem comp_range {lo : Int} {n : Nat} {g : TG} {te : TE} {own : List Str} {fr : List (Str × Nat)} {σ : St} {Q : VK} {H1 : Hp} {D : Addr} (Pv : Nat → List V → Hp → Prop) (h0 : Pv 0 [] (upd H1 D (.lst [])))
    (hD : ∀ i ys H, i ≤ n → Pv i ys H → H D = some (.lst ys) ∧ ys.length < sizeLine)
    (hs : ∀ i ys H, i < n → Pv i ys H → g (.int (lo + i)) (stC own fr σ) H fun σ2 H2 => te σ2 H2 fun y H3 => H3 D = some (.lst ys) ∧ Pv (i + 1) (ys ++ [y]) (upd H3 D (.lst (ys ++ [y]))))
    (hd : ∀ ys H, Pv n ys H → Q (.ref D) H) :
    ∃ W : Nat → Nat → List V → Hp → Prop, (∃ m, W 0 m [] (upd H1 D (.lst []))) ∧ ∀ i m ys H, W i m ys H → H D = some (.lst ys) ∧
      (((Itr lo n).stop i H ∧ Q (.ref D) H) ∨ ((Itr lo n).go i H ∧ ys.length < sizeLine ∧ ∃ N : VK, (∀ y H3, N y H3 → H3 D = some (.lst ys) ∧ ∃ m', m' < m ∧ W (i + 1) m' (ys ++ [y]) (upd H3 D (.lst (ys ++ [y])))) ∧ ∀ x H', (Itr lo n).yld i H x H' → g x (stC own fr σ) H' fun σ2 H2 => te σ2 H2 N)) := by
  refine ⟨fun i m ys H => m = n - i ∧ i ≤ n ∧ Pv i ys H, ⟨n, by simp, Nat.zero_le _, h0⟩, ?_⟩
  rintro i m ys H ⟨rfl, hi, p⟩
  obtain ⟨hd1, hd2⟩ := hD i ys H hi p
  refine ⟨hd1, ?_⟩
  by_cases hlt : i < n
  · refine .inr ⟨hlt, hd2, fun y H3 => H3 D = some (.lst ys) ∧ Pv (i + 1) (ys ++ [y]) (upd H3 D (.lst (ys ++ [y]))), fun y H3 q3 => ⟨q3.1, n - (i + 1), by (first | lia | omega), rfl, hlt, q3.2⟩, fun x H' y => ?_⟩
    obtain ⟨e, y⟩ := y
    subst e y
    exact hs i ys _ hlt p
  · have e : i = n := by (first | lia | omega)
    subst e
    exact .inl ⟨Nat.le_refl _, hd ys H p⟩
theorem comp_list {K : PySem.W.Frag} {a : Addr} {xs : List V} {g : TG} {te : TE} {own : List Str} {fr : List (Str × Nat)} {σ : St} {Q : VK} {H1 : Hp} {D : Addr} (Pv : Nat → List V → Hp → Prop) (h0 : Pv 0 [] (upd H1 D (.lst [])))
    (hD : ∀ i ys H, i ≤ xs.length → Pv i ys H → H D = some (.lst ys) ∧ ys.length < sizeLine ∧ SqL K H a xs)
    (hs : ∀ i x ys H, xs[i]? = some x → Pv i ys H → g x (stC own fr σ) H fun σ2 H2 => te σ2 H2 fun y H3 => H3 D = some (.lst ys) ∧ Pv (i + 1) (ys ++ [y]) (upd H3 D (.lst (ys ++ [y]))))
    (hd : ∀ ys H, Pv xs.length ys H → Q (.ref D) H) :
    ∃ W : Nat → Nat → List V → Hp → Prop, (∃ m, W 0 m [] (upd H1 D (.lst []))) ∧ ∀ i m ys H, W i m ys H → H D = some (.lst ys) ∧
      (((Itl K a).stop i H ∧ Q (.ref D) H) ∨ ((Itl K a).go i H ∧ ys.length < sizeLine ∧ ∃ N : VK, (∀ y H3, N y H3 → H3 D = some (.lst ys) ∧ ∃ m', m' < m ∧ W (i + 1) m' (ys ++ [y]) (upd H3 D (.lst (ys ++ [y])))) ∧ ∀ x H', (Itl K a).yld i H x H' → g x (stC own fr σ) H' fun σ2 H2 => te σ2 H2 N)) := by
  refine ⟨fun i m ys H => m = xs.length - i ∧ i ≤ xs.length ∧ Pv i ys H, ⟨xs.length, by simp, Nat.zero_le _, h0⟩, ?_⟩
  rintro i m ys H ⟨rfl, hi, p⟩
  obtain ⟨hd1, hd2, hd3⟩ := hD i ys H hi p
  refine ⟨hd1, ?_⟩
  by_cases hlt : i < xs.length
  · refine .inr ⟨⟨xs, xs[i], hd3, by simp [hlt]⟩, hd2, fun y H3 => H3 D = some (.lst ys) ∧ Pv (i + 1) (ys ++ [y]) (upd H3 D (.lst (ys ++ [y]))), fun y H3 q3 => ⟨q3.1, xs.length - (i + 1), by (first | lia | omega), rfl, hlt, q3.2⟩, fun x H' y => ?_⟩
    obtain ⟨e, y⟩ := y
    subst e
    exact hs i x ys _ (y xs hd3) p
  · have e : i = xs.length := by (first | lia | omega)
    subst e
    exact .inl ⟨⟨xs, hd3, Nat.le_refl _⟩, hd ys H p⟩
def Itz (K : PySem.W.Frag) (l1 l2 : Addr) : It :=
  ⟨fun i H => ∃ xs ys x y, SqL K H l1 xs ∧ SqL K H l2 ys ∧ xs[i]? = some x ∧ ys[i]? = some y,
   fun i H v H' => ∃ T x y, v = .ref T ∧ H T = none ∧ H' = upd H T (.tup [x, y]) ∧ ∀ xs ys, SqL K H l1 xs → SqL K H l2 ys → xs[i]? = some x ∧ ys[i]? = some y,
   fun i H => ∃ xs ys, SqL K H l1 xs ∧ SqL K H l2 ys ∧ (xs.length ≤ i ∨ ys.length ≤ i)⟩
theorem turn_zip {P : Program} {w : World} {K : PySem.W.Frag} {elts : List Expr} {k : Nat} {pos : Pos} (z TI TO i1 i2 l1 l2 : Addr) (D : ZipApart z TI TO i1 i2 l1 l2) :
    Turn P w K (.Tuple elts k pos) (Itz K l1 l2) [z, TI, TO, i1, i2] z (fun i h => IsZip h z TI TO .none ∧ IsPair h TI (.ref i1) (.ref i2) ∧ (∃ a b, IsPair h TO a b) ∧ h.IsListIter i1 l1 i ∧ h.IsListIter i2 l2 i) where
  mem := by simp
  obj := fun i h st b hb => by
    obtain ⟨hz, hTI, ⟨a, c, hTO⟩, ⟨o1, e1, _, d1⟩, ⟨o2, e2, _, d2⟩⟩ := st
    simp only [List.mem_cons, List.not_mem_nil, or_false] at hb
    rcases hb with rfl | rfl | rfl | rfl | rfl
    · exact ⟨_, hz, fun v q => by have q' : Data.fields _ = Data.cell v := q; cases q'⟩
    · exact ⟨_, hTI, fun v q => by have q' : Data.seq _ _ = Data.cell v := q; cases q'⟩
    · exact ⟨_, hTO, fun v q => by have q' : Data.seq _ _ = Data.cell v := q; cases q'⟩
    · exact ⟨o1, e1, fun v q => by rw [d1] at q; cases q⟩
    · exact ⟨o2, e2, fun v q => by rw [d2] at q; cases q⟩
  keep := fun i h h' st kk => by
    obtain ⟨hz, hTI, ⟨a, c, hTO⟩, h1, h2⟩ := st
    exact ⟨kk z (by simp) _ hz, kk TI (by simp) _ hTI, ⟨a, c, kk TO (by simp) _ hTO⟩, h1.at fun o e => kk i1 (by simp) o e, h2.at fun o e => kk i2 (by simp) o e⟩
  item := by
    intro X hP hw hK hc i pins s σ H E I hf st hg
    subst hP hw hK
    obtain ⟨xs, ys, x, y, hq1, hq2, hx, hy⟩ := hg
    obtain ⟨hz, hTI, ⟨a, c, hTO⟩, h1, h2⟩ := st
    obtain ⟨its1, rv1, p1, _⟩ := I.list hq1
    obtain ⟨its2, rv2, p2, _⟩ := I.list hq2
    obtain ⟨u1, hu1, ru1⟩ := rv1.get hx
    obtain ⟨u2, hu2, ru2⟩ := rv2.get hy
    refine wpAny_pyNext_zip_item D hz hTI hTO h1 h2 p1.isList p2.isList (x := u1) (y := u2) (by simpa using hu1) (by simpa using hu2) fun h' a1 a2 a3 a4 a5 a6 hk => ?_
    have nfp : ∀ b ∈ [z, TI, TO, i1, i2], H b = none := fun b hb => (hf b hb).1
    have hT : H s.heap.objs.size = none := I.hok.fresh (Nat.le_refl _)
    have fne : ∀ b o, s.heap.get? b = some o → b ≠ s.heap.objs.size := fun b o e => Nat.ne_of_lt (Heap.lt_size e)
    have lz : z ≠ s.heap.objs.size := fne _ _ hz
    have lTI : TI ≠ s.heap.objs.size := fne _ _ hTI
    have lTO : TO ≠ s.heap.objs.size := fne _ _ hTO
    have li1 : i1 ≠ s.heap.objs.size := by obtain ⟨o, e, _⟩ := h1; exact fne _ _ e
    have li2 : i2 ≠ s.heap.objs.size := by obtain ⟨o, e, _⟩ := h2; exact fne _ _ e
    refine ⟨.ref s.heap.objs.size, rfl, wpAny_letOwnedTupleGo_zip a1 fun h'' hz'' hs'' => ?_⟩
    have up : ∀ b o, b ≠ z → h'.get? b = some o → h''.get? b = some o := fun b o hb e => hs''.extBut _ _ hb e
    have tnew : ObjOk X.prog X.w (upd H s.heap.objs.size (.tup [x, y])) h'' s.heap.objs.size (.tup [x, y]) :=
      ⟨by show 2 ≤ sizeLine; decide, [u1, u2], .cons ru1 (.cons ru2 .nil), ⟨_, up _ _ (Ne.symm lz) a5, rfl, _, rfl⟩⟩
    have neT : ∀ b u, H b = some u → b ≠ s.heap.objs.size := fun b u e => ne_of_none e hT
    have nit : ∀ b u, H b = some u → b ∉ [z, TI, TO, i1, i2] := fun b u e hb => by rw [nfp b hb] at e; cases e
    have keepAll : ∀ b o, b ∉ [z, TI, TO, i1, i2] → s.heap.get? b = some o → h''.get? b = some o := fun b o hb e => by
      simp only [List.mem_cons, List.not_mem_nil, or_false, not_or] at hb
      exact up b o hb.1 (hk b o hb.1 hb.2.2.1 hb.2.2.2.1 hb.2.2.2.2 e)
    have I2 : Inv X pins σ (upd H s.heap.objs.size (.tup [x, y])) { s with heap := h'' } := by
      refine I.step (g' := s.gens) (d' := s.drawn) (t' := s.toks) (ch := [z, TI, TO, i1, i2]) (fun b hb => ?_) (fun b o _ _ hc e _ => keepAll b o hc e) (fun b o _ _ hc e _ => ⟨o.slots, keepAll b o hc e⟩)
        (fun b o _ e n => by rw [upd_ne (fne b o e)]; exact n) (fun b o hc e => ⟨o, keepAll b o hc e⟩) (fun b zs e => by rw [upd_ne (neT b _ e)]; exact e) (fun b o u e => by rw [upd_ne (neT b _ e)]; exact e)
        (fun b ps e => ⟨#[], by rw [upd_ne (neT b _ e), e]; simp⟩) (fun m hm => ?_) (fun b u e => ?_) I.bare
      · obtain ⟨f0, f1, f2, f3, f4, f5⟩ := hf b hb
        exact ⟨f3, f1, f4, f5⟩
      · obtain ⟨o, es, ep, ho, r⟩ := hm
        exact ⟨o, es, ep, keepAll _ o (fun hb => (hf _ hb).2.1 rfl) ho, r⟩
      · by_cases hb : b = s.heap.objs.size
        · subst hb; rw [upd_same] at e; cases e; exact tnew
        · rw [upd_ne hb] at e
          refine (I.hok b u e).stay (fun c' v hc' q => keepAll c' v ?_ q) (fun c' q => by rw [upd_ne (neT c' _ q)]; exact q) fun c' zs q => by rw [upd_ne (neT c' _ q)]; exact q
          rcases hc' with z' | z'
          · rw [z']; exact nit b u e
          · exact nit c' _ z'
    refine ⟨.ref s.heap.objs.size, upd H s.heap.objs.size (.tup [x, y]), I2, rfl, ⟨s.heap.objs.size, x, y, rfl, hT, rfl, fun xs' ys' h1' h2' => ?_⟩, ?_, fun b hb => ?_⟩
    · rw [I.list_inj h1' hq1, I.list_inj h2' hq2]; exact ⟨hx, hy⟩
    · exact ⟨hz'', up _ _ D.TIz (hk _ _ D.TIz D.TITO D.TIi1 D.TIi2 hTI), ⟨_, _, up _ _ D.TOz a2⟩, a3.at fun o e => up _ o D.i1z e, a4.at fun o e => up _ o D.i2z e⟩
    · rw [upd_ne ?_]
      · exact nfp b hb
      · simp only [List.mem_cons, List.not_mem_nil, or_false] at hb
        rcases hb with rfl | rfl | rfl | rfl | rfl <;> assumption
  done := by
    intro X hP hw hK hc i pins s σ H E I hf st hg
    subst hP hw hK
    obtain ⟨xs, ys, hq1, hq2, hx⟩ := hg
    obtain ⟨hz, hTI, ⟨a, c, hTO⟩, h1, h2⟩ := st
    obtain ⟨its1, rv1, p1, _⟩ := I.list hq1
    obtain ⟨its2, rv2, p2, _⟩ := I.list hq2
    have nfp : ∀ b ∈ [z, TI, TO, i1, i2], H b = none := fun b hb => (hf b hb).1
    have l1 := rv1.length
    have l2 := rv2.length
    refine wpAny_pyNext_zip_end (I.ok.hd hc) D hz hTI hTO h1 h2 p1.isList p2.isList (hx.elim (fun q => .inl (by simp; (first | lia | omega))) fun q => .inr (by simp; (first | lia | omega))) fun h' hk => ⟨rfl, ?_⟩
    have keepAll : ∀ b o, b ∉ [z, TI, TO, i1, i2] → s.heap.get? b = some o → h'.get? b = some o := fun b o hb e => by
      simp only [List.mem_cons, List.not_mem_nil, or_false, not_or] at hb
      exact hk b o hb.1 hb.2.2.1 hb.2.2.2.1 hb.2.2.2.2 e
    have nit : ∀ b u, H b = some u → b ∉ [z, TI, TO, i1, i2] := fun b u e hb => by rw [nfp b hb] at e; cases e
    refine I.step (g' := s.gens) (d' := s.drawn) (t' := s.toks) (ch := [z, TI, TO, i1, i2]) (fun b hb => ?_) (fun b o _ _ hc e _ => keepAll b o hc e) (fun b o _ _ hc e _ => ⟨o.slots, keepAll b o hc e⟩)
      (fun b o _ e n => n) (fun b o hc e => ⟨o, keepAll b o hc e⟩) (fun b zs e => e) (fun b o u e => e) (fun b ps e => ⟨#[], by rw [e]; simp⟩) (fun m hm => ?_) (fun b u e => ?_) I.bare
    · obtain ⟨f0, f1, f2, f3, f4, f5⟩ := hf b hb
      exact ⟨f3, f1, f4, f5⟩
    · obtain ⟨o, es, ep, ho, r⟩ := hm
      exact ⟨o, es, ep, keepAll _ o (fun hb => (hf _ hb).2.1 rfl) ho, r⟩
    · refine (I.hok b u e).stay (fun c' v hc' q => keepAll c' v ?_ q) (fun c' q => q) fun c' zs q => q
      rcases hc' with z' | z'
      · rw [z']; exact nit b u e
      · exact nit c' _ z'
  self := fun _ _ _ _ _ st h => wpAny_pyIter_zip st.1 h
theorem zip_apart (n l1 l2 : Nat) (h1 : l1 < n) (h2 : l2 < n) : ZipApart (n + 4) (n + 2) (n + 3) n (n + 1) l1 l2 := by
  constructor <;> (intro h; have h' : (_ : Nat) = _ := h; (first | lia | omega))
theorem bt_zip : bootBuiltins "zip" = some (.type "zip") := by decide +kernel
def iZip (K : PySem.W.Frag) (ta : TA) : TI := fun σ H R => ta σ H fun vs H1 => ∃ a b, vs = [.ref a, .ref b] ∧ (∃ xs, SqL K H1 a xs) ∧ (∃ ys, SqL K H1 b ys) ∧ R (Itz K a b) H1
theorem pi_zip {X : Cx} {elts : List Expr} {k : Nat} {tp : Pos} {a b : Expr} {ta : TA} {p pos : Pos} (hg : Gl X "zip") (hm : X.mg "zip" = none) (ha : PA X [a, b] ta) (hs : starEach [a, b] X.env = [(false, eval a X.env), (false, eval b X.env)] := by rfl) (hs2 : starEach [b] X.env = [(false, eval b X.env)] := by rfl) :
    PI X (.Tuple elts k tp) (.Call (.Name "zip" p) [a, b] [] pos) (iZip X.K ta) := by
  intro pins s σ H R I h
  refine Call_ (ld_blt I hg hm bt_zip (PyProof.Rows.callWith_type1 (thn (ha pos pins s σ H _ I h) fun us s1 ⟨vs, H1, I1, r1, q1⟩ => ?_) (by rw [hs, hs2]) (by rw [hs2]; rfl)))
  obtain ⟨l1, l2, e, ⟨xs, hx⟩, ⟨ys, hy⟩, q⟩ := q1
  subst e
  obtain ⟨u1, u2, rfl, r1', r2'⟩ := Vals.two r1
  cases r1'
  cases r2'
  obtain ⟨its1, rv1, p1, _⟩ := I1.list hx
  obtain ⟨its2, rv2, p2, _⟩ := I1.list hy
  have lt1 : l1 < s1.heap.objs.size := by obtain ⟨o, _, e, _⟩ := p1; exact Heap.lt_size e
  have lt2 : l2 < s1.heap.objs.size := by obtain ⟨o, _, e, _⟩ := p2; exact Heap.lt_size e
  refine call_zip_2 p1.isList p2.isList fun h' a1 a2 a3 a4 a5 a6 hk => ?_
  have I2 : Inv X pins σ H1 { s1 with heap := h' } := I1.kept (t' := s1.toks) hk
  refine wpAny_pyIter_zip a1 ⟨s1.heap.objs.size + 4, [s1.heap.objs.size + 4, s1.heap.objs.size + 2, s1.heap.objs.size + 3, s1.heap.objs.size, s1.heap.objs.size + 1], _, Itz X.K l1 l2, H1, rfl, I2,
    turn_zip (s1.heap.objs.size + 4) (s1.heap.objs.size + 2) (s1.heap.objs.size + 3) s1.heap.objs.size (s1.heap.objs.size + 1) l1 l2 (zip_apart _ _ _ lt1 lt2), ⟨a1, a2, ⟨_, _, a3⟩, a4, a5⟩, fun b hb => ?_, q⟩
  have hb' : s1.heap.objs.size ≤ b := by
    simp only [List.mem_cons, List.not_mem_nil, or_false] at hb
    rcases hb with e | e | e | e | e
    · rw [e]; exact Nat.le_add_right _ _
    · rw [e]; exact Nat.le_add_right _ _
    · rw [e]; exact Nat.le_add_right _ _
    · rw [e]; exact Nat.le_refl _
    · rw [e]; exact Nat.le_add_right _ _
  exact I1.fpOk hb' (I1.hok.fresh hb')
theorem for_zip {K : PySem.W.Frag} {a b : Addr} {xs ys : List V} {g : TG} {tb : TS} {D : Ends} {σ : St} {H : Hp} (Pv : Nat → St → Hp → Prop) (h0 : Pv 0 σ H) (hl : ∀ i σ H, i ≤ min xs.length ys.length → Pv i σ H → SqL K H a xs ∧ SqL K H b ys)
    (hs : ∀ i x y σ H T, xs[i]? = some x → ys[i]? = some y → Pv i σ H → H T = none → g (.ref T) σ (upd H T (.tup [x, y])) fun σ2 H2 => tb { D with nx := Pv (i + 1), ct := Pv (i + 1), bk := D.nx } σ2 H2) (hd : ∀ σ H, Pv (min xs.length ys.length) σ H → D.nx σ H) :
    ∃ W : Nat → Nat → St → Hp → Prop, (∃ m, W 0 m σ H) ∧ ∀ i m σ H, W i m σ H →
      ((Itz K a b).stop i H ∧ D.nx σ H) ∨ ((Itz K a b).go i H ∧ ∃ N : St → Hp → Prop, (∀ σ' H', N σ' H' → ∃ m', m' < m ∧ W (i + 1) m' σ' H') ∧ ∀ x H', (Itz K a b).yld i H x H' → g x σ H' fun σ2 H2 => tb { D with nx := N, ct := N, bk := D.nx } σ2 H2) := by
  refine ⟨fun i m σ H => m = min xs.length ys.length - i ∧ i ≤ min xs.length ys.length ∧ Pv i σ H, ⟨min xs.length ys.length, by simp, Nat.zero_le _, h0⟩, ?_⟩
  rintro i m σ H ⟨rfl, hi, p⟩
  obtain ⟨q1, q2⟩ := hl i σ H hi p
  by_cases hlt : i < min xs.length ys.length
  · have h1 : i < xs.length := by (first | lia | omega)
    have h2 : i < ys.length := by (first | lia | omega)
    refine .inr ⟨⟨xs, ys, xs[i], ys[i], q1, q2, by simp [h1], by simp [h2]⟩, Pv (i + 1), fun σ' H' p' => ⟨min xs.length ys.length - (i + 1), by (first | lia | omega), rfl, hlt, p'⟩, fun x H' yy => ?_⟩
    obtain ⟨T, x1, y1, e, hT, e2, all⟩ := yy
    subst e e2
    obtain ⟨e3, e4⟩ := all xs ys q1 q2
    exact hs i x1 y1 σ H T e3 e4 p hT
  · have e : i = min xs.length ys.length := by (first | lia | omega)
    subst e
    exact .inl ⟨⟨xs, ys, q1, q2, by (first | lia | omega)⟩, hd σ H p⟩
def CMulB (i j : Int) : Prop := ∃ n : Nat, i.natAbs < 2 ^ n ∧ j.natAbs < 2 ^ n ∧ n ≤ 60000000
theorem CMulB.ok {i j : Int} (h : CMulB i j) : IntMulOk i j := by
  obtain ⟨n, h1, h2, h3⟩ := h
  exact IntMulOk.of_le (m := n) (n := n) (intBits_le_iff.mpr h1) (intBits_le_iff.mpr h2) (by (first | lia | omega))
section
variable {X : Cx}
theorem op_mulB : OpR X (binaryOp .Mult) (rI CMulB fun i j => .int (i * j)) := opI fun _ _ _ _ _ _ _ hc q => mul_int q hc.ok
theorem call_isi : CallR X (.builtin "isinstance") (fun xs H Q => ∃ x n t b, xs = [x, .ty n] ∧ TyOf X.K H x t ∧ PySem.W.kitOne X.K t (.type n) = some b ∧ Q (.bl b) H) := by
  intro pins s σ H xs us Q I r h
  obtain ⟨x, n, t, b, rfl, ty, e, q⟩ := h
  obtain ⟨u, c, rfl, ru, rc⟩ := Vals.two r
  cases rc
  exact isinst_ok I ru ty e fun tk => ⟨.bl b, H, I.tok _, rfl, q⟩
theorem all_eq_ints : ∀ (ns ms : List Int), ns.length = ms.length → ((List.range ns.length).all fun j => ns.getD j 0 == ms.getD j 0) = decide (ns = ms)
  | [], [], _ => by simp
  | [], _ :: _, h => by simp at h
  | _ :: _, [], h => by simp at h
  | a :: r, b :: t, h => by
    have ih := all_eq_ints r t (by simpa using h)
    rw [List.length_cons, List.range_succ_eq_map, List.all_cons, List.all_map]
    have e : (((fun j => (a :: r).getD j 0 == (b :: t).getD j 0) ∘ Nat.succ) : Nat → Bool) = fun j => r.getD j 0 == t.getD j 0 := by funext j; simp
    rw [e, ih]
    by_cases h1 : a = b <;> by_cases h2 : r = t <;> simp [h1, h2]
theorem intsAre_get : ∀ {us : List Value} {ns : List Int} (j : Nat), IntsAre us ns → (h : j < us.length) → ∃ t, us[j] = .int (ns.getD j 0) t
  | _, _, _, .nil, h => absurd h (by simp)
  | _, _, 0, .cons n t _, _ => ⟨t, by simp⟩
  | _, _, j + 1, .cons n t r, h => by
    obtain ⟨t', e⟩ := intsAre_get j r (by simpa using h)
    exact ⟨t', by simpa using e⟩
theorem op_eqT (hu : X.A.units < cLine) : OpR X (compareOp .Eq) (fun x y H Q => ∃ (a b : Addr) (ns ms : List Int), x = .ref a ∧ y = .ref b ∧ SqT X.K H a (ns.map V.int) ∧ SqT X.K H b (ms.map V.int) ∧ Q (.bl (decide (ns = ms))) H) := by
  intro pins s σ H x y v u Q I rx ry h
  obtain ⟨a, b, ns, ms, rfl, rfl, ha, hb, q⟩ := h
  cases rx
  cases ry
  obtain ⟨its, r1, p1, _⟩ := I.tuple ha
  obtain ⟨its2, r2, p2, _⟩ := I.tuple hb
  have i1 : IntsAre its ns := intsAre_of r1
  have i2 : IntsAre its2 ms := intsAre_of r2
  have l1 := i1.length
  have l2 := i2.length
  refine SeqAt.eq_tupleAt (e := fun j => ns.getD j 0 == ms.getD j 0) p1 p2 hu (fun j h1 h2 => ?_) ⟨.bl (decide (ns = ms)), H, I, ?_, q⟩
  · obtain ⟨t1, e1⟩ := intsAre_get j i1 (by simpa using h1)
    obtain ⟨t2, e2⟩ := intsAre_get j i2 (by simpa using h2)
    have e1' : its.toArray[j] = .int (ns.getD j 0) t1 := by simpa using e1
    have e2' : its2.toArray[j] = .int (ms.getD j 0) t2 := by simpa using e2
    rw [e1', e2']
    exact SeqAt.EqAt.int_int _ _ _ _
  · have k1 : its.toArray.size = ns.length := by simp; (first | lia | omega)
    have k2 : its2.toArray.size = ms.length := by simp; (first | lia | omega)
    show Value.bool _ = Value.bool _
    rw [k1, k2]
    congr 1
    by_cases hl : ns.length = ms.length
    · rw [← hl, Nat.min_self, all_eq_ints ns ms hl]; simp
    · have e1 : (ns.length == ms.length) = false := by simpa using hl
      have e2 : decide (ns = ms) = false := decide_eq_false fun z => hl (by rw [z])
      rw [e1, e2, Bool.and_false]
end
end L2
namespace L2
open PySem PySem.Spec PyProof.Rows
theorem compSc_mk {X : Cx} {sc : Scope} {own : List Str} {fr : List (Str × Nat)} (hk : sc.kind = .function)
    (h : (sc.names.all fun y => y.2 != .cell && (y.2 != .local || sc.names.lookup y.1 == some .local) && (y.2 != .free || (X.env.kindOf y.1 == some .cell || X.env.kindOf y.1 == some .free))) = true)
    (h2 : (fr.all fun p => X.N[p.2]? == some p.1 && sc.names.lookup p.1 == some .free) = true) : CompSc X sc own fr := by
  refine ⟨hk, fun y hy => ?_, fun y hy e => ?_, fun y hy e => ?_, fun p hp => ?_⟩
  · have q := List.all_eq_true.mp h y hy
    simp only [Bool.and_eq_true, bne_iff_ne, ne_eq] at q
    exact q.1.1
  · have q := List.all_eq_true.mp h y hy
    simp only [Bool.and_eq_true, Bool.or_eq_true, bne_iff_ne, ne_eq, beq_iff_eq] at q
    exact q.1.2.resolve_left fun z => z e
  · have q := List.all_eq_true.mp h y hy
    simp only [Bool.and_eq_true, Bool.or_eq_true, bne_iff_ne, ne_eq, beq_iff_eq] at q
    exact q.2.resolve_left fun z => z e
  · have q := List.all_eq_true.mp h2 p hp
    simp only [Bool.and_eq_true, beq_iff_eq] at q
    exact q
section
variable {X : Cx} {sc : Scope} {cl : List (Str × Addr)} {N : List Str} {C : Addr} {s : Shared} {H : Hp} {fp : List Addr} {pins : List (Addr × Obj)}
theorem ixC_list : IxR (cxC X sc cl N C s H fp pins) (rIxL X.K) := ix_list
theorem ixC_tup : IxR (cxC X sc cl N C s H fp pins) (rIxT X.K) := ix_tup
theorem callC_len_seq : CallR (cxC X sc cl N C s H fp pins) (.builtin "len") (rLen X.K) := call_len_seq
theorem callC_list_of : CallR (cxC X sc cl N C s H fp pins) (.type "list") (rLOf X.K) := call_list_of
end
def Itq (lo c : Int) (n : Nat) : It := ⟨fun i _ => i < n, fun i H x H' => H' = H ∧ x = .int (lo + i * c), fun i _ => n ≤ i⟩
theorem turn_rangeS {P : Program} {w : World} {K : PySem.W.Frag} {tg : Expr} (it : Addr) (lo c : Int) (n : Nat) : Turn P w K tg (Itq lo c n) [it] it (fun i h => IsRangeIter h it (lo + (i : Nat) * c) ((n : Int) - (i : Nat)) c) where
  mem := by simp
  obj := fun i h st b hb => by
    have e : b = it := by simpa using hb
    subst e
    exact ⟨_, st, fun v z => by
      have z' : Data.fields _ = Data.cell v := z
      cases z'⟩
  keep := fun i h h' st k => k it (by simp) _ st
  item := by
    intro X hP hw hK hc i pins s σ H E I hf st hg
    subst hP hw hK
    obtain ⟨f0, f1, f2, f3, f4, f5⟩ := hf it (by simp)
    have W := Walks.range (prog := X.prog) (w := X.w) (I.ok.hd hc) it lo c n
    refine W.item i s _ _ hg st fun v h' tk hv st' kk => ?_
    obtain ⟨t, rfl⟩ := hv
    have I1 : Inv X pins σ H { s with heap := h', toks := tk } := I.turned (fun b o hb e => kk b o (by simpa using hb) e) f0 f1 f3 f4 f5
    exact ⟨_, rfl, go_of (s := { s with heap := h', toks := tk }) (n := "range_iterator") st' rfl rfl (by decide) ⟨.int (lo + i * c), H, I1, ⟨t, rfl⟩, ⟨rfl, rfl⟩, st', fun b hb => (hf b hb).1⟩⟩
  done := by
    intro X hP hw hK hc i pins s σ H E I hf st hg
    subst hP hw hK
    obtain ⟨f0, f1, f2, f3, f4, f5⟩ := hf it (by simp)
    exact wpAny_pyNext_range_end (I.ok.hd hc) st (by have : n ≤ i := hg; (first | lia | omega)) fun h' eb => ⟨rfl, I.turned (t' := s.toks) (fun b o hb e => eb b o hb e) f0 f1 f3 f4 f5⟩
  self := fun _ _ _ _ _ st h => wpAny_pyIter_rangeiter st h
def szR (a b c : Int) : Nat := if a < b then ((b - a - 1) / c + 1).toNat else 0
theorem szR_eq {a b c : Int} (hc : 0 < c) : Builtin.Range.rangeSize a b c = (szR a b c : Int) := by
  unfold Builtin.Range.rangeSize szR
  rw [if_pos hc]
  split
  · rename_i h
    have : 0 ≤ (b - a - 1) / c := Int.ediv_nonneg (by (first | lia | omega)) (by (first | lia | omega))
    (first | lia | omega)
  · rfl
theorem small_step {a b c : Int} (ha : -1000000 ≤ a) (ha' : a ≤ 1000000) (hb : -1000000 ≤ b) (hb' : b ≤ 1000000) (hc : 0 < c) (hc' : c ≤ 1000000) : Builtin.Range.small a b c = true := by
  have hq : 0 ≤ (b - a - 1) / c ∨ b ≤ a := by
    by_cases h : a < b
    · exact .inl (Int.ediv_nonneg (by (first | lia | omega)) (by (first | lia | omega)))
    · exact .inr (by (first | lia | omega))
  have hq2 : a < b → (b - a - 1) / c ≤ b - a - 1 := fun h => Int.ediv_le_self _ (by (first | lia | omega))
  have hm : a < b → (b - a - 1) / c * c ≤ b - a - 1 := fun h => Int.ediv_mul_le _ (by (first | lia | omega))
  unfold Builtin.Range.small
  have e : Builtin.Range.rangeSize a b c = if a < b then (b - a - 1) / c + 1 else 0 := by
    unfold Builtin.Range.rangeSize
    rw [if_pos hc]
  rw [e]
  generalize (b - a - 1) / c = q at *
  simp only [Builtin.Range.rangeFitsLong, Bool.and_eq_true, Bool.or_eq_true, decide_eq_true_eq, beq_iff_eq, show c > 0 from hc, if_true]
  split <;> (first | lia | omega)
section
variable {X : Cx} {tg : Expr}
def iRng3 (ta : TA) : TI := fun σ H R => ta σ H fun vs H1 => ∃ i j c : Int, vs = [.int i, .int j, .int c] ∧ (-1000000 ≤ i ∧ i ≤ 1000000 ∧ -1000000 ≤ j ∧ j ≤ 1000000 ∧ 0 < c ∧ c ≤ 1000000) ∧ R (Itq i c (szR i j c)) H1
theorem pi_range3 {a b c : Expr} {ta : TA} {p pos : Pos} (hg : Gl X "range") (hm : X.mg "range" = none) (ha : PA X [a, b, c] ta) (hs : starEach [a, b, c] X.env = (false, eval a X.env) :: starEach [b, c] X.env := by rfl) (hs2 : (backTo pos (starEach [b, c] X.env)).any (·.1) = false := by rfl) :
    PI X tg (.Call (.Name "range" p) [a, b, c] [] pos) (iRng3 ta) := by
  intro pins s σ H R I h
  refine Call_ (ld_blt I hg hm boot_range (PyProof.Rows.callWith_type1 (thn (ha pos pins s σ H _ I h) fun us s1 ⟨vs, H1, I1, r1, q1⟩ => ?_) hs hs2))
  obtain ⟨i, j, k, e, ⟨q1, q2, q3, q4, q5, q6⟩, q⟩ := q1
  subst e
  cases r1 with
  | cons r rr =>
    cases rr with
    | cons r' rr =>
      cases rr with
      | cons r'' rr =>
        cases rr
        obtain ⟨t, rfl⟩ := r
        obtain ⟨t', rfl⟩ := r'
        obtain ⟨t'', rfl⟩ := r''
        refine call_range_3 (by (first | lia | omega)) ?_ (.inl (PyProof.noPylong_small (by (first | lia | omega))))
        refine wpAny_pyIter_range (IsRange.new ..) (small_step q1 q2 q3 q4 q5 q6) ?_
        have I2 : Inv X pins σ H1 { s1 with heap := s1.heap.push { cls := .type "range", data := .fields #[.int i t, .int j t', .int k t''] } } := I1.kept (t' := s1.toks) fun b o e => Heap.get?_push_of_some _ e
        refine ⟨(s1.heap.push { cls := .type "range", data := .fields #[.int i t, .int j t', .int k t''] }).objs.size, [(s1.heap.push { cls := .type "range", data := .fields #[.int i t, .int j t', .int k t''] }).objs.size], _, _, H1, rfl,
          I2.kept (t' := s1.toks) fun b o e => Heap.get?_push_of_some _ e, turn_rangeS _ i k (szR i j k), ?_, fun b hb => ?_, q⟩
        · have e1 : i + ((0 : Nat) : Int) * k = i := by simp
          have e2 : ((szR i j k : Nat) : Int) - ((0 : Nat) : Int) = Builtin.Range.rangeSize i j k := by rw [szR_eq q5]; simp
          show IsRangeIter _ _ (i + ((0 : Nat) : Int) * k) (((szR i j k : Nat) : Int) - ((0 : Nat) : Int)) k
          rw [e1, e2]
          exact Heap.get?_push_size _ rfl
        · have e : b = (s1.heap.push { cls := .type "range", data := .fields #[.int i t, .int j t', .int k t''] }).objs.size := by simpa using hb
          subst e
          exact I2.fpOk (Nat.le_refl _) (I2.hok.fresh (Nat.le_refl _))
end
theorem for_rangeS {lo c : Int} {n : Nat} {g : TG} {tb : TS} {D : Ends} {σ : St} {H : Hp} (Pv : Nat → St → Hp → Prop) (h0 : Pv 0 σ H)
    (hs : ∀ i σ H, i < n → Pv i σ H → g (.int (lo + i * c)) σ H fun σ2 H2 => tb { D with nx := Pv (i + 1), ct := Pv (i + 1), bk := D.nx } σ2 H2) (hd : ∀ σ H, Pv n σ H → D.nx σ H) :
    ∃ W : Nat → Nat → St → Hp → Prop, (∃ m, W 0 m σ H) ∧ ∀ i m σ H, W i m σ H →
      ((Itq lo c n).stop i H ∧ D.nx σ H) ∨ ((Itq lo c n).go i H ∧ ∃ N : St → Hp → Prop, (∀ σ' H', N σ' H' → ∃ m', m' < m ∧ W (i + 1) m' σ' H') ∧ ∀ x H', (Itq lo c n).yld i H x H' → g x σ H' fun σ2 H2 => tb { D with nx := N, ct := N, bk := D.nx } σ2 H2) := by
  refine ⟨fun i m σ H => m = n - i ∧ i ≤ n ∧ Pv i σ H, ⟨n, by simp, Nat.zero_le _, h0⟩, ?_⟩
  rintro i m σ H ⟨rfl, hi, p⟩
  by_cases hlt : i < n
  · refine .inr ⟨hlt, Pv (i + 1), fun σ' H' p' => ⟨n - (i + 1), by (first | lia | omega), rfl, hlt, p'⟩, fun x H' y => ?_⟩
    obtain ⟨e, y⟩ := y
    subst e y
    exact hs i σ _ hlt p
  · have e : i = n := by (first | lia | omega)
    subst e
    exact .inl ⟨Nat.le_refl _, hd σ H p⟩
section
variable {X : Cx}
theorem call_isiT : CallR X (.builtin "isinstance") (fun xs H Q => ∃ (x : V) (tp : Addr) (ns : List String) (t : Value) (b : Bool), xs = [x, .ref tp] ∧ SqT X.K H tp (ns.map V.ty) ∧ TyOf X.K H x t ∧ PySem.W.kitAny X.K t (ns.map Value.type) = some b ∧ Q (.bl b) H) := by
  intro pins s σ H xs us Q I r h
  obtain ⟨x, tp, ns, t, b, rfl, hT, ty, e, q⟩ := h
  obtain ⟨u, c, rfl, ru, rc⟩ := Vals.two r
  cases rc
  obtain ⟨its, rv, p, _⟩ := I.tuple hT
  have ei : its = ns.map Value.type := by
    clear e hT p
    induction ns generalizing its with
    | nil => cases rv; rfl
    | cons n ns ih =>
      cases rv with
      | cons r1 r2 =>
        have e1 := ih _ r2 (by simp at *; (first | lia | omega))
        have e2 : _ = Value.type n := r1
        rw [e1, e2]; rfl
  subst ei
  obtain ⟨⟨oc, od, odt, osl⟩, ho, hc, n, hd⟩ := p
  simp only at hc hd
  subst hc hd
  have fin : ∀ tk, EP X pins σ Q (.bool b) { s with toks := tk } := fun tk => ⟨.bl b, H, I.tok _, rfl, q⟩
  cases ty with
  | non => cases (show u = Value.none from ru); exact PySem.W.kia_tup PySem.W.kitx_none I.kIn True.intro ho e (fun z => nomatch z) fin
  | bl y => cases (show u = Value.bool y from ru); exact PySem.W.kia_tup PySem.W.kitx_bool I.kIn True.intro ho e (fun z => nomatch z) fin
  | int i => obtain ⟨t, q⟩ := (show ∃ t, u = Value.int i t from ru); cases q; exact PySem.W.kia_tup PySem.W.kitx_int I.kIn True.intro ho e (fun z => nomatch z) fin
  | str y => obtain ⟨t, q⟩ := (show ∃ t, u = Value.str y t from ru); cases q; exact PySem.W.kia_tup PySem.W.kitx_str I.kIn True.intro ho e (fun z => nomatch z) fin
  | flt y => obtain ⟨t, q⟩ := (show ∃ t, u = Value.float y t from ru); cases q; exact PySem.W.kia_tup PySem.W.kitx_float I.kIn True.intro ho e (fun z => nomatch z) fin
  | @lst a xs ea =>
    cases (show u = Value.ref a from ru)
    obtain ⟨_, _, n, _, h1⟩ := (show ObjOk X.prog X.w H s.heap a (.lst xs) from I.hok a _ ea)
    exact PySem.W.kia_tup PySem.W.kitx_list I.kIn ⟨_, h1, rfl⟩ ho e (fun z => nomatch z) fin
  | @frz a ob xs ea =>
    cases (show u = Value.ref a from ru)
    obtain ⟨_, _, _, n, _, h1⟩ := (show ObjOk X.prog X.w H s.heap a (.frz ob (.lst xs)) from I.hok a _ ea)
    exact PySem.W.kia_tup PySem.W.kitx_list I.kIn ⟨_, h1, rfl⟩ ho e (fun z => nomatch z) fin
  | @tup a xs ea =>
    cases (show u = Value.ref a from ru)
    obtain ⟨_, _, _, p⟩ := (show ObjOk X.prog X.w H s.heap a (.tup xs) from I.hok a _ ea)
    obtain ⟨o, h1, h2, _⟩ := p
    exact PySem.W.kia_tup PySem.W.kitx_tuple I.kIn ⟨o, h1, h2⟩ ho e (fun z => nomatch z) fin
  | @dK a kvs ea =>
    cases (show u = Value.ref a from ru)
    obtain ⟨_, _, vs, _, p⟩ := (show ObjOk X.prog X.w H s.heap a (.dK kvs) from I.hok a _ ea)
    obtain ⟨o, es, ep, h1, h2, _⟩ := p
    exact PySem.W.kia_tup PySem.W.kitx_dict I.kIn ⟨o, h1, h2.1⟩ ho e (fun z => nomatch z) fin
  | @dT a kvs ea =>
    cases (show u = Value.ref a from ru)
    obtain ⟨_, _, xs, _, o, es, ep, h1, h2, _⟩ := (show ObjOk X.prog X.w H s.heap a (.dT kvs) from I.hok a _ ea)
    exact PySem.W.kia_tup PySem.W.kitx_dict I.kIn ⟨o, h1, h2.1⟩ ho e (fun z => nomatch z) fin
  | @ins a C dx fs ea cl ha hn htk hm =>
    cases (show u = Value.ref a from ru)
    obtain ⟨mA, O, _⟩ := ins_get I.hok ea
    obtain ⟨od, J, _⟩ := O.look
    exact PySem.W.kia_tup (PySem.W.kitx_own (cl.get _) cl.hd ha hn htk hm) I.kIn J ho e (fun z => nomatch z) fin
end
end L2
namespace L2
open PySem PySem.Spec PyProof.Rows
abbrev veMro : List Value := [.type "ValueError", .type "Exception", .type "BaseException", .type "object"]
structure ExcC (K : PySem.W.Frag) (mg : Str → Option Value) (x : Str) (C : Addr) : Prop where
  mg : mg x = some (.ref C)
  ex : PySem.W.excIn K C veMro "ValueError.__new__" = true
  ts : PySem.W.ktsIn K C "BaseException" = true
structure Fly (P : Program) (w : World) (outer : List Env) (H : Hp) (s : Shared) (s' : Shared) (ea C t : Addr) (H' : Hp) (B : Heap) : Prop where
  os : s'.os = s.os
  bare : AllBare s'.gens
  un : Un (frs outer) [] H H' s.heap s'.heap
  hok : HOk P w H' s'.heap
  fl : Heap.FlyingW B outer ea (.ref C) (.ref t) s'.heap
  trk : ∀ b o, H' b = some o → ∃ ob, B.get? b = some ob
  old : ∀ b o, s.heap.get? b = some o → H b = none → b ∉ frs outer → B.get? b = some o
  ther : ∀ b o, s.heap.get? b = some o → b ∈ frs outer ∨ ∃ o', B.get? b = some o'
def CXF (P : Program) (w : World) : CXT := fun outer H s E e s' => ∃ (ea C t : Addr) (H' : Hp) (B : Heap), e = .ref ea ∧ Fly P w outer H s s' ea C t H' B ∧ E (.ref C) none H'
theorem ObjOk.has {P : Program} {w : World} {H : Hp} {h : Heap} {a : Addr} {o : HO} (x : ObjOk P w H h a o) : ∃ u, h.get? a = some u := by
  cases o with
  | lst xs => obtain ⟨_, _, _, _, e⟩ := x; exact ⟨_, e⟩
  | tup xs => obtain ⟨_, _, _, u, e, _⟩ := x; exact ⟨u, e⟩
  | dK kvs => obtain ⟨_, _, _, _, u, _, _, e, _⟩ := x; exact ⟨u, e⟩
  | dT kvs => obtain ⟨_, _, _, _, u, _, _, e, _⟩ := x; exact ⟨u, e⟩
  | set S n => obtain ⟨u, _, _, _, e, _⟩ := x; exact ⟨u, e⟩
  | ins C dx fs => obtain ⟨_, _, _, e, _⟩ := x; exact ⟨_, e⟩
  | own y => exact x
  | xd fs => obtain ⟨_, ⟨u, _, _, e, _⟩, _⟩ := x; exact ⟨u, e⟩
  | rng lo hi => obtain ⟨_, _, _, e⟩ := x; exact ⟨_, e⟩
  | frz ob u => obtain ⟨e, _⟩ := x; exact ⟨_, e⟩
  | tbl ps => exact ⟨_, (show h.get? a = some _ from x)⟩
  | met f y => exact ⟨_, (show h.get? a = some _ from x)⟩
  | ext φ => obtain ⟨_, e, _⟩ := x; exact e
theorem frs_in (l : List Env) : ∀ env ∈ l, ∀ a, env.frame = some a → a ∈ frs l := fun env he a ha => List.mem_filterMap.mpr ⟨env, he, ha⟩
section
variable {X : Cx} {pins : List (Addr × Obj)} {σ : St} {H2 : Hp} {s2 : Shared}
theorem Inv.hidB (I : Inv X pins σ H2 s2) {b : Addr} {o : Obj} (e : s2.heap.get? b = some o) (n : b ∉ frs X.stack) : (PySem.W.hideAll s2.heap (frs X.stack)).get? b = some o := PySem.W.hideAll_get _ e n
theorem Inv.trkB (I : Inv X pins σ H2 s2) {b : Addr} {o : HO} (e : H2 b = some o) : b ∉ frs X.stack := fun hb => by rw [I.stkFree b hb] at e; cases e
theorem Inv.raised {h' h'' : Heap} {e C t : Addr} {vs : List Value} {cx : List Env} (I : Inv X pins σ H2 s2) (hst : X.stack = X.env :: cx) (hcx : X.outer = cx) (hex : X.ex = []) (hx : Heap.MadeExcOf s2.heap h' e (.ref C) vs)
    (x1 : Heap.FlyingW (PySem.W.hideAll s2.heap (frs X.stack)) cx e (.ref C) (.ref t) h'') (x4 : Heap.UpToSlots h' h'') :
    Fly X.prog X.w cx X.H₀ X.s₀ { s2 with heap := h'' } e C t H2 (PySem.W.hideAll s2.heap (frs X.stack)) := by
  have hB : ∀ b o, s2.heap.get? b = some o → b ∉ frs X.stack → h''.get? b = some o := fun b o q n => x1.1 b o (I.hidB q n)
  have outN : ∀ b o, X.s₀.heap.get? b = some o → b ∉ frs cx → b ∉ frs X.stack := fun b o q n hb => by
    rcases List.mem_cons.mp (I.stkSub b hb) with z | z
    · exact absurd (Heap.lt_size q) (by rw [z]; exact Nat.not_lt.mpr I.ok.above)
    · exact n (by rw [← hcx]; exact z)
  have noE : ∀ b, b ∉ X.ex := fun b z => by rw [hex] at z; exact absurd z (by simp)
  have hfs : X.fs = frs cx := by show frs X.outer = _; rw [hcx]
  have keepN : ∀ b o, X.s₀.heap.get? b = some o → X.H₀ b = none → b ∉ frs cx → s2.heap.get? b = some o := fun b o q n nf => I.base.keep b o q n (by rw [hfs]; exact nf) (noE b)
  refine ⟨I.os, I.bare, ⟨fun b o q n nf _ => hB b o (keepN b o q n nf) (outN b o q nf), fun b o q n hb _ => ?_, fun b o q n _ => I.base.free b o q n (noE b), fun b o q _ => ?_, I.base.tups, I.base.frzs, I.base.tbls⟩, fun b o q => ?_, x1, fun b o q => ?_, fun b o q n nf => I.hidB (keepN b o q n nf) (outN b o q nf), fun b o q => ?_⟩
  · obtain ⟨sl, q2⟩ := I.base.slot b o q n (by rw [hfs]; exact hb) (noE b)
    obtain ⟨_, o', ho', hnf⟩ := I.ok.funs.mem (show b ∈ frs X.outer by rw [hcx]; exact hb)
    rw [q] at ho'; cases ho'
    obtain ⟨sl', q3⟩ := x4 b _ (hx.keeps _ _ q2) hnf
    exact ⟨sl', q3⟩
  · obtain ⟨o', q2⟩ := I.base.there b o q (noE b)
    by_cases hb : b ∈ frs X.stack
    · obtain ⟨_, o2, ho2, hnf⟩ := I.stack.mem hb
      obtain ⟨sl, q3⟩ := x4 b _ (hx.keeps _ _ ho2) hnf
      exact ⟨_, q3⟩
    · exact ⟨o', hB b o' q2 hb⟩
  · refine (I.hok b o q).stay (fun c v hc q2 => hB c v q2 ?_) (fun _ q2 => q2) fun _ _ q2 => q2
    rcases hc with z | z
    · rw [z]; exact I.trkB q
    · exact I.trkB z
  · obtain ⟨u, q2⟩ := (I.hok b o q).has
    exact ⟨u, I.hidB q2 (I.trkB q)⟩
  · obtain ⟨o', q2⟩ := I.base.there b o q (noE b)
    by_cases hb : b ∈ frs cx
    · exact .inl hb
    · exact .inr ⟨o', I.hidB q2 (outN b o q hb)⟩
end
def Raises (X : Cx) (E : XK) : Prop := ∀ (pins : List (Addr × Obj)) (σ : St) (H2 : Hp) (s2 : Shared) (h' : Heap) (e C : Addr) (vs : List Value), Inv X pins σ H2 s2 → Heap.MadeExcOf s2.heap h' e (.ref C) vs → E (.ref C) none H2 → X.xe (.ref e) { s2 with heap := h' }
theorem raises_cxOf {P : Program} {w : World} {K : PySem.W.Frag} {mg : Str → Option Value} {base : Heap} {N : List Str} {qual : Str} {scope : Scope} {f : Addr} {cd : Value} {A : Around} {outer : List Env} {s : Shared} {H : Hp} {E : XK} :
    Raises (cxOf (CXF P w) P w K mg base N qual scope f cd A outer s H E) E := by
  intro pins σ H2 s2 h' e C vs I hx hE
  have hst : (cxOf (CXF P w) P w K mg base N qual scope f cd A outer s H E).stack = (cxOf (CXF P w) P w K mg base N qual scope f cd A outer s H E).env :: outer := rfl
  show wpAny _ _ (leaving _ (.ref e)) _ _ { s2 with heap := h' }
  refine wpAny_leaves_madeW (base := PySem.W.hideAll s2.heap (frs (cxOf (CXF P w) P w K mg base N qual scope f cd A outer s H E).stack)) (h := s2.heap) (s := { s2 with heap := h' }) (outer := outer) I.ok.frames rfl (fun b o q => PySem.W.of_hideAll _ q)
    (PySem.W.funFrames_hide I.stack (frs_in _)) hx fun h'' t x1 x2 x3 x4 => ?_
  exact ⟨e, C, t, H2, _, rfl, I.raised hst rfl rfl hx x1 x4, hE⟩
theorem passes_cxOf {P : Program} {w : World} {K : PySem.W.Frag} {mg : Str → Option Value} {base : Heap} {N : List Str} {qual : Str} {scope : Scope} {f : Addr} {cd : Value} {A : Around} {outer : List Env} {s : Shared} {H : Hp} {E : XK} :
    Passes (CXF P w) (cxOf (CXF P w) P w K mg base N qual scope f cd A outer s H E) E := by
  intro pins σ H2 s2 e s3 I h
  obtain ⟨ea, C, t, H', B, rfl, fy, hE⟩ := h
  have hst : (cxOf (CXF P w) P w K mg base N qual scope f cd A outer s H E).stack = (cxOf (CXF P w) P w K mg base N qual scope f cd A outer s H E).env :: outer := rfl
  show wpAny _ _ (leaving _ (.ref ea)) _ _ s3
  refine wpAny_leaves_onW (outer := outer) I.ok.frames rfl fy.fl fun h'' x1 x4 => ?_
  refine ⟨ea, C, t, H', B, rfl, ?_, hE⟩
  have hBs : ∀ b o, B.get? b = some o → h''.get? b = some o := fun b o q => x1.1 b o q
  have hBs3 : ∀ b o, B.get? b = some o → s3.heap.get? b = some o := fun b o q => fy.fl.1 b o q
  have noE : ∀ b : Addr, b ∉ (cxOf (CXF P w) P w K mg base N qual scope f cd A outer s H E).ex := fun b z => absurd (show b ∈ ([] : List Addr) from z) (by simp)
  have outN : ∀ b o, s.heap.get? b = some o → b ∉ frs outer → b ∉ frs (cxOf (CXF P w) P w K mg base N qual scope f cd A outer s H E).stack := fun b o q n hb => by
    rcases List.mem_cons.mp (I.stkSub b hb) with z | z
    · exact absurd (Heap.lt_size q) (by rw [z]; exact Nat.not_lt.mpr I.ok.above)
    · exact n z
  have keepN : ∀ b o, s.heap.get? b = some o → H b = none → b ∉ frs outer → B.get? b = some o := fun b o q n nf =>
    fy.old b o (I.base.keep b o q n nf (noE b)) (I.base.free b o q n (noE b)) (outN b o q nf)
  have ther2 : ∀ b o, s.heap.get? b = some o → b ∈ frs outer ∨ ∃ o', B.get? b = some o' := fun b o q => by
    obtain ⟨o', q2⟩ := I.base.there b o q (noE b)
    by_cases hb : b ∈ frs outer
    · exact .inl hb
    · rcases fy.ther b o' q2 with z | z
      · exact absurd z (outN b o q hb)
      · exact .inr z
  refine ⟨fy.os.trans I.os, fy.bare, ⟨fun b o q n nf _ => hBs b o (keepN b o q n nf), fun b o q n hb _ => ?_, fun b o q n _ => ?_, fun b o q _ => ?_, fun b xs q => fy.un.tups b xs (I.base.tups b xs q), fun b o u q => fy.un.frzs b o u (I.base.frzs b o u q), fun b ps q => ?_⟩, fun b o q => ?_, x1, fy.trk, keepN, ther2⟩
  · obtain ⟨sl, q2⟩ := I.base.slot b o q n hb (noE b)
    have hb' : b ∈ frs (cxOf (CXF P w) P w K mg base N qual scope f cd A outer s H E).stack := List.mem_cons_of_mem _ hb
    obtain ⟨sl2, q3⟩ := fy.un.slot b _ q2 (I.base.free b o q n (noE b)) hb' (by simp)
    obtain ⟨_, o', ho', hnf⟩ := I.ok.funs.mem hb
    have ho'' : s.heap.get? b = some o' := ho'
    rw [q] at ho''; cases ho''
    obtain ⟨sl', q4⟩ := x4 b _ q3 hnf
    exact ⟨sl', q4⟩
  · obtain ⟨o', q2⟩ := I.base.there b o q (noE b)
    exact fy.un.free b o' q2 (I.base.free b o q n (noE b)) (by simp)
  · rcases ther2 b o q with z | ⟨o', q2⟩
    · obtain ⟨_, o2, ho2, hnf⟩ := fy.fl.2.2.1.mem (show b ∈ frs (cxOf (CXF P w) P w K mg base N qual scope f cd A outer s H E).stack from List.mem_cons_of_mem _ z)
      obtain ⟨sl, q3⟩ := x4 b _ ho2 hnf
      exact ⟨_, q3⟩
    · exact ⟨o', hBs b o' q2⟩
  · obtain ⟨m1, e1⟩ := I.base.tbls b ps q
    obtain ⟨m2, e2⟩ := fy.un.tbls b _ e1
    exact ⟨m1 ++ m2, by rw [e2, Array.append_assoc]⟩
  · refine (fy.hok b o q).stay (fun c v hc q2 => ?_) (fun _ q2 => q2) fun _ _ q2 => q2
    have : ∃ ob, B.get? c = some ob := by
      rcases hc with z | z
      · rw [z]; exact fy.trk b o q
      · exact fy.trk c _ z
    obtain ⟨ob, q3⟩ := this
    have q4 := hBs3 c ob q3
    rw [q2] at q4; cases q4
    exact hBs c v q3
theorem exc_obj {K : PySem.W.Frag} {h : Heap} {C : Addr} (X : K.In h) (q : PySem.W.excIn K C veMro "ValueError.__new__" = true) : ∃ bm N nm qn bs hdct sn sub ab col dd k0 k1 k2 k3 k5 mN,
    h.get? C = some (excClassObj nm qn C N bs bm hdct sn sub ab col dd k0 k1 k2 k3 k5 "ValueError.__new__") ∧ h.Ns N mN ∧ mN "__init__" = none ∧ OwnTail h veMro bm := by
  unfold PySem.W.excIn at q
  split at q
  case h_2 => exact absurd q Bool.false_ne_true
  case h_1 dd cd sl ho =>
    split at q
    case h_2 => exact absurd q Bool.false_ne_true
    case h_1 C' bm k0 k1 k2 k3 n k5 hm hs =>
      have q1 := Bool.and_eq_true_iff.mp q
      have q2 := Bool.and_eq_true_iff.mp q1.1
      have q3 := Bool.and_eq_true_iff.mp q2.1
      have q4 := Bool.and_eq_true_iff.mp q3.1
      have q5 := Bool.and_eq_true_iff.mp q4.1
      have e1 : C' = C := beq_iff_eq.mp q5.1
      have e2 : n = "ValueError.__new__" := beq_iff_eq.mp q5.2
      have e3 : cd.hasDel = false := by simpa using q4.2
      have e4 := q3.2
      have e5 := q2.2
      have e6 : PySem.W.nsIn K cd.ns "__init__" = some none := beq_iff_eq.mp q1.2
      cases cd with
      | mk nm bs mro ns qn hd sn sub ab col del =>
        simp only at hm e3 e4 e5 e6
        subst e1 e2 e3
        have es : sl = #[k0, k1, k2, k3, some (.builtin "ValueError.__new__"), k5] := by
          rw [← hs]
        rw [hm, es] at ho
        exact ⟨bm, ns, nm, qn, bs, hd, sn, sub, ab, col, dd, k0, k1, k2, k3, k5, _, X _ _ ho, .of_isNs (PySem.W.isNs_of_in X e5), PySem.W.nsMap_none_of_in X e5 e6, PySem.W.tail_of_in X e4⟩
def tRaise (C : Addr) (E : XK) (t : TA) : TS := fun _ σ H => t σ H fun vs H1 => vs.length ≤ sizeLine ∧ E (.ref C) none H1
theorem ps_raise {X : Cx} {E : XK} {x : Str} {C : Addr} {e : Expr} {es : List Expr} {t : TA} {np cpos pos : Pos} (hx : Raises X E) (EC : ExcC X.K X.mg x C) (hc : X.calm = true) (hg : Gl X x) (ha : PA X (e :: es) t)
    (he : starEach (e :: es) X.env = (false, eval e X.env) :: starEach es X.env := by rfl) (hpl : (backTo cpos (starEach es X.env)).any (·.1) = false := by rfl) (hdb : (x == ("__debug__" : Str)) = false := by decide) :
    PS X (.Raise (some (.Call (.Name x np) (e :: es) [] cpos)) none pos) (tRaise C E t) := by
  intro pins s σ H D I h
  obtain ⟨bm, N, nm, qn, bs, hdct, sn, sub, ab, col, dd, k0, k1, k2, k3, k5, mN, hC, hN, hni, hT⟩ := exc_obj I.ok.mod.kin EC.ex
  refine wpAny_Raise_call_subT (C := C) (nm := nm) (q := qn) (N := N) (bs := bs) (bm := bm) (hdct := hdct) (sn := sn) (sub := sub) (ab := ab) (col := col) (dd := dd) (k0 := k0) (k1 := k1) (k2 := k2) (k3 := k3) (k5 := k5)
    F.excBase_ValueError (mN := mN) (hT.hasType F.excBase_ValueError.hasBase) (I.ok.hd hc) (by rw [he]; show (false || (backTo cpos (starEach es X.env)).any (·.1)) = false; rw [hpl]; rfl) hni (ld_glob I hg EC.mg ⟨rfl, ?_⟩ hdb)
  have hA := ha cpos pins s σ H _ I h
  rw [he] at hA ⊢
  refine Calls.evalArgs_plain (thn hA fun us s2 ⟨vs, H2, I2, r2, z2, q2⟩ => ⟨rfl, by rw [← r2.length]; exact z2, I2.bk _ _ hC, hN.keeps I2.bk, hT.keeps I2.bk, fun h' ea hm => ?_⟩)
  exact hx pins σ H2 s2 h' ea C us I2 hm q2
abbrev Cx.inExc (X : Cx) (ea : Addr) : Cx := { X with A := X.A.mark (some (.ref ea)), calm := false, xe := fun _ _ => False }
theorem Cx.Ok.inExc {X : Cx} (ok : X.Ok) (ea : Addr) : (X.inExc ea).Ok :=
  ⟨ok.mod, ok.kind, ok.glob, ok.blt, ok.above, ok.inj, ok.has, ok.cab, fun z => (nomatch z), ok.frames, ok.stk, ok.exf, ok.bs, ok.bsz, ok.noex, ok.exfs, ok.funs, ok.frf⟩
section
variable {X : Cx} {pins : List (Addr × Obj)} {σ : St} {H : Hp} {s : Shared}
theorem Inv.inExc (I : Inv X pins σ H s) (ea : Addr) : Inv (X.inExc ea) pins σ H s := ⟨I.ok.inExc ea, I.os, I.bare, I.base, I.loc, I.cell, I.free, I.freeC, I.pin, I.hok, I.len⟩
theorem Inv.ofExc {ea : Addr} (ok : X.Ok) (I : Inv (X.inExc ea) pins σ H s) : Inv X pins σ H s := ⟨ok, I.os, I.bare, I.base, I.loc, I.cell, I.free, I.freeC, I.pin, I.hok, I.len⟩
theorem SP.ofExc {ea : Addr} {D : Ends} {f : Flow} (ok : X.Ok) (h : SP (X.inExc ea) pins D f s) : SP X pins D f s := by
  cases f with
  | next => obtain ⟨σ', H', I, q⟩ := h; exact ⟨σ', H', I.ofExc ok, q⟩
  | brk => obtain ⟨σ', H', I, q⟩ := h; exact ⟨σ', H', I.ofExc ok, q⟩
  | cont => obtain ⟨σ', H', I, q⟩ := h; exact ⟨σ', H', I.ofExc ok, q⟩
  | ret u => obtain ⟨v, σ', H', I, r, q⟩ := h; exact ⟨v, σ', H', I.ofExc ok, r, q⟩
theorem Inv.caught {s' : Shared} {ea C t : Addr} {H' : Hp} {B h : Heap} (I : Inv X pins σ H s) (fy : Fly X.prog X.w X.stack H s s' ea C t H' B) (x1 : B.StaysIn h) (x4 : Heap.UpToSlots s'.heap h) : Inv X pins σ H' { s' with heap := h } := by
  have hBs3 : ∀ b o, B.get? b = some o → s'.heap.get? b = some o := fun b o q => fy.fl.1 b o q
  refine I.call' (ch := []) (s' := { s' with heap := h }) fy.os ⟨fun b o q n nf _ => x1 b o (fy.old b o q n nf), fun b o q n hb _ => ?_, fy.un.free, fun b o q _ => ?_, fy.un.tups, fy.un.frzs, fy.un.tbls⟩ (fun b o q => ?_) fy.bare fun b z => absurd z (by simp)
  · obtain ⟨sl, q2⟩ := fy.un.slot b o q n hb (by simp)
    obtain ⟨_, o', ho', hnf⟩ := I.stack.mem hb
    rw [q] at ho'; cases ho'
    obtain ⟨sl', q3⟩ := x4 b _ q2 hnf
    exact ⟨sl', q3⟩
  · rcases fy.ther b o q with z | ⟨o', q2⟩
    · obtain ⟨_, o2, ho2, hnf⟩ := fy.fl.2.2.1.mem z
      obtain ⟨sl, q3⟩ := x4 b _ ho2 hnf
      exact ⟨_, q3⟩
    · exact ⟨o', x1 b o' q2⟩
  · refine (fy.hok b o q).stay (fun c v hc q2 => ?_) (fun _ q2 => q2) fun _ _ q2 => q2
    have : ∃ ob, B.get? c = some ob := by
      rcases hc with z | z
      · rw [z]; exact fy.trk b o q
      · exact fy.trk c _ z
    obtain ⟨ob, q3⟩ := this
    have q4 := hBs3 c ob q3
    rw [q2] at q4; cases q4
    exact x1 c v q3
end
theorem Fun.okF {P : Program} {w : World} {K : PySem.W.Frag} {mg : Str → Option Value} {base : Heap} {x qual : Str} {st : Stmt} {f : Addr} {fd : FuncData} {N ps : List Str} {k : Nat} {sp : Sp} (F : Fun K x qual st f fd) (S : FnScope N ps (defScope st)) (len : ∀ vs H Q E, sp vs H Q E → vs.length = ps.length)
    (hbody : ∀ (cdv : Value) (A : Around) (outer : List Env) (s : Shared) (H : Hp) (vs : List V) (Q : VK) (E : XK), Room k (A.deeper (envOfC qual (defScope st) s.heap.objs.size f cdv)) → sp vs H Q E →
      ∃ t, PSs (cxOf (CXF P w) P w K mg base N qual (defScope st) f cdv A outer s H E) (defBody st) t ∧ t { nx := fun _ H' => Q .non H', rt := Q } (start N vs) H) : FnOk P w K mg base (CXF P w) (k + 1) f fd ps sp := by
  obtain ⟨oc, od, kV, doc, pm, an, cdv, ct, osl, rfl, lk, hcd⟩ := F.ex
  exact fn_of lk hcd S len fun A outer s H vs Q E hr hsp => hbody cdv A outer s H vs Q E hr hsp
end L2
namespace L2
open PySem PySem.Spec PyProof.Rows
def tCut (t : TS) : TS := fun D σ H => ∃ I : St → Hp → Prop, t { D with nx := I } σ H ∧ ∀ σ' H', I σ' H' → D.nx σ' H'
theorem ps_cut {X : Cx} {st : Stmt} {t : TS} (h : PS X st t) : PS X st (tCut t) := by
  intro pins s σ H D I hq
  obtain ⟨J, h1, h2⟩ := hq
  refine thn (h pins s σ H _ I h1) fun f s1 q => ?_
  cases f with
  | next => obtain ⟨σ', H', I', q⟩ := q; exact ⟨σ', H', I', h2 _ _ q⟩
  | brk => exact q
  | cont => exact q
  | ret u => exact q
end L2
namespace L2
open PySem PySem.Spec PyProof.Rows PySem.W
structure ExcQ (K : PySem.W.Frag) (C : Addr) : Prop where
  ga : PySem.W.findIn K (.ref C) "__getattribute__" = some (some (.builtin "BaseException.__getattribute__"))
  gt : PySem.W.findIn K (.ref C) "__getattr__" = some none
  ca : PySem.W.findIn K (.ref C) "__class__" = some (some (.builtin "object.__class__"))
  be : PySem.W.mroIn K C (.type "BaseException") = some true
  ob : PySem.W.mroIn K C (.type "object") = some true
  cl : PySem.W.isClsIn K C = true
structure IsA (h : Heap) (a : Addr) (o : Obj) (C : Addr) : Prop where
  at_ : h.get? a = some o
  cls : o.cls = .ref C
theorem IsA.type {M : Model} {h : Heap} {a C : Addr} {o : Obj} (I : IsA h a o C) : PySem.W.Looks M h (typeOf (.ref a)) (.ref C) := I.cls ▸ (PySem.W.Looks.ld I.at_).andThen .now
section
variable {prog : Program} {w : World} {A : Around} {E : Value → Shared → Prop} {h : Heap} {g : Array GenState} {d : Drawn} {t : Nat} {os : OsState} {a C : Addr} {o : Obj} {K : PySem.W.Frag}
theorem exq_get {R : Result → Shared → Prop} {tp : Value} (X : K.In h) (Z : ExcQ K C) (I : IsA h a o C) (hq : R (.ok (.ret (.ref C))) ⟨h, g, d, t, os⟩) :
    codeAny (model prog w) A (.call (.builtin "getset_descriptor.__get__") ⟨[.builtin "object.__class__", .ref a, tp], []⟩) R ⟨h, g, d, t, os⟩ := by
  have L0 := I.type (M := model prog w)
  have L1 := PySem.W.looks_mroIn (M := model prog w) X Z.ob
  refine codeAny_call_builtin KF.slot_gs.plain KF.entry_gs (KF.slot_gs.check _ _ _ _ _ _ _ _ KF.type_class (KF.args_gs _ _ _) ?_)
  unfold Builtin.«getset_descriptor.__get__» Builtin.Getset_descriptor.descrGet
  rw [dga_obj]
  refine wpAny_bind (wpAny_pure ?_)
  unfold Builtin.Getset_descriptor.descrGetter Builtin.Getset_descriptor.descrCheckInstance Builtin.Getset_descriptor.descrNameAndClass isInstance
  simp only [KF.owner_class]
  repeat lk
  refine ⟨Code.quiet_builtin _ (by decide +kernel), codeAny_builtin KF.entry_class ?_⟩
  unfold Builtin.«object.__class__» shownTypeOf
  repeat lk
  exact hq
theorem exq_check {nameV : Value} {Q : Unit → Shared → Prop} (X : K.In h) (Z : ExcQ K C) (I : IsA h a o C) (hq : Q () ⟨h, g, d, t, os⟩) :
    wpAny (model prog w) A (checkBuiltinCall "BaseException.__getattribute__" ⟨[.ref a, nameV], []⟩) Q E ⟨h, g, d, t, os⟩ := by
  have hk : builtinKind "BaseException.__getattribute__" = some .slot := by decide +kernel
  have hsplit : splitId "BaseException.__getattribute__" = some ("BaseException", "__getattribute__") := by decide +kernel
  have ha := F.args_bexc_ga (.ref a) nameV
  have L0 := I.type (M := model prog w)
  have L1 := PySem.W.looks_mroIn (M := model prog w) X Z.be
  simp only [checkBuiltinCall, hk, hsplit]
  refine wpAny_bind ?_
  · unfold isInstance
    refine wpAny_bind (L0.at (L1.at ?_))
    repeat (first | wp_step)
    exact hq
theorem exq_entry {tk : Tok} {Q : Fin → Shared → Prop} (X : K.In h) (Z : ExcQ K C) (I : IsA h a o C) (hq : Q (.done (.ret (.ref C))) ⟨h, g, d, t, os⟩) :
    wpAny (model prog w) A (Builtin.«object.__getattribute__» ⟨[.ref a, .str "__class__" tk], []⟩) Q E ⟨h, g, d, t, os⟩ := by
  have hT5 : (⟨h, g, d, t, os⟩ : Shared).TypeIs (.builtin "object.__class__") "getset_descriptor" := F.typeOf_object_class
  have f5 := F.typeOf_object_class
  have f6 := F.slot_gs_get.lookup
  have f7 := F.slot_gs_set.lookup
  have L2 := PySem.W.looks_findIn (M := model prog w) X Z.ca
  have hx := I.at_
  have hc := I.cls
  repeat (any_goals (first | assumption | (with_reducible refine wpAny_loadPart_at hx ?_; rw [hc]) | (with_reducible refine L2.at ?_) | wp_step))
  refine exq_get X Z I ?_
  repeat (any_goals (first | assumption | wp_step))
theorem exq_call {tk : Tok} {R : Result → Shared → Prop} (X : K.In h) (Z : ExcQ K C) (I : IsA h a o C) (hq : R (.ok (.ret (.ref C))) ⟨h, g, d, t, os⟩) :
    codeAny (model prog w) A (.call (.builtin "BaseException.__getattribute__") ⟨[.ref a, .str "__class__" tk], []⟩) R ⟨h, g, d, t, os⟩ :=
  codeAny_call_builtin F.attrBase_ValueError.ga.plain F.entry_bexc_ga (exq_check X Z I (exq_entry X Z I hq))
theorem exq_by {tk : Tok} {fill expr : Bool} {Q : Value → Shared → Prop} (X : K.In h) (Z : ExcQ K C) (I : IsA h a o C) (hq : Q (.ref C) ⟨h, g, d, t, os⟩) :
    wpAny (model prog w) A (getAttrBy (.ref a) (.str "__class__" tk) fill expr) Q E ⟨h, g, d, t, os⟩ := by
  have f3 := F.attrBase_ValueError.ga.bind (.ref a)
  have hx0 : (expr && onTheHeap (Value.builtin "BaseException.__getattribute__")) = false := by cases expr <;> rfl
  have hx2 : (Value.builtin "BaseException.__getattribute__" == Value.builtin "object.__getattribute__") = false := by decide +kernel
  have hx1 : (onTheHeap (Value.ref C) && Value.builtin "BaseException.__getattribute__" == Value.builtin "object.__getattribute__") = false := by rw [hx2]; rfl
  have L2 := PySem.W.looks_findIn (M := model prog w) X Z.ga
  have L3 := PySem.W.looks_findIn (M := model prog w) X Z.gt
  have hx := I.at_
  have hc := I.cls
  repeat (any_goals (first | assumption | (with_reducible refine wpAny_loadPart_at hx ?_; rw [hc]) | (with_reducible refine L2.at ?_) | (with_reducible refine L3.at ?_) | wp_step))
  refine exq_call X Z I ?_
  repeat (any_goals (first | assumption | wp_step))
theorem exq_attr {s : Shared} {Q : Option Value → Shared → Prop} (X : K.In s.heap) (Z : ExcQ K C) (I : IsA s.heap a o C) (hq : Q (some (.ref C)) { s with toks := s.toks + 1 }) :
    wpAny (model prog w) A (getAttr? (.ref a) "__class__") Q E s := by
  obtain ⟨h, g, d, t, os⟩ := s
  unfold getAttr? getAttrBy?
  repeat (any_goals (first | assumption | with_reducible apply exq_by X Z I | wp_step))
theorem kitx_exc (Z : ExcQ K C) : PySem.W.KitX K (.ref a) (.ref C) (fun h => ∃ o, IsA h a o C) where
  ty := fun _ _ _ ⟨_, I⟩ => I.type
  it := fun _ _ X _ => by
    have hcl := Z.cl
    unfold PySem.W.isClsIn at hcl
    obtain ⟨cdD, hcD⟩ := Option.isSome_iff_exists.mp hcl
    unfold PySem.W.clsIn at hcD
    split at hcD
    · rename_i c' d' cd' sl' ho
      intro A' Q' E' s' k q
      unfold isType loadHead
      exact wpAny_bind (wpAny_loadPart (k _ _ (X _ _ ho)) (wpAny_pure q))
    · cases hcD
  ne := fun h tp dd its n sl X htp => by
    have hcl := Z.cl
    unfold PySem.W.isClsIn at hcl
    obtain ⟨cdD, hcD⟩ := Option.isSome_iff_exists.mp hcl
    refine Bool.eq_false_iff.mpr fun q => ?_
    have e : C = tp := Value.ref.inj (beq_iff_eq.mp q)
    subst e
    unfold PySem.W.clsIn at hcD
    split at hcD
    · rename_i c' d' cd' sl' ho
      have z := (X _ _ ho).symm.trans htp
      cases z
    · cases hcD
  ca := fun X ⟨_, I⟩ k => exq_attr X Z I k
def excO (a C : Addr) : HO := .ext fun h => ∃ o, IsA h a o C
end
section
variable {X : Cx}
theorem call_isiE : CallR X (.builtin "isinstance") (fun xs H Q => ∃ (a C : Addr) (c : V) (cv : Value) (b : Bool), xs = [.ref a, c] ∧ (∀ u, RelV c u → u = cv) ∧ H a = some (excO a C) ∧ ExcQ X.K C ∧ PySem.W.kitOne X.K (.ref C) cv = some b ∧ Q (.bl b) H) := by
  intro pins s σ H xs us Q I r h
  obtain ⟨a, C, c, cv, b, rfl, hc, ha, Z, e, q⟩ := h
  obtain ⟨u, v, rfl, ru, rc⟩ := Vals.two r
  cases hc _ rc
  cases ru
  obtain ⟨p, _⟩ := (show ObjOk X.prog X.w H s.heap a (excO a C) from I.hok a _ ha)
  exact PySem.W.kia_one (kitx_exc Z) I.kIn p e (fun z => nomatch z) fun tk => ⟨.bl b, H, I.tok _, rfl, q⟩
end
section
variable {X : Cx} {pins : List (Addr × Obj)} {σ : St} {H : Hp} {s : Shared}
theorem Inv.track {a : Addr} {o : HO} (I : Inv X pins σ H s) (hn : H a = none) (h0 : X.s₀.heap.get? a = none) (hl : a ≠ X.env.locals) (hc : ∀ x c, X.env.cells.lookup x = some c → c ≠ a) (hp : ∀ p ∈ X.pn ++ pins, p.1 ≠ a)
    (new : ObjOk X.prog X.w (upd H a o) s.heap a o) : Inv X pins σ (upd H a o) s := by
  have ne : ∀ {b : Addr} {u : HO}, H b = some u → b ≠ a := fun {b u} e z => by rw [z, hn] at e; cases e
  have k : ∀ {b : Addr} {u : HO}, H b = some u → upd H a o b = some u := fun {b u} e => by rw [upd_ne (ne e)]; exact e
  refine ⟨I.ok, I.os, I.bare, ⟨I.base.keep, I.base.slot, fun b u e n hx => ?_, I.base.there, fun b xs e => k (I.base.tups b xs e), fun b u v e => k (I.base.frzs b u v e), fun b ps e => ?_⟩, I.loc, I.cell, ?_, fun x c e => ?_, fun p hq => ?_, fun b u e => ?_, I.len⟩
  · rw [upd_ne (fun z => by rw [z, h0] at e; cases e)]; exact I.base.free b u e n hx
  · obtain ⟨m, e1⟩ := I.base.tbls b ps e
    exact ⟨m, k e1⟩
  · rw [upd_ne (Ne.symm hl)]; exact I.free
  · rw [upd_ne (hc x c e)]; exact I.freeC x c e
  · obtain ⟨e, n, r⟩ := I.pin p hq
    exact ⟨e, by rw [upd_ne (hp p hq)]; exact n, r⟩
  · by_cases hb : b = a
    · subst hb
      rw [upd_same] at e; cases e
      exact new
    · rw [upd_ne hb] at e
      exact (I.hok b u e).stay (fun _ _ _ q => q) (fun _ q => k q) fun _ _ q => k q
theorem Inv.forget {h' : Heap} {t' : Nat} {m' : Str → Option Value} (I : Inv X pins σ H s) (hn' : h'.Ns X.env.locals m') (hs : Heap.SameBut X.env.locals s.heap h') : Inv X pins (List.replicate X.N.length none) H { s with heap := h', toks := t' } := by
  obtain ⟨m, hn, hl⟩ := id I.loc
  obtain ⟨oL, _, _, hoL, _⟩ := id hn
  have cne := I.cne
  refine ⟨I.ok, I.os, I.bare, ⟨fun b o e n hb hx => ?_, fun b o e n hb hx => ?_, I.base.free, fun b o e hx => ?_, I.base.tups, I.base.frzs, I.base.tbls⟩, ⟨_, hn', fun j y v' e1 e2 e3 => ?_⟩, fun y c e => ?_, I.free, I.freeC, fun p hp => ?_, fun b ob e => ?_, by simp⟩
  · exact (hs.2 b (Nat.ne_of_lt (Nat.lt_of_lt_of_le (Heap.lt_size e) I.ok.above))).trans (I.base.keep b o e n hb hx)
  · obtain ⟨sl, e1⟩ := I.base.slot b o e n hb hx
    exact ⟨sl, (hs.2 b (Nat.ne_of_lt (Nat.lt_of_lt_of_le (Heap.lt_size e) I.ok.above))).trans e1⟩
  · obtain ⟨o', e1⟩ := I.base.there b o e hx
    exact ⟨o', (hs.2 b (Nat.ne_of_lt (Nat.lt_of_lt_of_le (Heap.lt_size e) I.ok.above))).trans e1⟩
  · rw [List.getElem?_replicate] at e2
    split at e2 <;> cases e2
  · obtain ⟨w', z⟩ := I.cell y c e
    exact ⟨w', z.sameBut hs (cne y c e)⟩
  · obtain ⟨e, n, ne, nf, d⟩ := I.pin p hp
    exact ⟨(hs.2 p.1 ne).trans e, n, ne, nf, d⟩
  · refine (I.hok b ob e).stay (fun c w' hc q => (hs.2 c ?_).trans q) (fun _ q => q) fun _ _ q => q
    rintro rfl
    rcases hc with z | z
    · rw [← z, I.free] at e; cases e
    · rw [I.free] at z; cases z
theorem Fly.new {s' : Shared} {ea C t : Addr} {H' : Hp} {B : Heap} {P : Program} {w : World} {outer : List Env} (fy : Fly P w outer H s s' ea C t H' B) : s.heap.get? ea = none ∧ H' ea = none := by
  obtain ⟨_, hB, hF, oe, vs, T, oT, ts, he, _, hd, _⟩ := id fy.fl
  constructor
  · cases q : s.heap.get? ea with
    | none => rfl
    | some o =>
      rcases fy.ther ea o q with z | ⟨o', z⟩
      · obtain ⟨_, o2, ho2, hnf⟩ := hF.mem z
        rw [he] at ho2; cases ho2
        exact absurd hd (hnf vs)
      · rw [hB] at z; cases z
  · cases q : H' ea with
    | none => rfl
    | some o =>
      obtain ⟨ob, z⟩ := fy.trk ea o q
      rw [hB] at z; cases z
end
def isT : Value → Bool
  | .bool b => b == true
  | _ => false
theorem bools_of : ∀ {bs : List Bool} {us : List Value}, Vals (bs.map V.bl) us → us = bs.map Value.bool
  | [], _, .nil => rfl
  | _ :: _, _, .cons r t => by
    cases (show _ = Value.bool _ from r)
    rw [bools_of t]; rfl
theorem countP_bools : ∀ bs : List Bool, (bs.map Value.bool).countP isT = bs.count true
  | [] => rfl
  | b :: r => by
    rw [List.map_cons, List.countP_cons, List.count_cons, countP_bools r]
    cases b <;> rfl
theorem mt_countB {X : Cx} : MtM X "list.count" (fun x xs H Q => ∃ (l : Addr) (bs : List Bool), x = .ref l ∧ xs = [.bl true] ∧ H l = some (.lst (bs.map V.bl)) ∧ Q (.int (bs.count true : Nat)) H) := by
  intro pins s σ H x vs v us Q I rx rv h
  obtain ⟨l, bs, rfl, rfl, hH, q⟩ := h
  cases rx
  obtain ⟨u, rfl, ru⟩ := rv.one
  cases (show u = Value.bool true from ru)
  obtain ⟨z, its, n, r, hl, e⟩ := I.lstM hH
  have eb := bools_of r
  refine call_meets F.slot_list_count ⟨_, e, rfl⟩ F.entry_list_count (F.args_list_count_2 _ _) (PySem.SeqAt.list_countAt l its.toArray n _ _ (.bool true) isT) ⟨e, fun y hy => ?_, ?_⟩
  · rw [eb] at hy
    obtain ⟨b, _, rfl⟩ := List.mem_map.mp (List.mem_toArray.mp hy)
    exact PySem.SeqAt.EqAt.bool_bool b true
  · refine ⟨.int (bs.count true : Nat), H, I.tok _, ⟨s.toks, ?_⟩, q⟩
    rw [eb, ← countP_bools]
section
variable {X : Cx}
theorem callK_isiE {K : PySem.W.Frag} (hK : X.K = K) : CallR X (.builtin "isinstance") (fun xs H Q => ∃ (a C : Addr) (c : V) (cv : Value) (b : Bool), xs = [.ref a, c] ∧ (∀ u, RelV c u → u = cv) ∧ H a = some (excO a C) ∧ ExcQ K C ∧ PySem.W.kitOne K (.ref C) cv = some b ∧ Q (.bl b) H) := by
  subst hK; exact call_isiE
theorem peK_bm {K : PySem.W.Frag} {o e : Expr} {es : List Expr} {to : TE} {t : TA} {name : Str} {apos cpos : Pos} {T id : String} {r : V → List V → Hp → VK → Prop} (hK : X.K = K) (pa : PlainAttrs T) (slot : Slot T name id) (hty : typeOf (.builtin id) = pure (.type "method_descriptor")) (hm : MtR X id r) (ho : PE X o to) (ha : PA X (e :: es) t)
    (hbase : attributeBase o name X.env (eval o X.env) = eval o X.env := by rfl)
    (hfew : ((backTo cpos (starEach (e :: es) X.env)).all (fun x => !x.1) && (backToKw cpos (keywordEach [] X.env)).all (fun x => x.1.isSome)
      && decide ((e :: es).length + ([] : List Keyword).length + (if ([] : List Keyword).isEmpty then 0 else 1) < 30)) = true := by rfl)
    (hline : (apos.endLine == cpos.line) = true := by rfl) (hs : starEach (e :: es) X.env = (false, eval e X.env) :: starEach es X.env := by rfl) (hplain : (backTo cpos (starEach es X.env)).any (·.1) = false := by rfl) :
    PE X (.Call (.Attribute o name apos) (e :: es) [] cpos) (tBM K T r to t) := by
  subst hK; exact pe_bm pa slot hty hm ho ha hbase hfew hline hs hplain
end
end L2
namespace L2
open PySem PySem.Spec PyProof.Rows
def Itn (K : PySem.W.Frag) (l : Addr) : It :=
  ⟨fun i H => ∃ xs x, SqL K H l xs ∧ xs[i]? = some x,
   fun i H v H' => ∃ T x, v = .ref T ∧ H T = none ∧ H' = upd H T (.tup [.int i, x]) ∧ ∀ xs, SqL K H l xs → xs[i]? = some x,
   fun i H => ∃ xs, SqL K H l xs ∧ xs.length ≤ i⟩
theorem turn_enum {P : Program} {w : World} {K : PySem.W.Frag} {elts : List Expr} {k : Nat} {pos : Pos} (e it l : Addr) (hei : e ≠ it) :
    Turn P w K (.Tuple elts k pos) (Itn K l) [e, it] e (fun i h => (∃ old, IsEnum h e it i old) ∧ h.IsListIter it l i) where
  mem := by simp
  obj := fun i h st b hb => by
    obtain ⟨⟨old, hz⟩, ⟨o1, e1, _, d1⟩⟩ := st
    simp only [List.mem_cons, List.not_mem_nil, or_false] at hb
    rcases hb with rfl | rfl
    · exact ⟨_, hz, fun v q => by have q' : Data.fields _ = Data.cell v := q; cases q'⟩
    · exact ⟨o1, e1, fun v q => by rw [d1] at q; cases q⟩
  keep := fun i h h' st kk => by
    obtain ⟨⟨old, hz⟩, h1⟩ := st
    exact ⟨⟨old, kk e (by simp) _ hz⟩, h1.at fun o q => kk it (by simp) o q⟩
  item := by
    intro X hP hw hK hc i pins s σ H E I hf st hg
    subst hP hw hK
    obtain ⟨xs, x, hq1, hx⟩ := hg
    obtain ⟨⟨old, hz⟩, h1⟩ := st
    obtain ⟨its1, rv1, p1, _⟩ := I.list hq1
    obtain ⟨u1, hu1, ru1⟩ := rv1.get hx
    refine wpAny_pyNext_enum_item hz h1 p1.isList (x := u1) (by simpa using hu1) hei fun h' a1 a2 a3 a4 hk => ?_
    have nfp : ∀ b ∈ [e, it], H b = none := fun b hb => (hf b hb).1
    have hT : H s.heap.objs.size = none := I.hok.fresh (Nat.le_refl _)
    have fne : ∀ b o, s.heap.get? b = some o → b ≠ s.heap.objs.size := fun b o q => Nat.ne_of_lt (Heap.lt_size q)
    have lz : e ≠ s.heap.objs.size := fne _ _ hz
    have li1 : it ≠ s.heap.objs.size := by obtain ⟨o, q, _⟩ := h1; exact fne _ _ q
    refine ⟨.ref s.heap.objs.size, rfl, wpAny_letOwnedTupleGo_enum a1 fun h'' hz'' hs'' => ?_⟩
    have up : ∀ b o, b ≠ e → h'.get? b = some o → h''.get? b = some o := fun b o hb q => hs''.extBut _ _ hb q
    have tnew : ObjOk X.prog X.w (upd H s.heap.objs.size (.tup [.int i, x])) h'' s.heap.objs.size (.tup [.int i, x]) :=
      ⟨by show 2 ≤ sizeLine; decide, [.int i s.toks, u1], .cons ⟨_, rfl⟩ (.cons ru1 .nil), ⟨_, up _ _ (Ne.symm lz) a3, rfl, _, rfl⟩⟩
    have neT : ∀ b u, H b = some u → b ≠ s.heap.objs.size := fun b u q => ne_of_none q hT
    have nit : ∀ b u, H b = some u → b ∉ [e, it] := fun b u q hb => by rw [nfp b hb] at q; cases q
    have keepAll : ∀ b o, b ∉ [e, it] → s.heap.get? b = some o → h''.get? b = some o := fun b o hb q => by
      simp only [List.mem_cons, List.not_mem_nil, or_false, not_or] at hb
      exact up b o hb.1 (hk b o hb.1 hb.2 q)
    have I2 : Inv X pins σ (upd H s.heap.objs.size (.tup [.int i, x])) { s with heap := h'', toks := s.toks + 1 } := by
      refine I.step (g' := s.gens) (d' := s.drawn) (t' := s.toks + 1) (ch := [e, it]) (fun b hb => ?_) (fun b o _ _ hc q _ => keepAll b o hc q) (fun b o _ _ hc q _ => ⟨o.slots, keepAll b o hc q⟩)
        (fun b o _ q n => by rw [upd_ne (fne b o q)]; exact n) (fun b o hc q => ⟨o, keepAll b o hc q⟩) (fun b zs q => by rw [upd_ne (neT b _ q)]; exact q) (fun b o u q => by rw [upd_ne (neT b _ q)]; exact q)
        (fun b ps q => ⟨#[], by rw [upd_ne (neT b _ q), q]; simp⟩) (fun m hm => ?_) (fun b u q => ?_) I.bare
      · obtain ⟨f0, f1, f2, f3, f4, f5⟩ := hf b hb
        exact ⟨f3, f1, f4, f5⟩
      · obtain ⟨o, es, ep, ho, r⟩ := hm
        exact ⟨o, es, ep, keepAll _ o (fun hb => (hf _ hb).2.1 rfl) ho, r⟩
      · by_cases hb : b = s.heap.objs.size
        · subst hb; rw [upd_same] at q; cases q; exact tnew
        · rw [upd_ne hb] at q
          refine (I.hok b u q).stay (fun c' v hc' q2 => keepAll c' v ?_ q2) (fun c' q2 => by rw [upd_ne (neT c' _ q2)]; exact q2) fun c' zs q2 => by rw [upd_ne (neT c' _ q2)]; exact q2
          rcases hc' with z' | z'
          · rw [z']; exact nit b u q
          · exact nit c' _ z'
    refine ⟨.ref s.heap.objs.size, upd H s.heap.objs.size (.tup [.int i, x]), I2, rfl, ⟨s.heap.objs.size, x, rfl, hT, rfl, fun xs' h1' => ?_⟩, ?_, fun b hb => ?_⟩
    · rw [I.list_inj h1' hq1]; exact hx
    · exact ⟨⟨_, hz''⟩, a2.at fun o q => up _ o (Ne.symm hei) q⟩
    · rw [upd_ne ?_]
      · exact nfp b hb
      · simp only [List.mem_cons, List.not_mem_nil, or_false] at hb
        rcases hb with rfl | rfl <;> assumption
  done := by
    intro X hP hw hK hc i pins s σ H E I hf st hg
    subst hP hw hK
    obtain ⟨xs, hq1, hx⟩ := hg
    obtain ⟨⟨old, hz⟩, h1⟩ := st
    obtain ⟨its1, rv1, p1, _⟩ := I.list hq1
    have nfp : ∀ b ∈ [e, it], H b = none := fun b hb => (hf b hb).1
    have l1 := rv1.length
    refine wpAny_pyNext_enum_end (I.ok.hd hc) hz h1 p1.isList (by simp; (first | lia | omega)) fun h' hk => ⟨rfl, ?_⟩
    have keepAll : ∀ b o, b ∉ [e, it] → s.heap.get? b = some o → h'.get? b = some o := fun b o hb q => by
      simp only [List.mem_cons, List.not_mem_nil, or_false, not_or] at hb
      exact hk b o hb.2 q
    have keep2 : ∀ b o, b ≠ it → s.heap.get? b = some o → h'.get? b = some o := fun b o hb q => hk b o hb q
    have nit : ∀ b u, H b = some u → b ∉ [e, it] := fun b u q hb => by rw [nfp b hb] at q; cases q
    refine I.step (g' := s.gens) (d' := s.drawn) (t' := s.toks) (ch := [e, it]) (fun b hb => ?_) (fun b o _ _ hc q _ => keepAll b o hc q) (fun b o _ _ hc q _ => ⟨o.slots, keepAll b o hc q⟩)
      (fun b o _ q n => n) (fun b o hc q => ⟨o, keepAll b o hc q⟩) (fun b zs q => q) (fun b o u q => q) (fun b ps q => ⟨#[], by rw [q]; simp⟩) (fun m hm => ?_) (fun b u q => ?_) I.bare
    · obtain ⟨f0, f1, f2, f3, f4, f5⟩ := hf b hb
      exact ⟨f3, f1, f4, f5⟩
    · obtain ⟨o, es, ep, ho, r⟩ := hm
      exact ⟨o, es, ep, keepAll _ o (fun hb => (hf _ hb).2.1 rfl) ho, r⟩
    · refine (I.hok b u q).stay (fun c' v hc' q2 => keepAll c' v ?_ q2) (fun c' q2 => q2) fun c' zs q2 => q2
      rcases hc' with z' | z'
      · rw [z']; exact nit b u q
      · exact nit c' _ z'
  self := fun _ _ _ _ _ st h => wpAny_pyIter_enum st.1.choose_spec h
theorem bt_enum : bootBuiltins "enumerate" = some (.type "enumerate") := by decide +kernel
def iEnum (K : PySem.W.Frag) (ta : TA) : TI := fun σ H R => ta σ H fun vs H1 => ∃ a, vs = [.ref a] ∧ (∃ xs, SqL K H1 a xs) ∧ R (Itn K a) H1
theorem pi_enum {X : Cx} {elts : List Expr} {k : Nat} {tp : Pos} {a : Expr} {ta : TA} {p pos : Pos} (hg : Gl X "enumerate") (hm : X.mg "enumerate" = none) (ha : PA X [a] ta) (hs : starEach [a] X.env = [(false, eval a X.env)] := by rfl) :
    PI X (.Tuple elts k tp) (.Call (.Name "enumerate" p) [a] [] pos) (iEnum X.K ta) := by
  intro pins s σ H R I h
  refine Call_ (ld_blt I hg hm bt_enum (PyProof.Rows.callWith_type1 (thn (ha pos pins s σ H _ I h) fun us s1 ⟨vs, H1, I1, r1, q1⟩ => ?_) hs (by rfl)))
  obtain ⟨l1, e, ⟨xs, hx⟩, q⟩ := q1
  subst e
  obtain ⟨u1, rfl, r1'⟩ := r1.one
  cases r1'
  obtain ⟨its1, rv1, p1, _⟩ := I1.list hx
  refine call_enumerate_list p1.isList fun h' a1 a2 a3 hk => ?_
  have I2 : Inv X pins σ H1 { s1 with heap := h' } := I1.kept (t' := s1.toks) hk
  refine wpAny_pyIter_enum a1 ⟨s1.heap.objs.size + 1, [s1.heap.objs.size + 1, s1.heap.objs.size], _, Itn X.K l1, H1, rfl, I2,
    turn_enum (s1.heap.objs.size + 1) s1.heap.objs.size l1 (Nat.succ_ne_self _), ⟨⟨_, a1⟩, a2⟩, fun b hb => ?_, q⟩
  have hb' : s1.heap.objs.size ≤ b := by
    simp only [List.mem_cons, List.not_mem_nil, or_false] at hb
    rcases hb with e | e
    · rw [e]; exact Nat.le_add_right _ _
    · rw [e]; exact Nat.le_refl _
  exact I1.fpOk hb' (I1.hok.fresh hb')
theorem for_enum {K : PySem.W.Frag} {a : Addr} {xs : List V} {g : TG} {tb : TS} {D : Ends} {σ : St} {H : Hp} (Pv : Nat → St → Hp → Prop) (h0 : Pv 0 σ H) (hl : ∀ i σ H, i ≤ xs.length → Pv i σ H → SqL K H a xs)
    (hs : ∀ i x σ H T, xs[i]? = some x → Pv i σ H → H T = none → g (.ref T) σ (upd H T (.tup [.int i, x])) fun σ2 H2 => tb { D with nx := Pv (i + 1), ct := Pv (i + 1), bk := D.nx } σ2 H2) (hd : ∀ σ H, Pv xs.length σ H → D.nx σ H) :
    ∃ W : Nat → Nat → St → Hp → Prop, (∃ m, W 0 m σ H) ∧ ∀ i m σ H, W i m σ H →
      ((Itn K a).stop i H ∧ D.nx σ H) ∨ ((Itn K a).go i H ∧ ∃ N : St → Hp → Prop, (∀ σ' H', N σ' H' → ∃ m', m' < m ∧ W (i + 1) m' σ' H') ∧ ∀ x H', (Itn K a).yld i H x H' → g x σ H' fun σ2 H2 => tb { D with nx := N, ct := N, bk := D.nx } σ2 H2) := by
  refine ⟨fun i m σ H => m = xs.length - i ∧ i ≤ xs.length ∧ Pv i σ H, ⟨xs.length, by simp, Nat.zero_le _, h0⟩, ?_⟩
  rintro i m σ H ⟨rfl, hi, p⟩
  have q1 := hl i σ H hi p
  by_cases hlt : i < xs.length
  · refine .inr ⟨⟨xs, xs[i], q1, by simp [hlt]⟩, Pv (i + 1), fun σ' H' p' => ⟨xs.length - (i + 1), by (first | lia | omega), rfl, hlt, p'⟩, fun x H' yy => ?_⟩
    obtain ⟨T, x1, e, hT, e2, all⟩ := yy
    subst e e2
    exact hs i x1 σ H T (all xs q1) p hT
  · have e : i = xs.length := by (first | lia | omega)
    subst e
    exact .inl ⟨⟨xs, q1, Nat.le_refl _⟩, hd σ H p⟩
def tF3 (a c : Str) (te : TE) : TE := fun σ H Q => te σ H fun v H1 => ∃ i : Int, v = .int i ∧ i.natAbs < 2 ^ 64 ∧ Q (.str (Str.empty ++ a ++ Str.ofString (toString i) ++ c)) H1
theorem text_le {i : Int} (h : i.natAbs < 2 ^ 64) : (Str.ofString (toString i)).length ≤ 65 := by
  have hl : i.natAbs.log2 < 64 := by
    by_cases h0 : i.natAbs = 0
    · rw [h0]; decide
    · exact (Nat.log2_lt h0).mpr h
  have := int_text_length_le (a := i) (k := 64) (by decide) hl
  rw [PySem.ofString_length]
  (first | lia | omega)
theorem pe_fstr3 {X : Cx} {a c : Str} {e : Expr} {te : TE} {j1 j3 : Nat} {p1 p2 p3 pos : Pos} (he : PE X e te) (ha : a.length ≤ 1000 := by rw [PySem.ofString_length]; decide) (hc : c.length ≤ 1000 := by rw [PySem.ofString_length]; decide) :
    PE X (.JoinedStr [.Constant (.str a) j1 p1, .FormattedValue e (-1) none p2, .Constant (.str c) j3 p3] pos) (tF3 a c te) := by
  intro pins s σ H Q I h
  have z : sizeLine = 16777216 := by decide
  refine PyProof.Rows.JoinedStr_many (PyProof.Rows.joinParts_cons (Calls.Constant_str ⟨?_, ?_⟩))
  · rw [strLen_append, show (Str.empty).length = 0 from rfl]; (first | lia | omega)
  refine PyProof.Rows.joinParts_cons (PyProof.Rows.FormattedValue_plain (thn (he pins _ σ H _ (I.tok _) h) fun u s1 ⟨v, H1, I1, r1, q1⟩ => ?_))
  obtain ⟨i, rfl, hi, q⟩ := q1
  obtain ⟨t, rfl⟩ := (show ∃ t, u = Value.int i t from r1)
  have ti := text_le hi
  have hl : i.natAbs.log2 < 1920 := by
    by_cases h0 : i.natAbs = 0
    · rw [h0]; decide
    · exact Nat.lt_trans ((Nat.log2_lt h0).mpr hi) (by decide)
  refine PyProof.Rows.formatField_int_small hl ⟨?_, ?_⟩
  · rw [strLen_append, strLen_append, show (Str.empty).length = 0 from rfl]; (first | lia | omega)
  refine PyProof.Rows.joinParts_cons (Calls.Constant_str ⟨?_, ?_⟩)
  · rw [strLen_append, strLen_append, strLen_append, show (Str.empty).length = 0 from rfl]; (first | lia | omega)
  refine PyProof.Rows.joinParts_nil ⟨.str _, H1, ?_, ⟨_, rfl⟩, q⟩ ?_
  · exact I1.tok _
  · rw [strLen_append, strLen_append, strLen_append, show (Str.empty).length = 0 from rfl]; (first | lia | omega)
end L2
namespace L2
open PySem PySem.Spec PyProof.Rows
section
variable {X : Cx}
theorem Inv.seer {pins : List (Addr × Obj)} {σ : St} {H : Hp} {s : Shared} (I : Inv X pins σ H s) : s.heap.NoSeer := I.ok.mod.seer.keeps I.bk
theorem op_fdivX (hst : X.stack = X.env :: X.outer) (hgn : X.env.scope.isGenerator = false) (hco : X.env.scope.isCoroutine = false) (ht : X.prog.given.tree = none) (hd : X.A.depth + 100 < recursionLimit) :
    OpR X (binaryOp .FloorDiv) (rI (fun _ j => j ≠ 0) fun i j => .int (i.fdiv j)) := by
  intro pins s σ H x y v u Q I rx ry h
  obtain ⟨i, j, rfl, rfl, hc, q⟩ := onII.ex h
  obtain ⟨t, rfl⟩ := rx
  obtain ⟨t', rfl⟩ := ry
  exact floordiv_int hc ⟨.int (i.fdiv j), H, I.tok _, ⟨_, rfl⟩, q⟩ (.inr (PylongRoom.of I.nolimit hd (SeerAt.of I.seer ht (I.ok.frames.trans (by rw [hst])) hgn hco I.ok.blt I.ok.glob)))
theorem Room.pylong {k : Nat} {A : Around} (r : Room k A) : A.depth + 100 < recursionLimit := by have := r.dp; (first | lia | omega)
end
end L2
namespace L2
open PySem PySem.Spec PyProof.Rows
section
variable {κ : Type} [DecidableEq κ]
def valV (kvs : List (κ × V)) (k : κ) : Option V := (kvs.find? fun kv => decide (kv.1 = k)).map (·.2)
def putK (kvs : List (κ × V)) (k : κ) (v : V) : List (κ × V) :=
  if (kvs.any fun kv => decide (kv.1 = k)) = true then kvs.map (fun kv => if kv.1 = k then (kv.1, v) else kv) else kvs ++ [(k, v)]
theorem valV_pos {p : κ × V} {r : List (κ × V)} {k : κ} (e : p.1 = k) : valV (p :: r) k = some p.2 := by simp [valV, List.find?_cons, e]
theorem valV_neg {p : κ × V} {r : List (κ × V)} {k : κ} (e : ¬ p.1 = k) : valV (p :: r) k = valV r k := by simp [valV, List.find?_cons, e]
theorem valV_any (k : κ) : ∀ kvs : List (κ × V), (kvs.any fun kv => decide (kv.1 = k)) = (valV kvs k).isSome
  | [] => rfl
  | p :: r => by
    rw [List.any_cons]
    by_cases e : p.1 = k
    · simp only [valV_pos e, decide_eq_true e, Bool.true_or, Option.isSome_some]
    · rw [valV_neg e, decide_eq_false e, Bool.false_or]; exact valV_any k r
theorem length_putK (kvs : List (κ × V)) (k : κ) (v : V) : (putK kvs k v).length ≤ kvs.length + 1 := by
  unfold putK
  split
  · rw [List.length_map]; (first | lia | omega)
  · rw [List.length_append, List.length_cons, List.length_nil]; (first | lia | omega)
theorem putK_new {kvs : List (κ × V)} {k : κ} (v : V) (h : valV kvs k = none) : putK kvs k v = kvs ++ [(k, v)] := by
  unfold putK
  rw [valV_any, h]
  exact if_neg (by decide)
theorem RelO.isSome_eq {o : Option V} {u : Option Value} (r : RelO o u) : o.isSome = u.isSome := by
  cases o with
  | none => cases u with
    | none => rfl
    | some _ => exact (show False from r).elim
  | some _ => cases u with
    | none => exact (show False from r).elim
    | some _ => rfl
theorem KV.val {kvs : List (κ × V)} {vs : List (κ × Value)} (r : KV kvs vs) (k : κ) : RelO (valV kvs k) (valueAt vs k) := by
  unfold KV at r
  induction r with
  | nil => exact True.intro
  | @cons p q ps qs h t ih =>
    obtain ⟨h1, h2⟩ := h
    by_cases e : p.1 = k
    · have e' : q.1 = k := h1.symm.trans e
      have b : valueAt (q :: qs) k = some q.2 := by simp [valueAt, List.find?_cons, e']
      rw [valV_pos e, b]; exact h2
    · have e' : ¬ q.1 = k := fun z => e (h1.trans z)
      have b : valueAt (q :: qs) k = valueAt qs k := by simp [valueAt, List.find?_cons, e']
      rw [valV_neg e, b]; exact ih
theorem KV.any {kvs : List (κ × V)} {vs : List (κ × Value)} (r : KV kvs vs) (k : κ) : (kvs.any fun kv => decide (kv.1 = k)) = vs.any fun kv => decide (kv.1 = k) := by
  unfold KV at r
  induction r with
  | nil => rfl
  | cons h t ih => rw [List.any_cons, List.any_cons, ih, h.1]
theorem KV.repl {kvs : List (κ × V)} {vs : List (κ × Value)} (r : KV kvs vs) (k : κ) {y : V} {u : Value} (ry : RelV y u) :
    KV (kvs.map fun kv => if kv.1 = k then (kv.1, y) else kv) (vs.map fun kv => if kv.1 = k then (kv.1, u) else kv) := by
  unfold KV at r ⊢
  induction r with
  | nil => exact .nil
  | @cons p q ps qs h t ih =>
    rw [List.map_cons, List.map_cons]
    refine .cons ?_ ih
    obtain ⟨h1, h2⟩ := h
    by_cases e : p.1 = k
    · rw [if_pos e, if_pos (h1.symm.trans e)]; exact ⟨h1, ry⟩
    · rw [if_neg e, if_neg (fun z => e (h1.trans z))]; exact ⟨h1, h2⟩
theorem KV.put {kvs : List (κ × V)} {vs : List (κ × Value)} (r : KV kvs vs) (k : κ) {y : V} {u : Value} (ry : RelV y u) : KV (putK kvs k y) (stored vs k u) := by
  unfold putK stored
  rw [r.any k]
  by_cases e : (vs.any fun kv => decide (kv.1 = k)) = true
  · rw [if_pos e, if_pos e]; exact r.repl k ry
  · rw [if_neg e, if_neg e]; exact Paired.snoc r ⟨rfl, ry⟩
theorem KV.length {kvs : List (κ × V)} {vs : List (κ × Value)} (r : KV kvs vs) : kvs.length = vs.length := Paired.length r
end
theorem kV_is {P : Program} {w : World} {k : Key} {u : Value} (r : RelV (kV k) u) : (mixKind P w).is k u = true := by
  cases k with
  | inl i => obtain ⟨t, e⟩ := (show ∃ t, u = Value.int i t from r); subst e; exact mixKind_int P w i t
  | inr x => obtain ⟨t, e⟩ := (show ∃ t, u = Value.str x t from r); subst e; exact mixKind_str P w x t
theorem items_are {P : Program} {w : World} : ∀ {ks : List Key} {us : List Value}, Vals (ks.map kV) us → ItemsAre (mixKind P w) ks us
  | [], _, r => by rw [List.map_nil] at r; cases r; exact .nil
  | k :: ks, _, r => by
    rw [List.map_cons] at r
    cases r with
    | cons h t => exact .cons (kV_is h) (items_are t)
abbrev KT (H : Hp) : List (List Key × V) → List (List Key × Addr × Value) → Prop := Paired fun p q => p.1 = q.1 ∧ H q.2.1 = some (.tup (p.1.map kV)) ∧ RelV p.2 q.2.2
theorem KT.val {H : Hp} {kvs : List (List Key × V)} {xs : List (List Key × Addr × Value)} (r : KT H kvs xs) (k : List Key) : RelO (valV kvs k) ((atKey xs k).map (·.2)) := by
  induction r with
  | nil => exact True.intro
  | @cons p q ps qs h t ih =>
    obtain ⟨h1, _, h2⟩ := h
    by_cases e : p.1 = k
    · have e' : q.1 = k := h1.symm.trans e
      have b : atKey (q :: qs) k = some q.2 := by simp [atKey, List.find?_cons, e']
      rw [valV_pos e, b]; exact h2
    · have e' : ¬ q.1 = k := fun z => e (h1.trans z)
      have b : atKey (q :: qs) k = atKey qs k := by simp [atKey, List.find?_cons, e']
      rw [valV_neg e, b]; exact ih
theorem KT.repl {H : Hp} {kvs : List (List Key × V)} {xs : List (List Key × Addr × Value)} (r : KT H kvs xs) (k : List Key) {y : V} {u : Value} (ry : RelV y u) :
    KT H (kvs.map fun kv => if kv.1 = k then (kv.1, y) else kv) (xs.map (putAt k u)) := by
  induction r with
  | nil => exact .nil
  | @cons p q ps qs h t ih =>
    rw [List.map_cons, List.map_cons]
    refine .cons ?_ ih
    obtain ⟨h1, h2, h3⟩ := h
    unfold putAt
    by_cases e : p.1 = k
    · rw [if_pos e, if_pos (h1.symm.trans e)]; exact ⟨h1, h2, ry⟩
    · rw [if_neg e, if_neg (fun z => e (h1.trans z))]; exact ⟨h1, h2, h3⟩
theorem KT.put {H : Hp} {kvs : List (List Key × V)} {xs : List (List Key × Addr × Value)} (r : KT H kvs xs) (k : List Key) {b : Addr} {y : V} {u : Value} (hb : H b = some (.tup (k.map kV))) (ry : RelV y u) :
    KT H (putK kvs k y) (storedH xs k b u) := by
  have e : (kvs.any fun kv => decide (kv.1 = k)) = (atKey xs k).isSome := by
    rw [valV_any, (r.val k).isSome_eq, Option.isSome_map]
  unfold putK storedH
  rw [e]
  by_cases q : (atKey xs k).isSome = true
  · rw [if_pos q, if_pos q]; exact r.repl k ry
  · rw [if_neg q, if_neg q]; exact Paired.snoc r ⟨rfl, hb, ry⟩
theorem KT.keeps {H H' : Hp} {kvs : List (List Key × V)} {xs : List (List Key × Addr × Value)} (r : KT H kvs xs) (ht : ∀ b ys, H b = some (.tup ys) → H' b = some (.tup ys)) : KT H' kvs xs :=
  Paired.mapP r fun _ _ z => ⟨z.1, ht _ _ z.2.1, z.2.2⟩
section
variable {P : Program} {w : World} {H : Hp} {h : Heap} {a : Addr}
theorem rd_of {u : HO} (ok : HOk P w H h) (e : Rd H a u) : ObjOk P w H h a u := e.ok ok
theorem dk_rd {kvs : List (Key × V)} (ok : HOk P w H h) (e : Rd H a (.dK kvs)) : kvs.length ≤ sizeLine ∧ (a == sysModules) = false ∧ ∃ vs, KV kvs vs ∧ h.DictOf (mixKind P w) a vs :=
  show ObjOk P w H h a (.dK kvs) from rd_of ok e
theorem dk_of {kvs : List (Key × V)} (ok : HOk P w H h) (e : H a = some (.dK kvs)) : kvs.length ≤ sizeLine ∧ (a == sysModules) = false ∧ ∃ vs, KV kvs vs ∧ h.DictOf (mixKind P w) a vs := dk_rd ok (.inl e)
theorem key_of {ks : List Key} (ok : HOk P w H h) (e : H a = some (.tup (ks.map kV))) : (tupleKind (mixKind P w)).is h ks a := by
  obtain ⟨_, its, r, o, h1, h2, n, h3⟩ := (show ObjOk P w H h a (.tup (ks.map kV)) from ok a _ e)
  exact ⟨o, its.toArray, n, h1, h2, h3, by simpa using items_are r⟩
theorem dt_rd {kvs : List (List Key × V)} (ok : HOk P w H h) (e : Rd H a (.dT kvs)) : kvs.length ≤ sizeLine ∧ (a == sysModules) = false ∧
    ∃ xs, KT H kvs xs ∧ h.DictOfH (tupleKind (mixKind P w)) a xs := by
  obtain ⟨z, y, xs, r, o, es, ep, h1, h2, h3, h4, h5⟩ := (show ObjOk P w H h a (.dT kvs) from rd_of ok e)
  refine ⟨z, y, xs, r, o, es, ep, h1, h2, h3, h4, fun x hx => ?_, h5⟩
  have all : ∀ {l : List (List Key × V)} {m : List (List Key × Addr × Value)}, KT H l m → ∀ x ∈ m, (tupleKind (mixKind P w)).is h x.1 x.2.1 := by
    intro l m q
    induction q with
    | nil => intro x hx; exact nomatch hx
    | @cons p q ps qs hq t ih =>
      intro x hx
      rcases List.mem_cons.mp hx with e | hx
      · subst e
        exact key_of ok (by rw [← hq.1]; exact hq.2.1)
      · exact ih x hx
  exact all r x hx
theorem dt_of {kvs : List (List Key × V)} (ok : HOk P w H h) (e : H a = some (.dT kvs)) : kvs.length ≤ sizeLine ∧ (a == sysModules) = false ∧
    ∃ xs, KT H kvs xs ∧ h.DictOfH (tupleKind (mixKind P w)) a xs := dt_rd ok (.inl e)
end
def DGet (H : Hp) (a : Addr) (y : V) (r : Option V) : Prop :=
  (∃ kvs k, Rd H a (.dK kvs) ∧ y = kV k ∧ r = valV kvs k) ∨ ∃ kvs k b, Rd H a (.dT kvs) ∧ y = .ref b ∧ H b = some (.tup (k.map kV)) ∧ r = valV kvs k
def DPut (H : Hp) (a : Addr) (y v : V) (H' : Hp) : Prop :=
  (∃ kvs k, H a = some (.dK kvs) ∧ y = kV k ∧ kvs.length < sizeLine ∧ H' = upd H a (.dK (putK kvs k v))) ∨
  ∃ kvs k b, H a = some (.dT kvs) ∧ y = .ref b ∧ H b = some (.tup (k.map kV)) ∧ kvs.length < sizeLine ∧ H' = upd H a (.dT (putK kvs k v))
theorem DGet.k {H : Hp} {a : Addr} {kvs : List (Key × V)} {k : Key} (e : H a = some (.dK kvs)) : DGet H a (kV k) (valV kvs k) := .inl ⟨kvs, k, .inl e, rfl, rfl⟩
theorem DPut.k {H : Hp} {a : Addr} {kvs : List (Key × V)} {k : Key} {v : V} (e : H a = some (.dK kvs)) (hl : kvs.length < sizeLine) : DPut H a (kV k) v (upd H a (.dK (putK kvs k v))) := .inl ⟨kvs, k, e, rfl, hl, rfl⟩
section
variable {X : Cx} {pins : List (Addr × Obj)} {σ : St} {H : Hp} {s : Shared} {a : Addr} {y v : V} {u r : Value} {o : Option V} {A : Around} {E : Value → Shared → Prop}
theorem Inv.big (I : Inv X pins σ H s) : sysModules < s.heap.objs.size := by
  have h : mainGlobals < s.heap.objs.size := (I.mod.glob.keeps I.bk).lt
  exact Nat.lt_trans (by decide) h
theorem d_getItem {Q : Value → Shared → Prop} (hu : A.units + 1 < cLine) (I : Inv X pins σ H s) (g : DGet H a y (some v)) (ry : RelV y u) (h : ∀ w' s', Inv X pins σ H s' → RelV v w' → Q w' s') :
    wpAny (model X.prog X.w) A (getItem (.ref a) u) Q E s := by
  rcases g with ⟨kvs, k, e, ey, l⟩ | ⟨kvs, k, b, e, ey, eb, l⟩
  · subst ey
    obtain ⟨z, hd, vs, rel, dd⟩ := dk_rd I.hok e
    obtain ⟨w', hw, rw'⟩ := RelO.some_of (v := v) (o := valueAt vs k) (by rw [l]; exact rel.val k)
    exact wpAny_getItem_of (kV_is ry) dd.mapOf hw (h w' _ (I.tok _) rw')
  · subst ey
    cases (show u = Value.ref b from ry)
    obtain ⟨z, hd, xs, rel, dd⟩ := dt_rd I.hok e
    obtain ⟨w', hw, rw'⟩ := RelO.some_of (v := v) (o := (atKey xs k).map (·.2)) (by rw [l]; exact rel.val k)
    obtain ⟨p, hp, hp2⟩ := Option.map_eq_some_iff.mp hw
    refine wpAny_getItem_heap (tupleKind_room_in1 hu) (key_of I.hok eb) dd hp ?_
    rw [hp2]
    exact h w' _ (I.tok _) rw'
theorem d_notIn {Q : Value → Shared → Prop} (hu : A.units + 1 < cLine) (I : Inv X pins σ H s) (g : DGet H a y o) (ry : RelV y u) (h : ∀ s', Inv X pins σ H s' → Q (.bool (!o.isSome)) s') :
    wpAny (model X.prog X.w) A (compareOp .NotIn u (.ref a)) Q E s := by
  rcases g with ⟨kvs, k, e, ey, l⟩ | ⟨kvs, k, b, e, ey, eb, l⟩
  · subst ey
    obtain ⟨z, hd, vs, rel, dd⟩ := dk_rd I.hok e
    refine wpAny_notIn_of (kV_is ry) hd dd.mapOf ?_
    rw [← (rel.val k).isSome_eq, ← l]
    exact h _ (I.tok _)
  · subst ey
    cases (show u = Value.ref b from ry)
    obtain ⟨z, hd, xs, rel, dd⟩ := dt_rd I.hok e
    refine wpAny_notIn_heap (tupleKind_room_in1 hu) (key_of I.hok eb) hd dd ?_
    have q := (rel.val k).isSome_eq
    rw [Option.isSome_map] at q
    rw [← q, ← l]
    exact h _ (I.tok _)
theorem d_write {h' : Heap} {t' : Nat} {ob : HO} (I : Inv X pins σ H s) (mu : Mut (H a)) (hs : Heap.SameBut a s.heap h') (he : ∃ q, h'.get? a = some q) (new : ObjOk X.prog X.w (upd H a ob) h' a ob) :
    Inv X pins σ (upd H a ob) { s with heap := h', toks := t' } :=
  I.write (x := a) (e := a) mu (.inl rfl) (fun b q hb z => (hs.2 b hb).trans z) he new
theorem dk_new {P : Program} {w : World} {H' : Hp} {h' : Heap} {kvs : List (Key × V)} {vs : List (Key × Value)} (z : kvs.length ≤ sizeLine) (hd : (a == sysModules) = false) (rel : KV kvs vs) (dd : h'.DictOf (mixKind P w) a vs) :
    ObjOk P w H' h' a (.dK kvs) := ⟨z, hd, vs, rel, dd⟩
theorem d_setItem {H' : Hp} {Q : Unit → Shared → Prop} (hu : A.units + 1 < cLine) (I : Inv X pins σ H s) (g : DPut H a y v H') (ry : RelV y u) (rv : RelV v r) (h : ∀ s', Inv X pins σ H' s' → Q () s') :
    wpAny (model X.prog X.w) A (setItem (.ref a) u r) Q E s := by
  rcases g with ⟨kvs, k, e, ey, l, eH⟩ | ⟨kvs, k, b, e, ey, eb, l, eH⟩
  · subst ey eH
    obtain ⟨z, hd, vs, rel, dd⟩ := dk_of I.hok e
    have hz : vs.length ≤ sizeLine := by rw [← rel.length]; exact z
    have hl : (putK kvs k v).length ≤ sizeLine := by have := length_putK kvs k v; (first | lia | omega)
    refine wpAny_setItem_pairs (hsz := hz) (kV_is ry) dd fun h' dd' hs => h _ ?_
    have he : ∃ q, h'.get? a = some q := let ⟨q, _, _, hq, _⟩ := dd'; ⟨q, hq⟩
    exact d_write I (by rw [e]; exact True.intro) hs he (dk_new hl hd (rel.put k rv) dd')
  · subst ey eH
    cases (show u = Value.ref b from ry)
    obtain ⟨z, hd, xs, rel, dd⟩ := dt_of I.hok e
    have hz : xs.length ≤ sizeLine := by rw [← Paired.length rel]; exact z
    have hl : (putK kvs k v).length ≤ sizeLine := by have := length_putK kvs k v; (first | lia | omega)
    refine wpAny_setItem_heap (hsz := hz) (tupleKind_room_in1 hu) (key_of I.hok eb) dd fun h' dd' hs => h _ ?_
    obtain ⟨q, es, ep, hq, h2, h3, h4, _, h5⟩ := dd'
    refine d_write I (by rw [e]; exact True.intro) hs ⟨q, hq⟩ ⟨hl, hd, _, (rel.put k eb rv).keeps fun c ys ec => ?_, q, es, ep, hq, h2, h3, h4, h5⟩
    rw [upd_ne (ne_of ec e (fun z => nomatch z))]
    exact ec
end
section
variable {X : Cx} {pins : List (Addr × Obj)} {σ : St} {H : Hp} {s : Shared} {a : Addr} {kvs : List (Key × V)} {k : Key} {u : Value} {A : Around} {E : Value → Shared → Prop}
end
def NoSl (i : Expr) : Prop := ∀ ov iv, subscripted i false ov iv = operate [ov, iv] (getItem ov iv)
theorem subD_of {prog : Program} {w : World} {A : Around} {E : Value → Shared → Prop} {s : Shared} {env : Env} {value slice : Expr} {pos : Pos} {T id : String} {Q : Value → Shared → Prop}
    (hl : typeLookup (.type T) "__getitem__" = pure (some (.builtin id))) (hs : NoSl slice)
    (h : wpAny (model prog w) A (eval value env) (fun o s₁ => wpAny (model prog w) A (eval slice env) (fun i s₂ => s₂.TypeIs o T ∧ wpAny (model prog w) A (getItem o i) Q E s₂) E s₁) E s) :
    wpAny (model prog w) A (eval (.Subscript value slice pos) env) Q E s := by
  refine Subscript_ (wpAny_mono h (fun o s₁ h₁ => wpAny_mono h₁ (fun i s₂ h₂ => ?_) fun _ _ x => x) fun _ _ x => x)
  obtain ⟨hT, h₂⟩ := h₂
  unfold subscriptTail
  refine wpAny_bind ?_
  rw [getitemInPython_of_ne hT.not_modules]
  refine wpAny_bind (wpAny_specialOf hT hl ?_)
  have fin : wpAny (model prog w) A (subscripted slice false o i) (fun r s₃ => wpAny (model prog w) A (letTemporaryGo value o r >>= fun _ => pure r) Q E s₃) E s₂ := by
    rw [hs o i]
    exact wpAny_operating (wpAny_mono h₂ (fun r s₃ h₃ => wpAny_bind (wpAny_letTemporaryGo (wpAny_pure h₃))) fun _ _ x => x)
  first
    | exact wpAny_pure (wpAny_bind fin)
    | exact wpAny_bind (wpAny_pure (wpAny_bind fin))
    | exact wpAny_bind fin
theorem dict_typeIs {X : Cx} {pins : List (Addr × Obj)} {σ : St} {H : Hp} {s : Shared} {a : Addr} {y : V} {o : Option V} (I : Inv X pins σ H s) (g : DGet H a y o) : s.TypeIs (.ref a) "dict" := by
  rcases g with ⟨kvs, k, e, _, _⟩ | ⟨kvs, k, b, e, _, _, _⟩
  · obtain ⟨_, _, vs, _, dd⟩ := dk_rd I.hok e
    exact dd.typeIs
  · obtain ⟨_, _, xs, _, dd⟩ := dt_rd I.hok e
    exact dd.typeIs
def tDGet (td ty : TE) : TE := fun σ H Q => td σ H fun x H1 => ty σ H1 fun y H2 => ∃ a v, x = .ref a ∧ DGet H2 a y (some v) ∧ Q v H2
def tDNotIn (ty td : TE) : TE := fun σ H Q => ty σ H fun y H1 => td σ H1 fun x H2 => ∃ a o, x = .ref a ∧ DGet H2 a y o ∧ Q (.bl (!o.isSome)) H2
def sDPut (td ty tv : TE) : TS := fun D σ H => tv σ H fun v H1 => td σ H1 fun x H2 => ty σ H2 fun y H3 => ∃ a H4, x = .ref a ∧ DPut H3 a y v H4 ∧ D.nx σ H4
section
variable {X : Cx} {o i e value : Expr} {pos pos' tpos : Pos} {td ty tv : TE}
theorem pe_dget (hu : X.A.units + 1 < cLine) (ho : PE X o td) (hi : PE X i ty) (hs : NoSl i) : PE X (.Subscript o i pos) (tDGet td ty) := by
  intro pins s σ H Q I h
  refine subD_of PySem.F.slot_dict_getitem.lookup hs (thn (ho pins s σ H _ I h) fun u s1 ⟨x, H1, I1, rx, q1⟩ => thn (hi pins s1 σ H1 _ I1 q1) fun iv s2 ⟨y, H2, I2, ry, a, v, ex, g, q2⟩ => ?_)
  subst ex
  obtain rfl : u = Value.ref a := rx
  exact ⟨dict_typeIs I2 g, d_getItem hu I2 g ry fun w' s3 I3 rw' => ⟨v, H2, I3, rw', q2⟩⟩
theorem pc_dnotin (hu : X.A.units + 1 < cLine) (hi : PE X i ty) (ho : PE X o td) : PC X .NotIn i o (tDNotIn ty td) := by
  intro pins s σ H Q I h
  refine thn (hi pins s σ H _ I h) fun iv s1 ⟨y, H1, I1, ry, q1⟩ => thn (ho pins s1 σ H1 _ I1 q1) fun u s2 ⟨x, H2, I2, rx, a, ov, ex, g, q2⟩ => ?_
  subst ex
  obtain rfl : u = Value.ref a := rx
  exact d_notIn hu I2 g ry fun s3 I3 => ⟨.bl (!ov.isSome), H2, I3, rfl, q2⟩
theorem ps_dput (hu : X.A.units + 1 < cLine) (ho : PE X o td) (hi : PE X i ty) (hv : PE X value tv) (hs : swapsWith value (some (.Subscript o i pos')) pos.line X.env = pure false) :
    PS X (.Assign [.Subscript o i pos'] value pos) (sDPut td ty tv) := by
  intro pins s σ H D I h
  refine wpAny_Assign_Subscript (thn (hv pins s σ H _ I h) fun r s1 ⟨v, H1, I1, rv, q1⟩ => thn (ho pins s1 σ H1 _ I1 q1) fun u s2 ⟨x, H2, I2, rx, q2⟩ => thn (hi pins s2 σ H2 _ I2 q2) fun iv s3 ⟨y, H3, I3, ry, a, H4, ex, g, q3⟩ => ?_) hs
  subst ex
  obtain rfl : u = Value.ref a := rx
  exact d_setItem hu I3 g ry rv fun s4 I4 => ⟨σ, H4, I4, q3⟩
end
theorem dk_empty {P : Program} {w : World} {H : Hp} (h : Heap) (hb : sysModules < h.objs.size) : ObjOk P w H (h.push { cls := .type "dict", data := .dict #[] }) h.objs.size (.dK []) :=
  ⟨Nat.zero_le _, beq_eq_false_iff_ne.mpr (Ne.symm (Nat.ne_of_lt hb)), [], .nil, Heap.DictOf.new h⟩
def tDNewK : TE := fun _ H Q => ∀ p, H p = none → Q (.ref p) (upd H p (.dK []))
section
variable {X : Cx} {pos : Pos}
theorem pe_dnewK : PE X (.Dict [] [] pos) tDNewK := fun pins s σ H Q I h =>
  wpAny_Dict_empty ⟨.ref s.heap.objs.size, _, I.laid (a := s.heap.objs.size) (o := .dK []) (t' := s.toks) (fun _ _ q => Heap.get?_push_of_some _ q) (Nat.le_refl _) (dk_empty s.heap I.big), rfl, h _ (I.hok.fresh (Nat.le_refl _))⟩
end
end L2
namespace L2
open PySem PySem.Spec PyProof.Rows
section
variable {X : Cx} {pins : List (Addr × Obj)} {σ : St} {H : Hp} {s : Shared} {d : Addr} {kvs : List (Key × V)}
theorem Inv.frz (I : Inv X pins σ H s) (e : H d = some (.dK kvs)) : ∃ o, Inv X pins σ (upd H d (.frz o (.dK kvs))) s := by
  obtain ⟨z, hd, vs, rel, o, es, ep, ho, r⟩ := dk_of I.hok e
  refine ⟨o, ?_⟩
  have ne : ∀ b u, H b = some u → u ≠ .dK kvs → b ≠ d := fun b u q n => ne_of q e n
  refine I.step (h' := s.heap) (g' := s.gens) (d' := s.drawn) (t' := s.toks) (ch := []) (fun b hb => nomatch hb) (fun b o _ _ _ q _ => q) (fun b o _ _ _ q _ => ⟨o.slots, q⟩)
    (fun b o _ q n => by rw [upd_ne (ne_of_none e n).symm]; exact n) (fun b o _ q => ⟨o, q⟩) (fun b zs q => by rw [upd_ne (ne b _ q (by simp))]; exact q) (fun b o u q => by rw [upd_ne (ne b _ q (by simp))]; exact q)
    (fun b ps q => ⟨#[], by rw [upd_ne (ne b _ q (by simp)), q]; simp⟩) (fun m hm => hm) (fun b u q => ?_) I.bare
  by_cases hb : b = d
  · subst hb; rw [upd_same] at q; cases q
    exact ⟨ho, (show ObjOk X.prog X.w _ s.heap b (.dK kvs) from ⟨z, hd, vs, rel, o, es, ep, ho, r⟩)⟩
  · rw [upd_ne hb] at q
    exact (I.hok b u q).stay (fun _ _ _ q2 => q2) (fun c' q2 => by rw [upd_ne (ne c' _ q2 (by simp))]; exact q2) fun c' zs q2 => by rw [upd_ne (ne c' _ q2 (by simp))]; exact q2
end
def tFrz (t : TE) : TE := fun σ H Q => t σ H fun v H1 => ∃ d kvs, H1 d = some (.dK kvs) ∧ ∀ o, Q v (upd H1 d (.frz o (.dK kvs)))
theorem pe_frz {X : Cx} {e : Expr} {t : TE} (h : PE X e t) : PE X e (tFrz t) := fun pins s σ H Q I q => thn (h pins s σ H _ I q) fun u s1 ⟨v, H1, I1, r, d, kvs, e, k⟩ =>
  let ⟨o, I2⟩ := I1.frz e
  ⟨v, _, I2, r, k o⟩
theorem kV_of {P : Program} {w : World} {k : Key} {u : Value} (h : (mixKind P w).is k u = true) : RelV (kV k) u := by
  rcases keyIs_shape (show keyIs k u = true from h) with ⟨i, t, rfl, rfl⟩ | ⟨x, t, rfl, rfl⟩
  · exact ⟨t, rfl⟩
  · exact ⟨t, rfl⟩
theorem vals_of {P : Program} {w : World} : ∀ {kvs : List (Key × V)} {vs : List (Key × Value)} {us : List Value}, KV kvs vs → us.length = vs.length → (∀ (j : Nat) (v : Value), us[j]? = some v → ∃ k x, vs[j]? = some (k, x) ∧ (mixKind P w).is k v = true) →
    Vals (kvs.map fun kv => kV kv.1) us
  | [], _, [], .nil, _, _ => .nil
  | _, _, u :: us, .cons (a := p) (b := q) h t, hl, hk => by
    obtain ⟨k, x, e, hi⟩ := hk 0 u rfl
    have e' : q = (k, x) := by simpa using e
    refine .cons ?_ (vals_of t (by simpa using hl) fun j v e2 => by simpa using hk (j + 1) v (by simpa using e2))
    have hh := h.1
    subst e'
    show RelV (kV p.1) u
    rw [hh]
    exact kV_of hi
  | _, _, [], .cons _ _, hl, _ => by simp at hl
  | [], _, _ :: _, .nil, hl, _ => by simp at hl
section
variable {X : Cx}
theorem call_list_dict (hc : X.calm = true) : CallR X (.type "list") (fun xs H Q => ∃ p kvs, xs = [.ref p] ∧ Rd H p (.dK kvs) ∧ ∀ l, H l = none → Q (.ref l) (upd H l (.lst (kvs.map fun kv => kV kv.1)))) := by
  intro pins s σ H xs us Q I r h
  obtain ⟨p, kvs, rfl, hq, q⟩ := h
  obtain ⟨u, rfl, rx⟩ := vals1 r
  cases rx
  obtain ⟨z, hd, vs, rel, dd⟩ := dk_rd I.hok hq
  obtain ⟨ep, da⟩ := dd.dictAt
  have hl := rel.length
  refine PySem.W.kdl_call (PySem.W.kdl_dict (knd := mixKind X.prog X.w) (ep := ep) hd) (I.ok.hd hc) da (by rw [← hl]; exact z) fun h' tk acc' c' hk e hi => ?_
  have rv : Vals (kvs.map fun kv => kV kv.1) acc'.toList := vals_of rel (by rw [Array.length_toList]; exact hi.1) fun j v e2 => hi.2 j v (by rw [← Array.getElem?_toList]; exact e2)
  exact ⟨.ref s.heap.objs.size, _, I.laid (t' := tk) hk (Nat.le_refl _) (show ObjOk X.prog X.w _ h' _ (.lst _) from ⟨by rw [List.length_map]; exact z, acc'.toList, c', rv, by rw [e]⟩), rfl, q _ (I.hok.fresh (Nat.le_refl _))⟩
def Iti (d : Addr) (ob : Obj) : It :=
  ⟨fun i H => ∃ kvs kv, H d = some (.frz ob (.dK kvs)) ∧ kvs[i]? = some kv,
   fun i H v H' => ∃ T kv kvs, v = .ref T ∧ H T = none ∧ H' = upd H T (.tup [kV kv.1, kv.2]) ∧ H d = some (.frz ob (.dK kvs)) ∧ kvs[i]? = some kv,
   fun i H => ∃ kvs, H d = some (.frz ob (.dK kvs)) ∧ kvs.length ≤ i⟩
theorem frz_at {pins : List (Addr × Obj)} {σ : St} {H : Hp} {s : Shared} {d : Addr} {kvs : List (Key × V)} {ob : Obj} {es : Array DictEntry} {ep : Nat} (I : Inv X pins σ H s) (e : H d = some (.frz ob (.dK kvs))) (eo : ob.data = .dict es ep) :
    ∃ vs, KV kvs vs ∧ s.heap.DictAt (mixKind X.prog X.w) d vs ep ∧ vs.length = es.size := by
  obtain ⟨h1, z, hd, vs, rel, o, es', ep', ho, hx, hdat, hk, hp, hn⟩ := (show ObjOk X.prog X.w H s.heap d (.frz ob (.dK kvs)) from I.hok d _ e)
  rw [h1] at ho
  cases ho
  rw [eo] at hdat
  cases hdat
  exact ⟨vs, rel, ⟨ob, es, h1, hx, eo, hk, hp, hn⟩, by rw [← hp.length]; simp⟩
theorem KV.get : ∀ {kvs : List (Key × V)} {vs : List (Key × Value)} {i : Nat} {kv : Key × V}, KV kvs vs → kvs[i]? = some kv → ∃ u, vs[i]? = some (kv.1, u) ∧ RelV kv.2 u
  | _, _, 0, _, .cons (b := q) h _, e => by
    simp at e; subst e
    exact ⟨q.2, by rw [h.1]; rfl, h.2⟩
  | _, _, i + 1, kv, .cons _ t, e => by
    obtain ⟨u, h1, h2⟩ := KV.get (i := i) (kv := kv) t (by simpa using e)
    exact ⟨u, by simpa using h1, h2⟩
  | _, _, _, _, .nil, e => by simp at e
theorem turn_items {P : Program} {w : World} {K : PySem.W.Frag} {elts : List Expr} {k : Nat} {pos : Pos} (it d : Addr) (ob : Obj) (es : Array DictEntry) (ep : Nat) (eo : ob.data = .dict es ep) (hne : d ≠ it) :
    Turn P w K (.Tuple elts k pos) (Iti d ob) [it] it (fun i h => ∃ ok ov, IsItemIter h it d i es.size ep ok ov) where
  mem := by simp
  obj := fun i h st b hb => by
    obtain ⟨ok, ov, hz⟩ := st
    have e : b = it := by simpa using hb
    subst e
    exact ⟨_, hz, fun v q => by have q' : Data.fields _ = Data.cell v := q; cases q'⟩
  keep := fun i h h' st kk => by
    obtain ⟨ok, ov, hz⟩ := st
    exact ⟨ok, ov, kk it (by simp) _ hz⟩
  item := by
    intro X hP hw hK hc i pins s σ H E I hf st hg
    subst hP hw hK
    obtain ⟨kvs, kv, hq1, hx⟩ := hg
    obtain ⟨ok, ov, hz⟩ := st
    obtain ⟨vs, rel, da, hl⟩ := frz_at I hq1 eo
    obtain ⟨u1, hu1, ru1⟩ := rel.get hx
    rw [← hl] at hz
    refine wpAny_pyNext_items_item (knd := mixKind X.prog X.w) hz da hu1 fun key h' hkey a1 a2 a3 hk => ?_
    have nfp : H it = none := (hf it (by simp)).1
    have hT : H s.heap.objs.size = none := I.hok.fresh (Nat.le_refl _)
    have fne : ∀ b o, s.heap.get? b = some o → b ≠ s.heap.objs.size := fun b o q => Nat.ne_of_lt (Heap.lt_size q)
    have lz : it ≠ s.heap.objs.size := fne _ _ hz
    refine ⟨.ref s.heap.objs.size, rfl, wpAny_letOwnedTupleGo_items a1 fun h'' hz'' hs'' => ?_⟩
    have up : ∀ b o, b ≠ it → h'.get? b = some o → h''.get? b = some o := fun b o hb q => hs''.extBut _ _ hb q
    have tnew : ObjOk X.prog X.w (upd H s.heap.objs.size (.tup [kV kv.1, kv.2])) h'' s.heap.objs.size (.tup [kV kv.1, kv.2]) :=
      ⟨by show 2 ≤ sizeLine; decide, [key, u1], .cons (kV_of hkey) (.cons ru1 .nil), ⟨_, up _ _ (Ne.symm lz) a2, rfl, _, rfl⟩⟩
    have neT : ∀ b u, H b = some u → b ≠ s.heap.objs.size := fun b u q => ne_of_none q hT
    have nit : ∀ b u, H b = some u → b ≠ it := fun b u q => ne_of_none q nfp
    have keepAll : ∀ b o, b ≠ it → s.heap.get? b = some o → h''.get? b = some o := fun b o hb q => up b o hb (hk b o hb q)
    have I2 : Inv X pins σ (upd H s.heap.objs.size (.tup [kV kv.1, kv.2])) { s with heap := h'', toks := s.toks } := by
      refine I.step (g' := s.gens) (d' := s.drawn) (t' := s.toks) (ch := [it]) (fun b hb => ?_) (fun b o _ _ hc q _ => keepAll b o (fun z => hc (by simp [z])) q) (fun b o _ _ hc q _ => ⟨o.slots, keepAll b o (fun z => hc (by simp [z])) q⟩)
        (fun b o _ q n => by rw [upd_ne (fne b o q)]; exact n) (fun b o hc q => ⟨o, keepAll b o (fun z => hc (by simp [z])) q⟩) (fun b zs q => by rw [upd_ne (neT b _ q)]; exact q) (fun b o u q => by rw [upd_ne (neT b _ q)]; exact q)
        (fun b ps q => ⟨#[], by rw [upd_ne (neT b _ q), q]; simp⟩) (fun m hm => ?_) (fun b u q => ?_) I.bare
      · obtain ⟨f0, f1, f2, f3, f4, f5⟩ := hf b hb
        exact ⟨f3, f1, f4, f5⟩
      · obtain ⟨o, es, ep, ho, r⟩ := hm
        exact ⟨o, es, ep, keepAll _ o (Ne.symm (hf it (by simp)).2.1) ho, r⟩
      · by_cases hb : b = s.heap.objs.size
        · subst hb; rw [upd_same] at q; cases q; exact tnew
        · rw [upd_ne hb] at q
          refine (I.hok b u q).stay (fun c' v hc' q2 => keepAll c' v ?_ q2) (fun c' q2 => by rw [upd_ne (neT c' _ q2)]; exact q2) fun c' zs q2 => by rw [upd_ne (neT c' _ q2)]; exact q2
          rcases hc' with z' | z'
          · rw [z']; exact nit b u q
          · exact nit c' _ z'
    refine ⟨.ref s.heap.objs.size, upd H s.heap.objs.size (.tup [kV kv.1, kv.2]), I2, rfl, ⟨s.heap.objs.size, kv, kvs, rfl, hT, rfl, hq1, hx⟩, ⟨_, _, by rw [← hl]; exact hz''⟩, fun b hb => ?_⟩
    have e : b = it := by simpa using hb
    subst e
    rw [upd_ne lz]; exact nfp
  done := by
    intro X hP hw hK hc i pins s σ H E I hf st hg
    subst hP hw hK
    obtain ⟨kvs, hq1, hx⟩ := hg
    obtain ⟨ok, ov, hz⟩ := st
    obtain ⟨vs, rel, da, hl⟩ := frz_at I hq1 eo
    have l1 := rel.length
    rw [← hl] at hz
    refine wpAny_pyNext_items_end (knd := mixKind X.prog X.w) (I.ok.hd hc) hz da (by simp; (first | lia | omega)) fun h' hk => ⟨rfl, ?_⟩
    obtain ⟨f0, f1, f2, f3, f4, f5⟩ := hf it (by simp)
    exact I.turned (t' := s.toks) (fun b o hb q => hk b o hb q) f0 f1 f3 f4 f5
  self := fun _ _ s _ _ st h => by
    obtain ⟨ok, ov, hz⟩ := st
    exact PySem.W.kcp_self hz h
def iItems (t : TE) : TI := fun σ H R => t σ H fun x H1 => ∃ d ob kvs, x = .ref d ∧ H1 d = some (.frz ob (.dK kvs)) ∧ R (Iti d ob) H1
theorem pi_items {elts : List Expr} {k : Nat} {tp : Pos} {o : Expr} {t : TE} {apos cpos : Pos} (ho : PE X o t) (hbase : attributeBase o "items" X.env (eval o X.env) = eval o X.env := by rfl) (hline : (apos.endLine == cpos.line) = true := by rfl) :
    PI X (.Tuple elts k tp) (.Call (.Attribute o "items" apos) [] [] cpos) (iItems t) := by
  intro pins s σ H R I h
  refine wpAny_Call_method0_late hbase hline (thn (ho pins s σ H _ I h) fun v s1 ⟨x, H1, I1, r1, d, ob, kvs, ex, hd, q⟩ => ?_)
  subst ex
  cases r1
  obtain ⟨h1, z, hs, vs, rel, dd⟩ := (show ObjOk X.prog X.w H1 s1.heap d (.frz ob (.dK kvs)) from I1.hok d _ hd)
  refine ⟨"dict", "dict.items", PySem.F.plainAttrs_dict, PySem.F.slot_dict_items, PySem.F.type_dict_items, dd.typeIs, dd.mapOf.noDict, Calls.callWith_builtin rfl (PySem.evalArgs_none ?_)⟩
  refine call_meetsIn PySem.F.slot_dict_items dd.typeIs PySem.F.entry_dict_items (PySem.F.args_dict_items_1 _) (meets_dict_items (mixKind X.prog X.w) d hs) ⟨⟨vs, dd⟩, ?_⟩
  obtain ⟨o', es, ep, ho', hx, hdat, hk, hp, hn⟩ := id dd
  rw [h1] at ho'
  cases ho'
  have da : s1.heap.DictAt (mixKind X.prog X.w) d vs ep := ⟨ob, es, h1, hx, hdat, hk, hp, hn⟩
  have hsz : vs.length = es.size := by rw [← hp.length]; simp
  refine wpAny_pyIter_items (knd := mixKind X.prog X.w) (d := d) (kvs := vs) (ep := ep) ⟨_, Heap.get?_push_size _ rfl, rfl, rfl⟩ (da.push _) ?_
  have e1 : (s1.heap.push { cls := .type "dict_items", data := .fields #[.ref d] }).objs.size = s1.heap.objs.size + 1 := Heap.size_push ..
  have kp : ∀ b u, s1.heap.get? b = some u → ((s1.heap.push { cls := .type "dict_items", data := .fields #[.ref d] }).push { cls := .type "dict_itemiterator", data := .fields #[.none, .bool false, .ref d, .int 0 0, .int vs.length 0, .int ep 0, .none, .none] }).get? b = some u :=
    fun b u e => Heap.get?_push_of_some _ (Heap.get?_push_of_some _ e)
  refine ⟨_, [_], _, Iti d ob, H1, rfl, I1.kept (t' := s1.toks) kp, turn_items _ d ob es ep hdat ?_, ⟨.none, .none, ?_⟩, fun b hb => ?_, q⟩
  · show d ≠ (s1.heap.push _).objs.size
    rw [e1]; exact Nat.ne_of_lt (Nat.lt_succ_of_lt da.lt_size)
  · rw [← hsz]; exact Heap.get?_push_size _ rfl
  · have e : b = (s1.heap.push { cls := .type "dict_items", data := .fields #[.ref d] }).objs.size := by simpa using hb
    have hb' : s1.heap.objs.size ≤ b := by rw [e, e1]; exact Nat.le_succ _
    exact I1.fpOk hb' (I1.hok.fresh hb')
end
theorem for_items {d : Addr} {ob : Obj} {kvs : List (Key × V)} {g : TG} {tb : TS} {D : Ends} {σ : St} {H : Hp} (Pv : Nat → St → Hp → Prop) (h0 : Pv 0 σ H) (hl : ∀ i σ H, i ≤ kvs.length → Pv i σ H → H d = some (.frz ob (.dK kvs)))
    (hs : ∀ i kv σ H T, kvs[i]? = some kv → Pv i σ H → H T = none → g (.ref T) σ (upd H T (.tup [kV kv.1, kv.2])) fun σ2 H2 => tb { D with nx := Pv (i + 1), ct := Pv (i + 1), bk := D.nx } σ2 H2) (hd : ∀ σ H, Pv kvs.length σ H → D.nx σ H) :
    ∃ W : Nat → Nat → St → Hp → Prop, (∃ m, W 0 m σ H) ∧ ∀ i m σ H, W i m σ H →
      ((Iti d ob).stop i H ∧ D.nx σ H) ∨ ((Iti d ob).go i H ∧ ∃ N : St → Hp → Prop, (∀ σ' H', N σ' H' → ∃ m', m' < m ∧ W (i + 1) m' σ' H') ∧ ∀ x H', (Iti d ob).yld i H x H' → g x σ H' fun σ2 H2 => tb { D with nx := N, ct := N, bk := D.nx } σ2 H2) := by
  refine ⟨fun i m σ H => m = kvs.length - i ∧ i ≤ kvs.length ∧ Pv i σ H, ⟨kvs.length, by simp, Nat.zero_le _, h0⟩, ?_⟩
  rintro i m σ H ⟨rfl, hi, p⟩
  have q1 := hl i σ H hi p
  by_cases hlt : i < kvs.length
  · refine .inr ⟨⟨kvs, kvs[i], q1, by simp [hlt]⟩, Pv (i + 1), fun σ' H' p' => ⟨kvs.length - (i + 1), by (first | lia | omega), rfl, hlt, p'⟩, fun x H' yy => ?_⟩
    obtain ⟨T, kv, kvs', e, hT, e2, hq, hx⟩ := yy
    subst e e2
    rw [q1] at hq
    cases hq
    exact hs i kv σ H T hx p hT
  · have e : i = kvs.length := by (first | lia | omega)
    subst e
    exact .inl ⟨⟨kvs, q1, Nat.le_refl _⟩, hd σ H p⟩
theorem comp_items {d : Addr} {ob : Obj} {kvs : List (Key × V)} {g : TG} {te : TE} {own : List Str} {fr : List (Str × Nat)} {σ : St} {Q : VK} {H1 : Hp} {D : Addr} (Pv : Nat → List V → Hp → Prop) (h0 : Pv 0 [] (upd H1 D (.lst [])))
    (hD : ∀ i ys H, i ≤ kvs.length → Pv i ys H → H D = some (.lst ys) ∧ ys.length < sizeLine ∧ H d = some (.frz ob (.dK kvs)))
    (hs : ∀ i kv ys H T, kvs[i]? = some kv → Pv i ys H → H T = none → g (.ref T) (stC own fr σ) (upd H T (.tup [kV kv.1, kv.2])) fun σ2 H2 => te σ2 H2 fun y H3 => H3 D = some (.lst ys) ∧ Pv (i + 1) (ys ++ [y]) (upd H3 D (.lst (ys ++ [y]))))
    (hd : ∀ ys H, Pv kvs.length ys H → Q (.ref D) H) :
    ∃ W : Nat → Nat → List V → Hp → Prop, (∃ m, W 0 m [] (upd H1 D (.lst []))) ∧ ∀ i m ys H, W i m ys H → H D = some (.lst ys) ∧
      (((Iti d ob).stop i H ∧ Q (.ref D) H) ∨ ((Iti d ob).go i H ∧ ys.length < sizeLine ∧ ∃ N : VK, (∀ y H3, N y H3 → H3 D = some (.lst ys) ∧ ∃ m', m' < m ∧ W (i + 1) m' (ys ++ [y]) (upd H3 D (.lst (ys ++ [y])))) ∧ ∀ x H', (Iti d ob).yld i H x H' → g x (stC own fr σ) H' fun σ2 H2 => te σ2 H2 N)) := by
  refine ⟨fun i m ys H => m = kvs.length - i ∧ i ≤ kvs.length ∧ Pv i ys H, ⟨kvs.length, by simp, Nat.zero_le _, h0⟩, ?_⟩
  rintro i m ys H ⟨rfl, hi, p⟩
  obtain ⟨hd1, hd2, hd3⟩ := hD i ys H hi p
  refine ⟨hd1, ?_⟩
  by_cases hlt : i < kvs.length
  · refine .inr ⟨⟨kvs, kvs[i], hd3, by simp [hlt]⟩, hd2, fun y H3 => H3 D = some (.lst ys) ∧ Pv (i + 1) (ys ++ [y]) (upd H3 D (.lst (ys ++ [y]))), fun y H3 q3 => ⟨q3.1, kvs.length - (i + 1), by (first | lia | omega), rfl, hlt, q3.2⟩, fun x H' y => ?_⟩
    obtain ⟨T, kv, kvs', e, hT, e2, hq, hx⟩ := y
    subst e e2
    rw [hd3] at hq
    cases hq
    exact hs i kv ys H T hx p hT
  · have e : i = kvs.length := by (first | lia | omega)
    subst e
    exact .inl ⟨⟨kvs, hd3, Nat.le_refl _⟩, hd ys H p⟩
theorem comp_enum {K : PySem.W.Frag} {a : Addr} {xs : List V} {g : TG} {te : TE} {own : List Str} {fr : List (Str × Nat)} {σ : St} {Q : VK} {H1 : Hp} {D : Addr} (Pv : Nat → List V → Hp → Prop) (h0 : Pv 0 [] (upd H1 D (.lst [])))
    (hD : ∀ i ys H, i ≤ xs.length → Pv i ys H → H D = some (.lst ys) ∧ ys.length < sizeLine ∧ SqL K H a xs)
    (hs : ∀ i x ys H T, xs[i]? = some x → Pv i ys H → H T = none → g (.ref T) (stC own fr σ) (upd H T (.tup [.int i, x])) fun σ2 H2 => te σ2 H2 fun y H3 => H3 D = some (.lst ys) ∧ Pv (i + 1) (ys ++ [y]) (upd H3 D (.lst (ys ++ [y]))))
    (hd : ∀ ys H, Pv xs.length ys H → Q (.ref D) H) :
    ∃ W : Nat → Nat → List V → Hp → Prop, (∃ m, W 0 m [] (upd H1 D (.lst []))) ∧ ∀ i m ys H, W i m ys H → H D = some (.lst ys) ∧
      (((Itn K a).stop i H ∧ Q (.ref D) H) ∨ ((Itn K a).go i H ∧ ys.length < sizeLine ∧ ∃ N : VK, (∀ y H3, N y H3 → H3 D = some (.lst ys) ∧ ∃ m', m' < m ∧ W (i + 1) m' (ys ++ [y]) (upd H3 D (.lst (ys ++ [y])))) ∧ ∀ x H', (Itn K a).yld i H x H' → g x (stC own fr σ) H' fun σ2 H2 => te σ2 H2 N)) := by
  refine ⟨fun i m ys H => m = xs.length - i ∧ i ≤ xs.length ∧ Pv i ys H, ⟨xs.length, by simp, Nat.zero_le _, h0⟩, ?_⟩
  rintro i m ys H ⟨rfl, hi, p⟩
  obtain ⟨hd1, hd2, hd3⟩ := hD i ys H hi p
  refine ⟨hd1, ?_⟩
  by_cases hlt : i < xs.length
  · refine .inr ⟨⟨xs, xs[i], hd3, by simp [hlt]⟩, hd2, fun y H3 => H3 D = some (.lst ys) ∧ Pv (i + 1) (ys ++ [y]) (upd H3 D (.lst (ys ++ [y]))), fun y H3 q3 => ⟨q3.1, xs.length - (i + 1), by (first | lia | omega), rfl, hlt, q3.2⟩, fun x H' y => ?_⟩
    obtain ⟨T, x1, e, hT, e2, all⟩ := y
    subst e e2
    exact hs i x1 ys H T (all xs hd3) p hT
  · have e : i = xs.length := by (first | lia | omega)
    subst e
    exact .inl ⟨⟨xs, hd3, Nat.le_refl _⟩, hd ys H p⟩
theorem comp_zip {K : PySem.W.Frag} {a b : Addr} {xs ys' : List V} {g : TG} {te : TE} {own : List Str} {fr : List (Str × Nat)} {σ : St} {Q : VK} {H1 : Hp} {D : Addr} (Pv : Nat → List V → Hp → Prop) (h0 : Pv 0 [] (upd H1 D (.lst [])))
    (hD : ∀ i ys H, i ≤ min xs.length ys'.length → Pv i ys H → H D = some (.lst ys) ∧ ys.length < sizeLine ∧ SqL K H a xs ∧ SqL K H b ys')
    (hs : ∀ i x y ys H T, xs[i]? = some x → ys'[i]? = some y → Pv i ys H → H T = none → g (.ref T) (stC own fr σ) (upd H T (.tup [x, y])) fun σ2 H2 => te σ2 H2 fun y H3 => H3 D = some (.lst ys) ∧ Pv (i + 1) (ys ++ [y]) (upd H3 D (.lst (ys ++ [y]))))
    (hd : ∀ ys H, Pv (min xs.length ys'.length) ys H → Q (.ref D) H) :
    ∃ W : Nat → Nat → List V → Hp → Prop, (∃ m, W 0 m [] (upd H1 D (.lst []))) ∧ ∀ i m ys H, W i m ys H → H D = some (.lst ys) ∧
      (((Itz K a b).stop i H ∧ Q (.ref D) H) ∨ ((Itz K a b).go i H ∧ ys.length < sizeLine ∧ ∃ N : VK, (∀ y H3, N y H3 → H3 D = some (.lst ys) ∧ ∃ m', m' < m ∧ W (i + 1) m' (ys ++ [y]) (upd H3 D (.lst (ys ++ [y])))) ∧ ∀ x H', (Itz K a b).yld i H x H' → g x (stC own fr σ) H' fun σ2 H2 => te σ2 H2 N)) := by
  refine ⟨fun i m ys H => m = min xs.length ys'.length - i ∧ i ≤ min xs.length ys'.length ∧ Pv i ys H, ⟨min xs.length ys'.length, by simp, Nat.zero_le _, h0⟩, ?_⟩
  rintro i m ys H ⟨rfl, hi, p⟩
  obtain ⟨hd1, hd2, hd3, hd4⟩ := hD i ys H hi p
  refine ⟨hd1, ?_⟩
  by_cases hlt : i < min xs.length ys'.length
  · have l1 : i < xs.length := by (first | lia | omega)
    have l2 : i < ys'.length := by (first | lia | omega)
    refine .inr ⟨⟨xs, ys', xs[i], ys'[i], hd3, hd4, by simp [l1], by simp [l2]⟩, hd2, fun y H3 => H3 D = some (.lst ys) ∧ Pv (i + 1) (ys ++ [y]) (upd H3 D (.lst (ys ++ [y]))), fun y H3 q3 => ⟨q3.1, min xs.length ys'.length - (i + 1), by (first | lia | omega), rfl, hlt, q3.2⟩, fun x H' y => ?_⟩
    obtain ⟨T, x1, y1, e, hT, e2, all⟩ := y
    subst e e2
    obtain ⟨e3, e4⟩ := all xs ys' hd3 hd4
    exact hs i x1 y1 ys H T e3 e4 p hT
  · have e : i = min xs.length ys'.length := by (first | lia | omega)
    subst e
    exact .inl ⟨⟨xs, ys', hd3, hd4, by (first | lia | omega)⟩, hd ys H p⟩
end L2
namespace L2
open PySem PySem.Spec PyProof.Rows
section
variable {X : Cx} {sc : Scope} {cl : List (Str × Addr)} {N : List Str} {C : Addr} {s0 : Shared} {H0 : Hp} {fp : List Addr} {pins0 : List (Addr × Obj)}
theorem op_fdivC (hst : X.stack = X.env :: X.outer) (hgn : X.env.scope.isGenerator = false) (hco : X.env.scope.isCoroutine = false) (ht : X.prog.given.tree = none) (hd : X.A.depth + 100 < recursionLimit) :
    OpR (cxC X sc cl N C s0 H0 fp pins0) (binaryOp .FloorDiv) (rI (fun _ j => j ≠ 0) fun i j => .int (i.fdiv j)) := by
  intro pins s σ H x y v u Q I rx ry h
  obtain ⟨i, j, rfl, rfl, hc, q⟩ := onII.ex h
  obtain ⟨t, rfl⟩ := rx
  obtain ⟨t', rfl⟩ := ry
  exact floordiv_int hc ⟨.int (i.fdiv j), H, I.tok _, ⟨_, rfl⟩, q⟩ (.inr (PylongRoom.of I.nolimit hd (SeerAt.of (env := X.env) (l := X.outer) I.seer ht (I.ok.frames.trans (by show some X.stack = _; rw [hst])) hgn hco (show X.env.builtins = builtinsNs from I.ok.blt) (show X.env.globals = mainGlobals from I.ok.glob))))
theorem peC_fld {e : Expr} {f : Str} {pos : Pos} {ta : TE} (he : PE (cxC X sc cl N C s0 H0 fp pins0) e ta) (hb : attributeBase e f (compEnvC sc cl C X.env) (eval e (compEnvC sc cl C X.env)) = eval e (compEnvC sc cl C X.env)) : PE (cxC X sc cl N C s0 H0 fp pins0) (.Attribute e f pos) (tFld X.K ta f) := pe_fld he hb
end
end L2
namespace L2
open PySem PySem.Spec PyProof.Rows
section
variable {X : Cx}
theorem op_neT (hu : X.A.units < cLine) : OpR X (compareOp .NotEq) (fun x y H Q => ∃ (a b : Addr) (ns ms : List Int), x = .ref a ∧ y = .ref b ∧ SqT X.K H a (ns.map V.int) ∧ SqT X.K H b (ms.map V.int) ∧ Q (.bl (!decide (ns = ms))) H) := by
  intro pins s σ H x y v u Q I rx ry h
  obtain ⟨a, b, ns, ms, rfl, rfl, ha, hb, q⟩ := h
  cases rx
  cases ry
  obtain ⟨its, r1, p1, _⟩ := I.tuple ha
  obtain ⟨its2, r2, p2, _⟩ := I.tuple hb
  have i1 : IntsAre its ns := intsAre_of r1
  have i2 : IntsAre its2 ms := intsAre_of r2
  have l1 := i1.length
  have l2 := i2.length
  refine SeqAt.RcNeAt.tuples (e := fun j => ns.getD j 0 == ms.getD j 0) p1 p2 hu (fun j h1 h2 => ?_) _ _ _ _ ⟨.bl (!decide (ns = ms)), H, I, ?_, q⟩
  · obtain ⟨t1, e1⟩ := intsAre_get j i1 (by simpa using h1)
    obtain ⟨t2, e2⟩ := intsAre_get j i2 (by simpa using h2)
    have e1' : its.toArray[j] = .int (ns.getD j 0) t1 := by simpa using e1
    have e2' : its2.toArray[j] = .int (ms.getD j 0) t2 := by simpa using e2
    rw [e1', e2']
    exact SeqAt.EqAt.int_int _ _ _ _
  · have k1 : its.toArray.size = ns.length := by simp; (first | lia | omega)
    have k2 : its2.toArray.size = ms.length := by simp; (first | lia | omega)
    show Value.bool _ = Value.bool _
    rw [k1, k2]
    congr 1
    by_cases hl : ns.length = ms.length
    · rw [← hl, Nat.min_self, all_eq_ints ns ms hl]; simp
    · have e1 : (ns.length == ms.length) = false := by simpa using hl
      have e2 : decide (ns = ms) = false := decide_eq_false fun z => hl (by rw [z])
      rw [e1, e2, Bool.and_false]
end
end L2
namespace L2
open PySem PySem.Spec PyProof.Rows
section
variable {prog : Program} {w : World} {A : Around} {R : Result → Shared → Prop} {s : Shared}
theorem compLoop_if {elt target iter cnd : Expr} {scope : Scope} {pos : Pos} {it acc : Value} {env : Env} (I : Nat → Shared → Prop)
    (turn : ∀ n s, I n s → wpAny (model prog w) A (pyNext it) (fun r s₁ => match r with
      | none => R (.ok .next) s₁
      | some v => wpAny (model prog w) A (letOwnedTupleGo target it v) (fun _ s₁' => wpAny (model prog w) A (assign target env v) (fun _ s₂ => wpAny (model prog w) A (isTrue cnd env (eval cnd env)) (fun b s₂' => if b = true then wpAny (model prog w) A (eval elt env) (fun x s₃ =>
          wpAny (model prog w) A (call (.builtin "list.append") [acc, x]) (fun _ s₄ => ∃ m, m < n ∧ I m s₄) (fun _ _ => False) s₃) (fun _ _ => False) s₂' else ∃ m, m < n ∧ I m s₂') (fun _ _ => False) s₂) (fun _ _ => False) s₁') (fun _ _ => False) s₁) (fun _ _ => False) s)
    (n : Nat) (h : I n s) :
    codeAny (model prog w) A (.compLoop (.ListComp elt [⟨target, iter, [cnd], 0⟩] scope pos) 0 it acc env) R s := by
  refine codeAny_loop rfl I (fun n s hI => ?_) n h
  show wpAny _ _ ((compTurn (.ListComp elt [⟨target, iter, [cnd], 0⟩] scope pos) 0 it acc env).onRaise (fun x => do noteFrame x env; theTreesLotGoes x)) _ _ s
  refine wpAny_noted ?_
  rw [compTurn_list]
  refine wpAny_bind (wpAny_standAt (wpAny_bind (wpAny_mono (turn n s hI) (fun r s₁ h₁ => ?_) fun _ _ h' => False.elim h')))
  cases r with
  | none => exact wpAny_pure h₁
  | some v =>
    refine wpAny_bind (wpAny_mono h₁ (fun _ s₁' h₁' => ?_) fun _ _ h' => False.elim h')
    refine wpAny_bind (wpAny_mono h₁' (fun _ s₂ h₂ => ?_) fun _ _ h' => False.elim h')
    refine wpAny_bind (wpAny_tests_one (wpAny_mono h₂ (fun b s₂' hb => ?_) fun _ _ h' => False.elim h'))
    cases b with
    | true =>
      refine wpAny_ite_split (fun _ => ?_) (fun z => absurd rfl z)
      exact wpAny_bind (wpAny_bind (wpAny_mono (show _ from hb) (fun x s₃ h₃ => wpAny_bind (wpAny_mono h₃ (fun _ s₄ h₄ => wpAny_pure (wpAny_pure ⟨rfl, h₄⟩)) fun _ _ h' => False.elim h')) fun _ _ h' => False.elim h'))
    | false =>
      refine wpAny_ite_split (fun z => nomatch z) (fun _ => ?_)
      exact wpAny_pure ⟨rfl, (show _ from hb)⟩
end
def tCompF (wi : TI) (g : TG) (own : List Str) (fr : List (Str × Nat)) (tc : TT) (te : TE) : TE := fun σ H Q => wi σ H fun J H1 => ∀ D, H1 D = none →
  ∃ W : Nat → Nat → List V → Hp → Prop, (∃ m, W 0 m [] (upd H1 D (.lst []))) ∧ ∀ i m ys H, W i m ys H → H D = some (.lst ys) ∧
    ((J.stop i H ∧ Q (.ref D) H) ∨ (J.go i H ∧ ys.length < sizeLine ∧ ∃ (N : VK) (N0 : Hp → Prop), (∀ y H3, N y H3 → H3 D = some (.lst ys) ∧ ∃ m', m' < m ∧ W (i + 1) m' (ys ++ [y]) (upd H3 D (.lst (ys ++ [y])))) ∧ (∀ H3, N0 H3 → ∃ m', m' < m ∧ W (i + 1) m' ys H3) ∧ ∀ x H', J.yld i H x H' → g x (stC own fr σ) H' fun σ2 H2 => tc σ2 H2 fun b H2' => if b = true then te σ2 H2' N else N0 H2'))
section
variable {X : Cx}
theorem comp_blockF {elt target iter cnd : Expr} {sc : Scope} {pos : Pos} {own : List Str} {fr : List (Str × Nat)} {g : TG} {tc : TT} {te : TE} (hc : X.calm = true) (S : CompSc X sc own fr) (hk : GKeeps own.length g)
    (hg : ∀ cl C s H fp pins, PG (cxC X sc cl (nmC own fr) C s H fp pins) target g) (hcd : ∀ cl C s H fp pins, PT (cxC X sc cl (nmC own fr) C s H fp pins) cnd tc) (he : ∀ cl C s H fp pins, PE (cxC X sc cl (nmC own fr) C s H fp pins) elt te)
    {pins : List (Addr × Obj)} {σ : St} {Q : VK} {itv : Value} {s2 : Shared} {cl : List (Str × Addr)} (hcl1 : ∀ x c, cl.lookup x = some c → X.env.cells.lookup x = some c) (hcl2 : ∀ y ∈ sc.names, y.2 = .free → ∃ c, cl.lookup y.1 = some c)
    {E : Value → Shared → Prop} {RR : Value → Addr → Result → Shared → Prop}
    (h : PIE X pins σ target (fun J H1 => ∀ D, H1 D = none →
      ∃ W : Nat → Nat → List V → Hp → Prop, (∃ m, W 0 m [] (upd H1 D (.lst []))) ∧ ∀ i m ys H, W i m ys H → H D = some (.lst ys) ∧
      ((J.stop i H ∧ Q (.ref D) H) ∨ (J.go i H ∧ ys.length < sizeLine ∧ ∃ (N : VK) (N0 : Hp → Prop), (∀ y H3, N y H3 → H3 D = some (.lst ys) ∧ ∃ m', m' < m ∧ W (i + 1) m' (ys ++ [y]) (upd H3 D (.lst (ys ++ [y])))) ∧ (∀ H3, N0 H3 → ∃ m', m' < m ∧ W (i + 1) m' ys H3) ∧ ∀ x H', J.yld i H x H' → g x (stC own fr σ) H' fun σ2 H2 => tc σ2 H2 fun b H2' => if b = true then te σ2 H2' N else N0 H2'))) itv s2)
    (hRR : ∀ (D C : Addr) (s' : Shared) (H' : Hp) (m : Str → Option Value), s'.heap.Ns C m → Q (.ref D) H' → Inv X pins σ H' s' → FpOk X pins H' C → RR (.ref D) C (.ok .next) s') :
    wpAny (model X.prog X.w) X.A (newList []) (fun acc s3 => wpAny (model X.prog X.w) X.A (newFunctionEnv sc X.env.globals cl [] X.env.qual none .none (some X.env)) (fun cenv s4 =>
      codeAny (model X.prog X.w) X.A (.compStart (.ListComp elt [⟨target, iter, [cnd], 0⟩] sc pos) 0 itv acc { cenv with scope := relabel sc X.env }) (RR acc cenv.locals) s4) E s3) E s2 := by
  obtain ⟨it, fp, tn, J, H1, rfl, I, T, st, hf, hR⟩ := h
  have hfree : H1 s2.heap.objs.size = none := I.hok.fresh (Nat.le_refl _)
  obtain ⟨W, ⟨m0, w0⟩, turn⟩ := hR _ hfree
  refine wpAny_newObj_type ?_ (by show 0 ≤ sizeLine; exact Nat.zero_le _)
  have I3 : Inv X pins σ (upd H1 s2.heap.objs.size (.lst [])) { s2 with heap := s2.heap.push { cls := .type "list", data := .seq ([] : List Value).toArray } } := I.lnew (t' := s2.toks) .nil (Nat.zero_le _)
  generalize hs3 : ({ s2 with heap := s2.heap.push { cls := .type "list", data := .seq ([] : List Value).toArray } } : Shared) = s3 at I3 ⊢
  have hsz3 : s3.heap.objs.size = s2.heap.objs.size + 1 := by rw [← hs3]; exact Heap.size_push ..
  have old3 : ∀ b o, s2.heap.get? b = some o → s3.heap.get? b = some o := fun b o e => by rw [← hs3]; exact Heap.get?_push_of_some _ e
  have fpl : ∀ b ∈ fp, b < s2.heap.objs.size := fun b hb => by
    obtain ⟨o, e, _⟩ := T.obj _ _ st b hb
    exact Heap.lt_size e
  have hf3 : ∀ b ∈ fp, FpOk X pins (upd H1 s2.heap.objs.size (.lst [])) b := fun b hb => by
    obtain ⟨f0, f1⟩ := hf b hb
    exact ⟨by rw [upd_ne (Nat.ne_of_lt (fpl b hb))]; exact f0, f1⟩
  have st3 : tn 0 s3.heap := T.keep _ _ _ st fun b _ o e => old3 b o e
  refine wpAny_newFunctionEnv S.cell (by intro y hy; simp at hy) (fun h4 hns hsb => ?_) S.kind
  have hk4 : ∀ b o, s3.heap.get? b = some o → h4.get? b = some o := fun b o e => hsb.extBut b o (Nat.ne_of_lt (Heap.lt_size e)) (Heap.get?_push_of_some _ e)
  have I4 := inv_comp (tk := s3.toks + ([] : List (Str × Value)).length) I3 S hcl1 hcl2 hf3 (fun b hb => by rw [hsz3]; exact Nat.lt_succ_of_lt (fpl b hb)) hns hk4
  have st4 : tn 0 h4 := T.keep _ _ _ st3 fun b _ o e => hk4 b o e
  -- what is kept of the iterator's objects in the block
  have fpC : ∀ {pins' : List (Addr × Obj)} {H' : Hp}, pins' = [] → (∀ b ∈ fp, H' b = none) → ∀ b ∈ fp, FpOk (cxC X sc cl (nmC own fr) s3.heap.objs.size s3 (upd H1 s2.heap.objs.size (.lst [])) fp pins) pins' H' b := fun {pins' H'} hp hn b hb => by
    subst hp
    obtain ⟨f0, f1, f2, f3, f4, f5⟩ := hf3 b hb
    refine ⟨hn b hb, ?_, fun z => ?_, .inl hb, fun x c e => f4 x c (hcl1 x c e), fun p hp => ?_⟩
    · show b ≠ s3.heap.objs.size
      rw [hsz3]; exact Nat.ne_of_lt (Nat.lt_succ_of_lt (fpl b hb))
    · rcases List.mem_cons.mp (I3.stkSub b z) with q | q
      · exact f1 q
      · exact f2 q
    · have hp : p ∈ (X.pn ++ pins) ++ [] := hp
      rw [List.append_nil] at hp
      exact f5 p hp
  have loop : ∀ s4 : Shared, s4 = { s3 with heap := h4, toks := s3.toks + ([] : List (Str × Value)).length } →
      codeAny (model X.prog X.w) X.A (.compLoop (.ListComp elt [⟨target, iter, [cnd], 0⟩] sc pos) 0 (.ref it) (.ref s2.heap.objs.size) (compEnvC sc cl s3.heap.objs.size X.env)) (RR (.ref s2.heap.objs.size) s3.heap.objs.size) s4 := by
    rintro s4 rfl
    refine compLoop_if (fun n s' => ∃ i ys H', Inv (cxC X sc cl (nmC own fr) s3.heap.objs.size s3 (upd H1 s2.heap.objs.size (.lst [])) fp pins) [] (stC own fr σ) H' s' ∧ tn i s'.heap ∧ (∀ b ∈ fp, H' b = none) ∧ W i n ys H') ?_ m0
      ⟨0, [], _, I4, st4, fun b hb => (hf3 b hb).1, w0⟩
    rintro n s5 ⟨i, ys, H5, I5, st5, fr5, w5⟩
    obtain ⟨hD, tt⟩ := turn i n ys H5 w5
    rcases tt with ⟨stop, q⟩ | ⟨go, hlen, N, N0, hN, hN0, step⟩
    · refine thn (T.done (cxC X sc cl (nmC own fr) s3.heap.objs.size s3 (upd H1 s2.heap.objs.size (.lst [])) fp pins) rfl rfl rfl hc i [] s5 _ H5 _ I5 (fpC rfl fr5) st5 stop) fun r s6 ⟨hr, I6⟩ => ?_
      subst hr
      obtain ⟨m6, n6, _⟩ := I6.loc
      exact hRR _ _ s6 H5 m6 n6 q (I3.ofComp rfl hf3 I6 (.refl ..)) (I3.fpOk (Nat.le_refl _) I6.free)
    · refine thn (T.item (cxC X sc cl (nmC own fr) s3.heap.objs.size s3 (upd H1 s2.heap.objs.size (.lst [])) fp pins) rfl rfl rfl hc i [] s5 _ H5 _ I5 (fpC rfl fr5) st5 go) fun r s6 ⟨u, hr, h6⟩ => ?_
      subst hr
      refine thn h6 fun _ s7 ⟨x, H7, I7, r7, y7, st7, fr7⟩ => ?_
      have I7' := I7.pinned (fpC rfl fr7) (T.obj _ _ st7)
      refine thn (hg _ _ _ _ _ _ _ s7 _ H7 x u _ I7' r7 (hk _ _ _ _ (step x H7 y7))) fun _ s8 ⟨σ8, H8, I8, k8, q8⟩ => ?_
      have fin : ∀ (s10 : Shared) (H10 : Hp) (m' : Nat) (ys' : List V), Inv (cxC X sc cl (nmC own fr) s3.heap.objs.size s3 (upd H1 s2.heap.objs.size (.lst [])) fp pins) ([] ++ pinsAt fp s7.heap) σ8 H10 s10 → W (i + 1) m' ys' H10 → m' < n →
          ∃ m, m < n ∧ ∃ i ys H', Inv (cxC X sc cl (nmC own fr) s3.heap.objs.size s3 (upd H1 s2.heap.objs.size (.lst [])) fp pins) [] (stC own fr σ) H' s10 ∧ tn i s10.heap ∧ (∀ b ∈ fp, H' b = none) ∧ W i m ys H' := by
        intro s10 H10 m' ys' I10 w9 hm
        refine ⟨m', hm, i + 1, ys', _, ?_, T.keep _ _ _ st7 fun b hb o e => (I10.pin (b, o) (List.mem_append_right _ (List.mem_append_right _ (mem_pinsAt hb e)))).1, fun b hb => ?_, w9⟩
        · refine (Inv.weak I10 ?_ ?_).pins_of fun p hp => absurd hp (by simp)
          · have l1 := I10.len
            have l5 := I5.len
            (first | lia | omega)
          · intro j v hj
            by_cases hjo : j < own.length
            · unfold stC at hj
              rw [List.getElem?_append_left (by simpa using hjo), List.getElem?_map] at hj
              cases e : own[j]? with
              | none => rw [e] at hj; cases hj
              | some z => rw [e] at hj; cases hj
            · rw [k8 j (by (first | lia | omega))]
              exact hj
        · obtain ⟨o, e, d⟩ := T.obj _ _ st7 b hb
          exact (I10.pin (b, o) (List.mem_append_right _ (List.mem_append_right _ (mem_pinsAt hb e)))).2.1
      refine thn (hcd _ _ _ _ _ _ _ s8 σ8 H8 _ I8 q8) fun b s8' ⟨H8', I8', q8'⟩ => ?_
      cases b with
      | false =>
        obtain ⟨m', hm, w9⟩ := hN0 H8' (show N0 H8' from q8')
        exact fin s8' H8' m' _ I8' w9 hm
      | true =>
      refine thn (he _ _ _ _ _ _ _ s8' σ8 H8' _ I8' (show te σ8 H8' N from q8')) fun v s9 ⟨y, H9, I9, r9, n9⟩ => ?_
      obtain ⟨hD9, m', hm, w9⟩ := hN y H9 n9
      refine thn (mt_append (X := cxC X sc cl (nmC own fr) s3.heap.objs.size s3 (upd H1 s2.heap.objs.size (.lst [])) fp pins) _ s9 σ8 H9 (.ref s2.heap.objs.size) [y] _ [v]
        (fun _ H => H = upd H9 s2.heap.objs.size (.lst (ys ++ [y]))) I9 rfl (.cons r9 .nil) ⟨ys, hD9, hlen, rfl⟩) fun _ s10 ⟨_, H10, I10, _, e10⟩ => ?_
      subst e10
      exact fin s10 _ m' _ I10 w9 hm
  exact codeAny_compStart_list (loop _ rfl) (T.self _ 0 _ _ _ st4 (loop _ rfl))
theorem ps_compF {i : Nat} {x : Str} {pos' : Pos} {elt target iter cnd : Expr} {sc : Scope} {cpos pos : Pos} (own : List Str) (fr : List (Str × Nat)) {wi : TI} {g : TG} {tc : TT} {te : TE} (hN : X.N.Nodup) (hi' : X.N[i]? = some x) (hx : Loc X.env.scope x)
    (hsw : swapsWith (.ListComp elt [⟨target, iter, [cnd], 0⟩] sc cpos) (some (.Name x pos')) pos.line X.env = pure true)
    (hc : X.calm = true) (S : CompSc X sc own fr) (hi : PI X target iter wi) (hk : GKeeps own.length g)
    (hg : ∀ cl C s H fp pins, PG (cxC X sc cl (nmC own fr) C s H fp pins) target g) (hcd : ∀ cl C s H fp pins, PT (cxC X sc cl (nmC own fr) C s H fp pins) cnd tc) (he : ∀ cl C s H fp pins, PE (cxC X sc cl (nmC own fr) C s H fp pins) elt te)
    (hs : ∀ x, foldedSetIterable iter X.env x = pure x := by intro _; rfl) (hf : X.fn x = true ∨ X.env.scope.names.lookup x = some .local := by first | exact .inl rfl | exact .inr rfl | assumption) :
    PS X (.Assign [.Name x pos'] (.ListComp elt [⟨target, iter, [cnd], 0⟩] sc cpos) pos) (tAsg (tCompF wi g own fr tc te) (gName i)) := by
  intro pins s σ H D I h
  obtain ⟨cl, hclos, h1, h2⟩ := S.clos I
  rw [exec_Assign_Name_used _ _ _ _ hsw]
  refine wpAny_bind (wpAny_standAt (wpAny_bind ?_))
  show wpAny _ X.A (do let _ ← comprehension (.ListComp elt [⟨target, iter, [cnd], 0⟩] sc cpos) sc X.env _ (newList []) false (eval iter X.env) (some (assign (.Name x pos') X.env))) _ _ s
  refine wpAny_bind (wpAny_mono (wpAny_comprehension_free (use := some (assign (.Name x pos') X.env)) (Q := fun _ s' => SP X pins D .next s') rfl hs hclos S.kind S.names
    (thn (hi pins s σ H _ I h) fun v s1 hv => thn hv fun itv s2 hp => ?_)) (fun _ s' hq => wpAny_pure (wpAny_pure hq)) fun _ _ e => e)
  refine comp_blockF (Q := fun x H1 => gName i x σ H1 D.nx) (pins := pins) (σ := σ) (RR := fun acc C => compPost (model X.prog X.w) X.A X.xe (some (assign (.Name x pos') X.env)) (fun _ s' => SP X pins D .next s') acc C) hc S hk hg hcd he h1 h2 hp fun Da C s' H' m hn q I' f => ?_
  show wpAny _ X.A (assign (.Name x pos') X.env (.ref Da)) _ _ _
  refine wpAny_assign_Name (store_ok2 I' hN hi' hx (v := .ref Da) rfl (fun s'' I'' ⟨a, sb, ha⟩ => ?_) hf)
  have hCa : C ≠ a := by
    rcases ha with z | z
    · rw [z]; exact f.2.1
    · exact fun e => f.2.2.2.2.1 x a z e.symm
  exact ⟨m, hn.sameBut sb hCa, fun h' sb' => ⟨_, H', I''.blockGone f sb', q⟩⟩
end
theorem comp_rangeF {lo : Int} {n : Nat} {g : TG} {tc : TT} {te : TE} {own : List Str} {fr : List (Str × Nat)} {σ : St} {Q : VK} {H1 : Hp} {D : Addr} (Pv : Nat → List V → Hp → Prop) (h0 : Pv 0 [] (upd H1 D (.lst [])))
    (hD : ∀ i ys H, i ≤ n → Pv i ys H → H D = some (.lst ys) ∧ ys.length < sizeLine)
    (hs : ∀ i ys H, i < n → Pv i ys H → g (.int (lo + i)) (stC own fr σ) H fun σ2 H2 => tc σ2 H2 fun b H2' => if b = true then te σ2 H2' (fun y H3 => H3 D = some (.lst ys) ∧ Pv (i + 1) (ys ++ [y]) (upd H3 D (.lst (ys ++ [y])))) else Pv (i + 1) ys H2')
    (hd : ∀ ys H, Pv n ys H → Q (.ref D) H) :
    ∃ W : Nat → Nat → List V → Hp → Prop, (∃ m, W 0 m [] (upd H1 D (.lst []))) ∧ ∀ i m ys H, W i m ys H → H D = some (.lst ys) ∧
      (((Itr lo n).stop i H ∧ Q (.ref D) H) ∨ ((Itr lo n).go i H ∧ ys.length < sizeLine ∧ ∃ (N : VK) (N0 : Hp → Prop), (∀ y H3, N y H3 → H3 D = some (.lst ys) ∧ ∃ m', m' < m ∧ W (i + 1) m' (ys ++ [y]) (upd H3 D (.lst (ys ++ [y])))) ∧ (∀ H3, N0 H3 → ∃ m', m' < m ∧ W (i + 1) m' ys H3) ∧ ∀ x H', (Itr lo n).yld i H x H' → g x (stC own fr σ) H' fun σ2 H2 => tc σ2 H2 fun b H2' => if b = true then te σ2 H2' N else N0 H2')) := by
  refine ⟨fun i m ys H => m = n - i ∧ i ≤ n ∧ Pv i ys H, ⟨n, by simp, Nat.zero_le _, h0⟩, ?_⟩
  rintro i m ys H ⟨rfl, hi, p⟩
  obtain ⟨hd1, hd2⟩ := hD i ys H hi p
  refine ⟨hd1, ?_⟩
  by_cases hlt : i < n
  · refine .inr ⟨hlt, hd2, fun y H3 => H3 D = some (.lst ys) ∧ Pv (i + 1) (ys ++ [y]) (upd H3 D (.lst (ys ++ [y]))), fun H3 => Pv (i + 1) ys H3, fun y H3 q3 => ⟨q3.1, n - (i + 1), by (first | lia | omega), rfl, hlt, q3.2⟩, fun H3 q3 => ⟨n - (i + 1), by (first | lia | omega), rfl, hlt, q3⟩, fun x H' y => ?_⟩
    obtain ⟨e, y⟩ := y
    subst e y
    exact hs i ys _ hlt p
  · have e : i = n := by (first | lia | omega)
    subst e
    exact .inl ⟨Nat.le_refl _, hd ys H p⟩
end L2
namespace L2
open PySem
theorem cxOf_K {CX : CXT} {P : Program} {w : World} {K : PySem.W.Frag} {mg : Str → Option Value} {base : Heap} {N : List Str} {qual : Str} {scope : Scope} {f : Addr} {cd : Value} {A : Around} {outer : List Env} {s : Shared} {H : Hp} {E : XK} : (cxOf CX P w K mg base N qual scope f cd A outer s H E).K = K := rfl
theorem seqB {t1 t2 : TS} {D : Ends} {σ : St} {H : Hp} (h : ∀ (T2 : TS) (D2 : Ends), t2 = T2 → D = D2 → tSeq t1 T2 D2 σ H) : tSeq t1 t2 D σ H := h _ _ rfl rfl
end L2
namespace L2
open PySem PySem.Spec PyProof.Rows
abbrev Cx.inTry (X : Cx) (pins : List (Addr × Obj)) (E : XK) : Cx := { X with pn := X.pn ++ pins, xe := fun e s' => ∃ (σ : St) (H : Hp) (s : Shared) (ea C t : Addr) (H' : Hp) (B : Heap), e = .ref ea ∧ Inv X pins σ H s ∧ Fly X.prog X.w X.stack H s s' ea C t H' B ∧ E (.ref C) none H' }
section
variable {X : Cx} {pins : List (Addr × Obj)} {σ : St} {H : Hp} {s : Shared} {E : XK}
theorem Cx.Ok.inTry (ok : X.Ok) : (X.inTry pins E).Ok :=
  ⟨ok.mod, ok.kind, ok.glob, ok.blt, ok.above, ok.inj, ok.has, ok.cab, ok.hd, ok.frames, ok.stk, ok.exf, ok.bs, ok.bsz, ok.noex, ok.exfs, ok.funs, ok.frf⟩
theorem Cx.Ok.ofTry (ok : (X.inTry pins E).Ok) : X.Ok :=
  ⟨ok.mod, ok.kind, ok.glob, ok.blt, ok.above, ok.inj, ok.has, ok.cab, ok.hd, ok.frames, ok.stk, ok.exf, ok.bs, ok.bsz, ok.noex, ok.exfs, ok.funs, ok.frf⟩
theorem Inv.inTry (I : Inv X pins σ H s) : Inv (X.inTry pins E) [] σ H s := ⟨I.ok.inTry, I.os, I.bare, I.base, I.loc, I.cell, I.free, I.freeC, fun p hp => I.pin p (by simpa using hp), I.hok, I.len⟩
theorem Inv.ofTry {pins' : List (Addr × Obj)} (I : Inv (X.inTry pins E) pins' σ H s) : Inv X pins σ H s := ⟨I.ok.ofTry, I.os, I.bare, I.base, I.loc, I.cell, I.free, I.freeC, fun p hp => I.pin p (List.mem_append_left _ hp), I.hok, I.len⟩
theorem SP.ofTry {pins' : List (Addr × Obj)} {D : Ends} {f : Flow} (h : SP (X.inTry pins E) pins' D f s) : SP X pins D f s := by
  cases f with
  | next => obtain ⟨σ', H', I, q⟩ := h; exact ⟨σ', H', I.ofTry, q⟩
  | brk => obtain ⟨σ', H', I, q⟩ := h; exact ⟨σ', H', I.ofTry, q⟩
  | cont => obtain ⟨σ', H', I, q⟩ := h; exact ⟨σ', H', I.ofTry, q⟩
  | ret u => obtain ⟨v, σ', H', I, r, q⟩ := h; exact ⟨v, σ', H', I.ofTry, r, q⟩
theorem passes_inTry : Passes (CXF X.prog X.w) (X.inTry pins E) E := by
  intro pins' σ H s e s' I h
  obtain ⟨ea, C, t, H', B, rfl, fy, hE⟩ := h
  exact ⟨σ, H, s, ea, C, t, H', B, rfl, I.ofTry, fy, hE⟩
abbrev blank (N : List Str) : St := List.replicate N.length none
theorem Inv.blank (I : Inv X pins σ H s) : Inv X pins (L2.blank X.N) H s := by
  obtain ⟨m, hn, _⟩ := id I.loc
  refine ⟨I.ok, I.os, I.bare, I.base, ⟨m, hn, fun i x v _ e2 _ => ?_⟩, I.cell, I.free, I.freeC, I.pin, I.hok, by simp⟩
  rw [List.getElem?_replicate] at e2
  split at e2 <;> cases e2
def HRun (X : Cx) (C : Addr) (hs : List ExceptHandler) (T : Ends → Hp → Prop) : Prop :=
  ∀ (pins : List (Addr × Obj)) (σ : St) (H : Hp) (s s' : Shared) (ea t : Addr) (H' : Hp) (B h5 : Heap) (D : Ends), Inv X pins σ H s → Fly X.prog X.w X.stack H s s' ea C t H' B → Heap.FlyingW B X.stack ea (.ref C) (.ref t) h5 → Heap.UpToSlots s'.heap h5 → T D H' →
    wpAny (model X.prog X.w) X.A (handleBy (.ref ea) X.env hs) (SP X pins D) X.xe { s' with heap := h5 }
theorem hr_miss {C S : Addr} {c : Str} {cp hp : Pos} {nm : Option Str} {suite : List Stmt} {rest : List ExceptHandler} {T : Ends → Hp → Prop} (EM : PySem.W.exmOne X.K (.ref C) (.ref S) = some false) (hgc : Gl X c) (hmS : X.mg c = some (.ref S)) (R : HRun X C rest T) (hdb : (c == ("__debug__" : Str)) = false := by decide) :
    HRun X C (.ExceptHandler (some (.Name c cp)) nm suite hp :: rest) T := by
  intro pins σ H s s' ea t H' B h5 D I fy fl5 sm5 hT
  have I5 : Inv X pins σ H' { s' with heap := h5 } := I.caught fy fl5.1 sm5
  obtain ⟨ob, hob, hobc⟩ := fl5.there
  have LT : PySem.W.Looks (model X.prog X.w) h5 (typeOf (.ref ea)) (.ref C) := IsA.type ⟨hob, hobc⟩
  refine wpAny_handleBy_cons (codeAny_handlers_test (ld_glob (X := X.inExc ea) (I5.inExc ea) hgc hmS ?_ hdb)) (by intro q; cases q)
  exact PySem.W.Looks.at (PySem.W.exm_one I5.kIn LT EM) (R pins σ H s s' ea t H' B h5 D I fy fl5 sm5 hT)
theorem hr_hit {C S : Addr} {c : Str} {cp hp : Pos} {b₀ : Stmt} {suite : List Stmt} {rest : List ExceptHandler} {th : TS} (EM : PySem.W.exmOne X.K (.ref C) (.ref S) = some true) (hgc : Gl X c) (hmS : X.mg c = some (.ref S)) (hs : ∀ ea, PSs (X.inExc ea) (b₀ :: suite) th) (hdb : (c == ("__debug__" : Str)) = false := by decide) :
    HRun X C (.ExceptHandler (some (.Name c cp)) none (b₀ :: suite) hp :: rest) (fun D H' => th D (L2.blank X.N) H') := by
  intro pins σ H s s' ea t H' B h5 D I fy fl5 sm5 hT
  have I5 : Inv X pins σ H' { s' with heap := h5 } := I.caught fy fl5.1 sm5
  obtain ⟨ob, hob, hobc⟩ := fl5.there
  have LT : PySem.W.Looks (model X.prog X.w) h5 (typeOf (.ref ea)) (.ref C) := IsA.type ⟨hob, hobc⟩
  refine wpAny_handleBy_cons (codeAny_handlers_test (ld_glob (X := X.inExc ea) (I5.inExc ea) hgc hmS ?_ hdb)) (by intro q; cases q)
  refine PySem.W.Looks.at (PySem.W.exm_one I5.kIn LT EM) (codeAny_handlers_suite ?_)
  refine lands_againW fl5 fun h6 fl6 sm6 => ?_
  have I6 : Inv X pins (L2.blank X.N) H' { s' with heap := h6 } := (I.caught fy fl6.1 (sm5.trans sm6)).blank
  exact wpAny_mono (hs ea pins _ _ H' D (I6.inExc ea) hT) (fun f s7 q => q.ofExc I.ok) fun _ _ z => False.elim z
theorem hr_hitAs {C S : Addr} {c n : Str} {i : Nat} {cp hp : Pos} {b₀ : Stmt} {suite : List Stmt} {rest : List ExceptHandler} {th : TS} (hex : X.ex = []) (EM : PySem.W.exmOne X.K (.ref C) (.ref S) = some true) (hgc : Gl X c) (hmS : X.mg c = some (.ref S)) (hN : X.N.Nodup) (hi : X.N[i]? = some n) (hk : X.env.kindOf n = some .local)
    (hs : ∀ ea, PSs (X.inExc ea) (b₀ :: suite) th) (hdb : (c == ("__debug__" : Str)) = false := by decide) (hf : X.env.scope.names.lookup n = some .local := by rfl) :
    HRun X C (.ExceptHandler (some (.Name c cp)) (some n) (b₀ :: suite) hp :: rest) (fun D H' => ∀ ea, H' ea = none → th { nx := fun _ _ => False, rt := D.rt } ((L2.blank X.N).set i (some (.ref ea))) (upd H' ea (excO ea C))) := by
  intro pins σ H s s' ea t H' B h5 D I fy fl5 sm5 hT
  have I5 : Inv X pins σ H' { s' with heap := h5 } := I.caught fy fl5.1 sm5
  obtain ⟨ob, hob, hobc⟩ := fl5.there
  have LT : PySem.W.Looks (model X.prog X.w) h5 (typeOf (.ref ea)) (.ref C) := IsA.type ⟨hob, hobc⟩
  refine wpAny_handleBy_cons (codeAny_handlers_test (ld_glob (X := X.inExc ea) (I5.inExc ea) hgc hmS ?_ hdb)) (by intro q; cases q)
  refine PySem.W.Looks.at (PySem.W.exm_one I5.kIn LT EM) (codeAny_handlers_suite_as ?_)
  refine lands_againW fl5 fun h6 fl6 sm6 => ?_
  have I6 : Inv X pins (L2.blank X.N) H' { s' with heap := h6 } := (I.caught fy fl6.1 (sm5.trans sm6)).blank
  obtain ⟨n1, n2⟩ := fy.new
  obtain ⟨ob6, hob6, hobc6⟩ := fl6.there
  obtain ⟨m, hm, _⟩ := id I.loc
  obtain ⟨oL, _, _, hoL, _⟩ := id hm
  have I7 : Inv X pins (L2.blank X.N) (upd H' ea (excO ea C)) { s' with heap := h6 } := by
    refine I6.track n2 ?_ (fun z => by rw [z, hoL] at n1; cases n1) (fun x c' e z => ?_) (fun p hp z => ?_) ⟨⟨ob6, hob6, hobc6⟩, ⟨ob6, hob6⟩, fun h1 h2 ⟨o, q⟩ kk => ⟨o, kk o q.at_, q.cls⟩⟩
    · cases q : X.s₀.heap.get? ea with
      | none => rfl
      | some o =>
        obtain ⟨o', e⟩ := I.base.there ea o q (by rw [hex]; simp)
        rw [n1] at e; cases e
    · obtain ⟨v, o, e1, _⟩ := I.cell x c' e
      rw [z, n1] at e1; cases e1
    · have e1 := (I.pin p hp).1
      rw [z, n1] at e1; cases e1
  refine store_ok (X := X.inExc ea) (I7.inExc ea) hN hi (.inl hk) (show RelV (.ref ea) (.ref ea) from rfl) (fun s8 I8 => ?_) (.inr hf)
  refine wpAny_mono (hs ea pins _ _ _ _ I8 (hT ea n2)) (fun f s9 q => ?_) fun _ _ z => False.elim z
  cases f with
  | next => obtain ⟨_, _, _, z⟩ := q; exact False.elim z
  | brk => obtain ⟨_, _, _, z⟩ := q; exact False.elim z
  | cont => obtain ⟨_, _, _, z⟩ := q; exact False.elim z
  | ret u =>
    obtain ⟨v, σ', H9, I9, r9, q9⟩ := q
    have I9' := I9.ofExc I.ok
    obtain ⟨m9, hm9, _⟩ := id I9'.loc
    refine wpAny_nameGoes hk hm9 (by rw [I.ok.kind]; rfl) fun h10 m10 hm10 sb => ?_
    exact ⟨v, _, H9, I9'.forget hm10 sb, r9, q9⟩
def tTry (T : Addr → Ends → Hp → Prop) (tb : XK → TS) : TS := fun D σ H => tb (fun c _ H' => ∃ C, c = .ref C ∧ T C D H') D σ H
theorem ps_try {body : List Stmt} {h₀ : ExceptHandler} {hs : List ExceptHandler} {tpos : Pos} {tb : XK → TS} {T : Addr → Ends → Hp → Prop} (hst : X.stack = X.env :: X.outer) (hfr : X.env.frame = some X.env.locals)
    (R : ∀ (C : Addr) (D : Ends) (H' : Hp), T C D H' → HRun X C (h₀ :: hs) (fun D' H'' => D' = D ∧ H'' = H')) (hb : ∀ pins E, PSs (X.inTry pins E) body (tb E)) :
    PS X (.Try body (h₀ :: hs) [] [] tpos) (tTry T tb) := by
  intro pins s σ H D I h
  refine wpAny_Try_except (wpAny_mono (hb pins (fun c _ H' => ∃ C, c = .ref C ∧ T C D H') [] s σ H D I.inTry h) (fun f s1 q => ?_) fun e s1 z => ?_)
  · have q' := SP.ofTry q
    cases f with
    | next => exact wpAny_execs_nil q'
    | brk => exact q'
    | cont => exact q'
    | ret u => exact q'
  · obtain ⟨σ1, H1, s0, ea, C, t, H', B, rfl, I1, fy, C', eC, hT⟩ := z
    cases eC
    refine wpAny_looks_onW (I1.ok.frames.trans (by rw [hst])) hfr (by rw [← hst]; exact fy.fl) fun h4 held4 sm4 => ?_
    refine wpAny_landsW held4 fun h5 fl5 sm5 => ?_
    exact R C D H' hT pins σ1 H1 s0 s1 ea t H' B h5 D I1 fy (by rw [hst]; exact fl5) (sm4.trans sm5) ⟨rfl, rfl⟩
theorem HRun.at {C : Addr} {hs : List ExceptHandler} {T : Ends → Hp → Prop} {D : Ends} {H' : Hp} (R : HRun X C hs T) (h : T D H') : HRun X C hs (fun D' H'' => D' = D ∧ H'' = H') := by
  intro pins σ H s s' ea t H2 B h5 D' I fy fl sm e
  obtain ⟨rfl, rfl⟩ := e
  exact R pins σ H s s' ea t _ B h5 _ I fy fl sm h
theorem ixT_list : IxR (X.inTry pins E) (rIxL X.K) := ix_list
theorem ps_try3 {body : List Stmt} {tpos : Pos} {tb : XK → TS} {C1 C2 C3 : Addr} {c1 c2 c3 : Str} {q1 q2 q3 p1 p2 p3 : Pos} {b1 b2 b3 : Stmt} {s1 s2 s3 : List Stmt} {t1 t2 t3 : TS} (hst : X.stack = X.env :: X.outer) (hfr : X.env.frame = some X.env.locals)
    (e11 : PySem.W.exmOne X.K (.ref C1) (.ref C1) = some true) (e21 : PySem.W.exmOne X.K (.ref C2) (.ref C1) = some false) (e22 : PySem.W.exmOne X.K (.ref C2) (.ref C2) = some true) (e31 : PySem.W.exmOne X.K (.ref C3) (.ref C1) = some false) (e32 : PySem.W.exmOne X.K (.ref C3) (.ref C2) = some false) (e33 : PySem.W.exmOne X.K (.ref C3) (.ref C3) = some true)
    (g1 : Gl X c1) (m1 : X.mg c1 = some (.ref C1)) (g2 : Gl X c2) (m2 : X.mg c2 = some (.ref C2)) (g3 : Gl X c3) (m3 : X.mg c3 = some (.ref C3))
    (h1 : ∀ ea, PSs (X.inExc ea) (b1 :: s1) t1) (h2 : ∀ ea, PSs (X.inExc ea) (b2 :: s2) t2) (h3 : ∀ ea, PSs (X.inExc ea) (b3 :: s3) t3) (hb : ∀ pins E, PSs (X.inTry pins E) body (tb E))
    (d1 : (c1 == ("__debug__" : Str)) = false := by decide) (d2 : (c2 == ("__debug__" : Str)) = false := by decide) (d3 : (c3 == ("__debug__" : Str)) = false := by decide) :
    PS X (.Try body [.ExceptHandler (some (.Name c1 q1)) none (b1 :: s1) p1, .ExceptHandler (some (.Name c2 q2)) none (b2 :: s2) p2, .ExceptHandler (some (.Name c3 q3)) none (b3 :: s3) p3] [] [] tpos)
      (tTry (fun C D H' => (C = C1 ∧ t1 D (L2.blank X.N) H') ∨ (C = C2 ∧ t2 D (L2.blank X.N) H') ∨ (C = C3 ∧ t3 D (L2.blank X.N) H')) tb) := by
  refine ps_try hst hfr (fun C D H' h => ?_) hb
  rcases h with ⟨rfl, h⟩ | ⟨rfl, h⟩ | ⟨rfl, h⟩
  · exact HRun.at (T := fun D H' => t1 D (L2.blank X.N) H') (hr_hit e11 g1 m1 h1 d1) h
  · exact HRun.at (T := fun D H' => t2 D (L2.blank X.N) H') (hr_miss e21 g1 m1 (hr_hit e22 g2 m2 h2 d2) d1) h
  · exact HRun.at (T := fun D H' => t3 D (L2.blank X.N) H') (hr_miss e31 g1 m1 (hr_miss e32 g2 m2 (hr_hit e33 g3 m3 h3 d3) d2) d1) h
theorem ps_tryN {body : List Stmt} {tpos : Pos} {tb : XK → TS} {C S : Addr} {c n : Str} {i : Nat} {cp hp : Pos} {b₀ : Stmt} {suite : List Stmt} {th : TS} (hst : X.stack = X.env :: X.outer) (hfr : X.env.frame = some X.env.locals) (hex : X.ex = []) (EM : PySem.W.exmOne X.K (.ref C) (.ref S) = some true) (hgc : Gl X c) (hmS : X.mg c = some (.ref S)) (hN : X.N.Nodup) (hi : X.N[i]? = some n) (hk : X.env.kindOf n = some .local)
    (hs : ∀ ea, PSs (X.inExc ea) (b₀ :: suite) th) (hb : ∀ pins E, PSs (X.inTry pins E) body (tb E)) (hdb : (c == ("__debug__" : Str)) = false := by decide) (hf : X.env.scope.names.lookup n = some .local := by rfl) :
    PS X (.Try body [.ExceptHandler (some (.Name c cp)) (some n) (b₀ :: suite) hp] [] [] tpos)
      (tTry (fun C' D H' => C' = C ∧ ∀ ea, H' ea = none → th { nx := fun _ _ => False, rt := D.rt } ((L2.blank X.N).set i (some (.ref ea))) (upd H' ea (excO ea C))) tb) := by
  refine ps_try hst hfr (fun C' D H' h => ?_) hb
  obtain ⟨rfl, h⟩ := h
  exact HRun.at (T := fun D H' => ∀ ea, H' ea = none → th { nx := fun _ _ => False, rt := D.rt } ((L2.blank X.N).set i (some (.ref ea))) (upd H' ea (excO ea C'))) (hr_hitAs hex EM hgc hmS hN hi hk hs hdb hf) h
theorem op_eqL0 (hu : X.A.units < cLine) : OpR X (compareOp .Eq) (fun x y H Q => ∃ a b xs, x = .ref a ∧ y = .ref b ∧ SqL X.K H a xs ∧ SqL X.K H b [] ∧ Q (.bl xs.isEmpty) H) := by
  intro pins s σ H x y v u Q I rx ry h
  obtain ⟨a, b, xs, rfl, rfl, ha, hb, q⟩ := h
  cases rx
  cases ry
  obtain ⟨its, r1, p1, _⟩ := I.list ha
  obtain ⟨its2, r2, p2, _⟩ := I.list hb
  cases r2
  cases r1 with
  | nil => exact SeqAt.RcAt.lists (e := fun _ => true) p1.isList p2.isList rfl hu (fun j h1 _ => absurd h1 (by simp)) _ _ _ _ ⟨.bl true, H, I, rfl, q⟩
  | cons rr rt => exact SeqAt.RcAt.lists_lengths p1.isList p2.isList (by simp) hu _ _ _ _ ⟨.bl false, H, I, rfl, q⟩
end
end L2
namespace L2
open PySem PySem.Spec PyProof.Rows
theorem tTryB {T : Addr → Ends → Hp → Prop} {tb : XK → TS} {D : Ends} {σ : St} {H : Hp} (h : ∀ (T' : Addr → Ends → Hp → Prop) (D' : Ends), T = T' → D = D' → tTry T' tb D' σ H) : tTry T tb D σ H := h _ _ rfl rfl
end L2
namespace Ev
def gd (a b : Int) : Int := (Int.gcd a b : Nat)
theorem gd_nonneg (a b : Int) : 0 ≤ gd a b := Int.natCast_nonneg _
theorem gd_comm (a b : Int) : gd a b = gd b a := by unfold gd; rw [Int.gcd_comm]
theorem gd_step (l s : Int) : gd s (l.fmod s) = gd l s := by
  unfold gd
  have e : l.fmod s = l + (-(l.fdiv s)) * s := by
    rw [Int.fmod_def]; grind
  rw [e, Int.gcd_comm, Int.gcd_add_mul_right_left]
theorem gd_zero {l : Int} (h : 0 ≤ l) : gd l 0 = l := by
  unfold gd; rw [Int.gcd_zero_right]; (first | lia | omega)
theorem gd_neg_left (a b : Int) : gd (-a) b = gd a b := by unfold gd; rw [Int.neg_gcd]
theorem gd_neg_right (a b : Int) : gd a (-b) = gd a b := by unfold gd; rw [Int.gcd_neg]
def ab (i : Int) : Int := if i < 0 then -i else i
theorem ab_nonneg (i : Int) : 0 ≤ ab i := by unfold ab; split <;> (first | lia | omega)
theorem gd_ab (a b : Int) : gd (ab a) (ab b) = gd a b := by
  unfold ab
  split <;> split <;> simp [gd_neg_left, gd_neg_right]
theorem gd_pos_right (a : Int) {b : Int} (h : b ≠ 0) : 0 < gd a b := by
  unfold gd
  have := Int.gcd_pos_of_ne_zero_right a h
  (first | lia | omega)
theorem gd_dvd_left (a b : Int) : gd a b ∣ a := Int.gcd_dvd_left a b
theorem gd_dvd_right (a b : Int) : gd a b ∣ b := Int.gcd_dvd_right a b
theorem fdiv_mul {d n : Int} (h : d ∣ n) : d * n.fdiv d = n := by
  obtain ⟨k, rfl⟩ := h
  by_cases hd : d = 0
  · subst hd; simp
  · rw [Int.mul_fdiv_cancel_left _ hd]
theorem rat_of {n d : Int} (hd : 0 < d) (h : gd n d = 1) : (Rat.divInt n d).num = n ∧ ((Rat.divInt n d).den : Int) = d := by
  have hc : n.natAbs.Coprime d.toNat := by
    unfold gd at h
    have h' : Int.gcd n d = 1 := by (first | lia | omega)
    rw [Int.gcd_eq_natAbs_gcd_natAbs] at h'
    have e : d.natAbs = d.toNat := by (first | lia | omega)
    rw [e] at h'
    exact h'
  have hz : d.toNat ≠ 0 := by (first | lia | omega)
  have e : Rat.divInt n d = ⟨n, d.toNat, hz, hc⟩ := by
    rw [Rat.mk_eq_divInt]
    congr 1
    (first | lia | omega)
  rw [e]
  exact ⟨rfl, by show ((d.toNat : Nat) : Int) = d; (first | lia | omega)⟩
theorem rat_eq {n d : Int} {q : Rat} (hd : 0 < d) (h : gd n d = 1) (hq : n * (q.den : Int) = q.num * d) : q.num = n ∧ (q.den : Int) = d := by
  have e : Rat.divInt n d = q := by
    rw [← Rat.num_divInt_den q]
    have hz : (q.den : Int) ≠ 0 := by have := q.den_nz; (first | lia | omega)
    exact (Rat.divInt_eq_divInt_iff (by (first | lia | omega)) hz).mpr hq
  have r := rat_of hd h
  rw [e] at r
  exact r
theorem rat_is {n d : Int} {q : Rat} (hd : 0 < d) (h : gd n d = 1) (e : Rat.divInt n d = q) : q.num = n ∧ (q.den : Int) = d := by
  have r := rat_of hd h
  rw [e] at r
  exact r
theorem den_pos (q : Rat) : 0 < (q.den : Int) := by have := q.den_nz; (first | lia | omega)
theorem low (q : Rat) : gd q.num q.den = 1 := by
  unfold gd
  have h := q.reduced
  rw [Int.gcd_eq_natAbs_gcd_natAbs]
  simp only [Int.natAbs_natCast]
  have : q.num.natAbs.gcd q.den = 1 := h
  (first | lia | omega)
theorem gd_mul_left (k a b : Int) (hk : 0 ≤ k) : gd (k * a) (k * b) = k * gd a b := by
  unfold gd
  rw [Int.gcd_mul_left]
  simp only [Int.natCast_mul]
  have : ((k.natAbs : Nat) : Int) = k := by (first | lia | omega)
  rw [this]
def dv (t b : Int) : Int := if b < 0 then -(gd t b) else gd t b
theorem frac_ok {t b : Int} (hb : b ≠ 0) : t.fdiv (dv t b) = (Rat.divInt t b).num ∧ b.fdiv (dv t b) = ((Rat.divInt t b).den : Int) := by
  have hg := gd_pos_right t hb
  have d1 : dv t b ∣ t := by unfold dv; split; exact Int.neg_dvd.mpr (gd_dvd_left t b); exact gd_dvd_left t b
  have d2 : dv t b ∣ b := by unfold dv; split; exact Int.neg_dvd.mpr (gd_dvd_right t b); exact gd_dvd_right t b
  have e1 := fdiv_mul d1
  have e2 := fdiv_mul d2
  generalize hq1 : t.fdiv (dv t b) = q1 at *
  generalize hq2 : b.fdiv (dv t b) = q2 at *
  have ne : dv t b ≠ 0 := by unfold dv; split <;> (first | lia | omega)
  have p : 0 < q2 := by
    by_cases h : b < 0
    · have hd : dv t b < 0 := by unfold dv; rw [if_pos h]; (first | lia | omega)
      by_cases hq : 0 < q2
      · exact hq
      · have : 0 ≤ dv t b * q2 := Int.mul_nonneg_of_nonpos_of_nonpos (by (first | lia | omega)) (by (first | lia | omega))
        (first | lia | omega)
    · have hd : 0 < dv t b := by unfold dv; rw [if_neg h]; (first | lia | omega)
      by_cases hq : 0 < q2
      · exact hq
      · have : dv t b * q2 ≤ 0 := Int.mul_nonpos_of_nonneg_of_nonpos (by (first | lia | omega)) (by (first | lia | omega))
        (first | lia | omega)
  have c : gd q1 q2 = 1 := by
    have e3 : gd t b = gd (gd t b * q1) (gd t b * q2) := by
      have o : dv t b = gd t b ∨ dv t b = -(gd t b) := by unfold dv; split <;> simp
      rcases o with o | o
      · rw [o] at e1 e2
        rw [e1, e2]
      · rw [o] at e1 e2
        have f1 : gd t b * q1 = -t := by grind
        have f2 : gd t b * q2 = -b := by grind
        rw [f1, f2, gd_neg_left, gd_neg_right]
    rw [gd_mul_left _ _ _ (by (first | lia | omega))] at e3
    have : gd t b * (gd q1 q2 - 1) = 0 := by grind
    rcases Int.mul_eq_zero.mp this with z | z <;> (first | lia | omega)
  have r := rat_eq (q := Rat.divInt t b) p c ?_
  · exact ⟨r.1.symm, r.2.symm⟩
  · have hz := (den_pos (Rat.divInt t b))
    have e4 : Rat.divInt q1 q2 = Rat.divInt t b := by
      rw [Rat.divInt_eq_divInt_iff (by (first | lia | omega)) hb]
      conv => lhs; rw [← e2]
      conv => rhs; rw [← e1]
      grind
    have e5 := Rat.num_divInt_den (Rat.divInt t b)
    rw [← e4] at e5
    have e6 := (Rat.divInt_eq_divInt_iff (by rw [e4]; (first | lia | omega)) (by (first | lia | omega))).mp e5
    rw [e4] at e6
    exact e6.symm
theorem gd_mul_one {x y z : Int} (h1 : gd x y = 1) (h2 : gd x z = 1) : gd x (y * z) = 1 := by
  unfold gd at *
  rw [Int.gcd_eq_natAbs_gcd_natAbs] at *
  rw [Int.natAbs_mul]
  have a : x.natAbs.Coprime y.natAbs := by show _ = _; (first | lia | omega)
  have b : x.natAbs.Coprime z.natAbs := by show _ = _; (first | lia | omega)
  have c := Nat.Coprime.mul_right a b
  have : x.natAbs.gcd (y.natAbs * z.natAbs) = 1 := c
  (first | lia | omega)
theorem gd_of_dvd {x y x' y' : Int} (h : gd x y = 1) (d1 : x' ∣ x) (d2 : y' ∣ y) : gd x' y' = 1 := by
  unfold gd at *
  have h' : x.gcd y = 1 := by (first | lia | omega)
  have e1 : ((x'.gcd y' : Nat) : Int) ∣ x := Int.dvd_trans (Int.gcd_dvd_left x' y') d1
  have e2 : ((x'.gcd y' : Nat) : Int) ∣ y := Int.dvd_trans (Int.gcd_dvd_right x' y') d2
  have e3 := Int.dvd_gcd e1 e2
  rw [h'] at e3
  have := Nat.dvd_one.mp e3
  (first | lia | omega)
theorem gd_part {x y : Int} (h : gd x y ≠ 0) {x' y' : Int} (e1 : gd x y * x' = x) (e2 : gd x y * y' = y) : gd x' y' = 1 := by
  have e3 : gd x y = gd (gd x y * x') (gd x y * y') := by rw [e1, e2]
  have n := gd_nonneg x y
  rw [gd_mul_left _ _ _ n] at e3
  have : gd x y * (gd x' y' - 1) = 0 := by grind
  rcases Int.mul_eq_zero.mp this with z | z <;> (first | lia | omega)
theorem gd_add (n k m : Int) : gd (n + k * m) m = gd n m := by unfold gd; rw [Int.gcd_add_mul_right_left]
theorem plus_ok (p q : Rat) (g t h : Int) (hg : g = gd p.den q.den) (ht : t = p.num * (q.den : Int).fdiv g + q.num * (p.den : Int).fdiv g) (hh : h = gd t g) :
    g ≠ 0 ∧ h ≠ 0 ∧ t.fdiv h = (p + q).num ∧ (p.den : Int).fdiv g * (q.den : Int).fdiv h = ((p + q).den : Int) := by
  have hb := den_pos p
  have hd := den_pos q
  have lp := low p
  have lq := low q
  have g0 : 0 < g := by rw [hg]; exact gd_pos_right _ (by (first | lia | omega))
  have h0 : 0 < h := by rw [hh]; exact gd_pos_right _ (by (first | lia | omega))
  have eb := fdiv_mul (show g ∣ (p.den : Int) by rw [hg]; exact gd_dvd_left _ _)
  have ed := fdiv_mul (show g ∣ (q.den : Int) by rw [hg]; exact gd_dvd_right _ _)
  have et := fdiv_mul (show h ∣ t by rw [hh]; exact gd_dvd_left _ _)
  have eg := fdiv_mul (show h ∣ g by rw [hh]; exact gd_dvd_right _ _)
  have c1 : gd ((p.den : Int).fdiv g) ((q.den : Int).fdiv g) = 1 := by
    rw [hg] at eb ed g0 ⊢
    exact gd_part (by (first | lia | omega)) eb ed
  have c2 : gd (t.fdiv h) (g.fdiv h) = 1 := by
    rw [hh] at et eg h0 ⊢
    exact gd_part (by (first | lia | omega)) et eg
  have edh : (q.den : Int).fdiv h = g.fdiv h * (q.den : Int).fdiv g := by
    have : h * (g.fdiv h * (q.den : Int).fdiv g) = (q.den : Int) := by rw [← Int.mul_assoc, eg, ed]
    conv => lhs; rw [← this]
    rw [Int.mul_fdiv_cancel_left _ (by (first | lia | omega))]
  generalize (p.den : Int).fdiv g = b' at *
  generalize (q.den : Int).fdiv g = d' at *
  generalize t.fdiv h = t' at *
  generalize g.fdiv h = g' at *
  refine ⟨by (first | lia | omega), by (first | lia | omega), ?_⟩
  rw [edh]
  have n1 : gd t b' = 1 := by
    rw [ht, gd_add, gd_comm]
    refine gd_mul_one ?_ c1
    rw [gd_comm]
    exact gd_of_dvd lp (Int.dvd_refl _) ⟨g, by grind⟩
  have n2 : gd t d' = 1 := by
    rw [ht, Int.add_comm, gd_add, gd_comm]
    refine gd_mul_one ?_ (by rw [gd_comm]; exact c1)
    rw [gd_comm]
    exact gd_of_dvd lq (Int.dvd_refl _) ⟨g, by grind⟩
  have dt : t' ∣ t := ⟨h, by grind⟩
  have c3 : gd t' (b' * (g' * d')) = 1 :=
    gd_mul_one (gd_of_dvd n1 dt (Int.dvd_refl _)) (gd_mul_one c2 (gd_of_dvd n2 dt (Int.dvd_refl _)))
  have b'0 : 0 < b' := by
    rcases Int.lt_trichotomy b' 0 with z | z | z
    · have := Int.mul_neg_of_pos_of_neg g0 z; (first | lia | omega)
    · rw [z] at eb; simp at eb; (first | lia | omega)
    · exact z
  have d'0 : 0 < d' := by
    rcases Int.lt_trichotomy d' 0 with z | z | z
    · have := Int.mul_neg_of_pos_of_neg g0 z; (first | lia | omega)
    · rw [z] at ed; simp at ed; (first | lia | omega)
    · exact z
  have g'0 : 0 < g' := by
    rcases Int.lt_trichotomy g' 0 with z | z | z
    · have := Int.mul_neg_of_pos_of_neg h0 z; (first | lia | omega)
    · rw [z] at eg; simp at eg; (first | lia | omega)
    · exact z
  have pos : 0 < b' * (g' * d') := Int.mul_pos b'0 (Int.mul_pos g'0 d'0)
  have r := rat_is (q := p + q) pos c3 ?_
  · exact ⟨r.1.symm, r.2.symm⟩
  · conv => rhs; rw [← Rat.num_divInt_den p, ← Rat.num_divInt_den q]
    rw [Rat.divInt_add_divInt _ _ (by (first | lia | omega)) (by (first | lia | omega))]
    have nz : (p.den : Int) * (q.den : Int) ≠ 0 := by
      have := Int.mul_pos hb hd
      (first | lia | omega)
    rw [Rat.divInt_eq_divInt_iff (by (first | lia | omega)) nz]
    rw [← eb, ← ed]
    have e9 : p.num * (g * d') + q.num * (g * b') = g * (h * t') := by rw [et, ht]; grind
    rw [e9, ← eg]
    grind
end Ev
namespace Ev
open PySem L2
def FrT (q : Rat) : List V := [.int q.num, .int (q.den : Int)]
def FrAt (K : PySem.W.Frag) (H : Hp) (a : Addr) (q : Rat) : Prop := SqT K H a (FrT q)
theorem _root_.L2.Same.tup {K : PySem.W.Frag} {H H' : Hp} {a : Addr} {xs : List V} (e : Same H H') (h : SqT K H a xs) : SqT K H' a xs := by
  rcases h with (h | ⟨o, h⟩) | h
  · exact .inl (.inl (e _ _ h))
  · exact .inl (.inr ⟨o, e _ _ h⟩)
  · exact .inr h
theorem _root_.L2.Same.fr {K : PySem.W.Frag} {H H' : Hp} {a : Addr} {q : Rat} (e : Same H H') (h : FrAt K H a q) : FrAt K H' a q := L2.Same.tup e h
theorem _root_.L2.Same.upd {H : Hp} {p : Addr} {o : HO} (hn : H p = none) : Same H (upd H p o) := fun b u e => by rw [upd_ne (ne_of_none e hn)]; exact e
theorem frAt_new {K : PySem.W.Frag} {H : Hp} {p : Addr} {q : Rat} (h : H p = some (.tup (FrT q))) : FrAt K H p q := SqT.of h
def Sz (n : Nat) (q : Rat) : Prop := q.num.natAbs < 2 ^ n ∧ q.den < 2 ^ n
theorem Sz.mono {n m : Nat} {q : Rat} (h : Sz n q) (hm : n ≤ m) : Sz m q :=
  ⟨Nat.lt_of_lt_of_le h.1 (Nat.pow_le_pow_right (by decide) hm), Nat.lt_of_lt_of_le h.2 (Nat.pow_le_pow_right (by decide) hm)⟩
theorem natAbs_fdiv_le (a b : Int) : (a.fdiv b).natAbs ≤ a.natAbs := PySem.natAbs_fdiv_le a b
theorem mul_lt_pow {a b : Int} {m n : Nat} (h1 : a.natAbs < 2 ^ m) (h2 : b.natAbs < 2 ^ n) : (a * b).natAbs < 2 ^ (m + n) :=
  intBits_le_iff.mp (intBits_mul_le (intBits_le_iff.mpr h1) (intBits_le_iff.mpr h2))
theorem add_lt_pow {a b : Int} {n : Nat} (h1 : a.natAbs < 2 ^ n) (h2 : b.natAbs < 2 ^ n) : (a + b).natAbs < 2 ^ (n + 1) := by
  rw [Nat.pow_succ]; (first | lia | omega)
theorem fdiv_lt_pow {a b : Int} {n : Nat} (h1 : a.natAbs < 2 ^ n) : (a.fdiv b).natAbs < 2 ^ n := Nat.lt_of_le_of_lt (natAbs_fdiv_le a b) h1
theorem sz_plus {p q : Rat} {m n : Nat} (hp : Sz m p) (hq : Sz n q) : Sz (m + n + 1) (p + q) := by
  have hb := den_pos p
  have hd := den_pos q
  have key := plus_ok p q _ _ _ rfl rfl rfl
  obtain ⟨_, _, e1, e2⟩ := key
  constructor
  · rw [← e1]
    refine fdiv_lt_pow ?_
    refine add_lt_pow ?_ ?_
    · exact mul_lt_pow hp.1 (fdiv_lt_pow (by simpa using hq.2))
    · rw [Nat.add_comm]; exact mul_lt_pow hq.1 (fdiv_lt_pow (by simpa using hp.2))
  · have : ((p + q).den : Int).natAbs < 2 ^ (m + n + 1) := by
      rw [← e2]
      refine Nat.lt_of_lt_of_le (mul_lt_pow (fdiv_lt_pow (n := m) (by simpa using hp.2)) (fdiv_lt_pow (n := n) (by simpa using hq.2))) (Nat.pow_le_pow_right (by decide) (by (first | lia | omega)))
    simpa using this
theorem cmul_of {i j : Int} {n : Nat} (h1 : i.natAbs < 2 ^ n) (h2 : j.natAbs < 2 ^ n) (h : n ≤ 60000000) : CMulB i j := ⟨n, h1, h2, h⟩
theorem pow_mono {x n m : Nat} (h : x < 2 ^ n) (hm : n ≤ m) : x < 2 ^ m := Nat.lt_of_lt_of_le h (Nat.pow_le_pow_right (by decide) hm)
structure Blt (mg : Str → Option Value) : Prop where
  abs : mg "abs" = none
  len : mg "len" = none
  range : mg "range" = none
  isi : mg "isinstance" = none
  int : mg "int" = none
  bool : mg "bool" = none
  tuple : mg "tuple" = none
  list : mg "list" = none
  str : mg "str" = none
  zip : mg "zip" = none
theorem bt_abs : bootBuiltins "abs" = some (.builtin "abs") := by decide +kernel
theorem bt_isi : bootBuiltins "isinstance" = some (.builtin "isinstance") := by decide +kernel
theorem bt_int : bootBuiltins "int" = some (.type "int") := by decide +kernel
theorem bt_bool : bootBuiltins "bool" = some (.type "bool") := by decide +kernel
theorem bt_tuple : bootBuiltins "tuple" = some (.type "tuple") := by decide +kernel
theorem bt_list : bootBuiltins "list" = some (.type "list") := by decide +kernel
theorem bt_str : bootBuiltins "str" = some (.type "str") := by decide +kernel
theorem bt_len : bootBuiltins "len" = some (.builtin "len") := by decide +kernel
theorem kit_ii (K : PySem.W.Frag) : PySem.W.kitOne K (.type "int") (.type "int") = some true := by
  show (if (Value.type "int" == Value.type "int") = true then some true else _) = some true
  rw [if_pos (by decide)]
theorem kit_ib (K : PySem.W.Frag) : PySem.W.kitOne K (.type "int") (.type "bool") = some false := by
  show (if (Value.type "int" == Value.type "bool") = true then some true else if PySem.W.kitMeta "bool" = true then (fastBuiltinMro "int").map (·.contains (.type "bool")) else none) = some false
  decide +kernel
theorem kit_tt (K : PySem.W.Frag) : PySem.W.kitOne K (.type "tuple") (.type "tuple") = some true := by
  show (if (Value.type "tuple" == Value.type "tuple") = true then some true else _) = some true
  rw [if_pos (by decide)]
structure Def (K : PySem.W.Frag) (mg : Str → Option Value) (x : Str) (st : Stmt) (ps : List Str) (f : Addr) (fd : FuncData) : Prop where
  fn : Fun K x x st f fd
  mg : mg x = some (.ref f)
  bd : Binds K fd ps []
end Ev
namespace L2
theorem iteT' {b : Bool} {A B : Prop} (hb : b = true) (h : A) : if b = true then A else B := by rw [if_pos hb]; exact h
theorem iteF' {b : Bool} {A B : Prop} (hb : b = false) (h : B) : if b = true then A else B := by rw [if_neg (by rw [hb]; exact Bool.false_ne_true)]; exact h
end L2
namespace Ev
open PySem L2
theorem plainC {i : Int} {j pos} : PlainIx (.Constant (.int i) j pos) := fun _ _ => rfl
end Ev
namespace Ev
open PySem L2
theorem plainN {x : Str} {pos} : PlainIx (.Name x pos) := fun _ _ => rfl
end Ev
namespace Ev
open PySem L2
theorem plainU {op : UnaryOp} {e : Expr} {pos} : PlainIx (.UnaryOp op e pos) := fun _ _ => rfl
end Ev
namespace L2
open PySem
end L2
namespace Ev
open PySem L2
theorem plainB {op : Operator} {a b : Expr} {pos} : PlainIx (.BinOp a op b pos) := fun _ _ => rfl
theorem len1 {α : Type} {P : List α → Prop} (h : ∀ a, P [a]) : ∀ us : List α, us.length = 1 → P us
  | [_], _ => h _
theorem len2 {α : Type} {P : List α → Prop} (h : ∀ a b, P [a, b]) : ∀ us : List α, us.length = 2 → P us
  | [_, _], _ => h _ _
theorem len3 {α : Type} {P : List α → Prop} (h : ∀ a b c, P [a, b, c]) : ∀ us : List α, us.length = 3 → P us
  | [_, _, _], _ => h _ _ _
theorem len4 {α : Type} {P : List α → Prop} (h : ∀ a b c d, P [a, b, c, d]) : ∀ us : List α, us.length = 4 → P us
  | [_, _, _, _], _ => h _ _ _ _
theorem len5 {α : Type} {P : List α → Prop} (h : ∀ a b c d e, P [a, b, c, d, e]) : ∀ us : List α, us.length = 5 → P us
  | [_, _, _, _, _], _ => h _ _ _ _ _
end Ev
namespace Ev
def lap (r : Nat → Int) : List Nat → (List Nat → Int) → Int
  | [], _ => 0
  | u :: us, f => r u * f us - lap r us fun vs => f (u :: vs)
def det : List (Nat → Int) → List Nat → Int
  | [], _ => 1
  | p :: ps, us => lap p us (det ps)
theorem lap_lin (r : Nat → Int) (a b : Int) : ∀ (us : List Nat) (f g : List Nat → Int), lap r us (fun vs => a * f vs + b * g vs) = a * lap r us f + b * lap r us g
  | [], f, g => by simp [lap]
  | u :: us, f, g => by
    simp only [lap]
    rw [lap_lin r a b us (fun vs => f (u :: vs)) (fun vs => g (u :: vs))]
    grind
theorem lap_zero (r : Nat → Int) : ∀ (us : List Nat), lap r us (fun _ => 0) = 0
  | [] => rfl
  | u :: us => by simp only [lap]; rw [lap_zero r us]; simp
theorem lap_off (r : Nat → Int) : ∀ (us : List Nat) (f : List Nat → Int), (∀ u ∈ us, r u = 0) → lap r us f = 0
  | [], _, _ => rfl
  | u :: us, f, h => by
    simp only [lap]
    rw [h u (by simp), lap_off r us _ fun v hv => h v (by simp [hv])]; simp
theorem lap_swap (r p : Nat → Int) : ∀ (us : List Nat) (f : List Nat → Int), lap r us (fun vs => lap p vs f) = - lap p us (fun vs => lap r vs f)
  | [], f => by simp [lap]
  | u :: us, f => by
    have a : lap r us (fun vs => p u * f vs + (-1) * lap p vs fun ws => f (u :: ws)) = p u * lap r us f + (-1) * lap r us fun vs => lap p vs fun ws => f (u :: ws) := lap_lin r (p u) (-1) us _ _
    have b : lap p us (fun vs => r u * f vs + (-1) * lap r vs fun ws => f (u :: ws)) = r u * lap p us f + (-1) * lap p us fun vs => lap r vs fun ws => f (u :: ws) := lap_lin p (r u) (-1) us _ _
    have c := lap_swap r p us (fun ws => f (u :: ws))
    have a' : (fun vs => lap p (u :: vs) f) = fun vs => p u * f vs + (-1) * lap p vs fun ws => f (u :: ws) := by funext vs; simp only [lap]; (first | lia | omega)
    have b' : (fun vs => lap r (u :: vs) f) = fun vs => r u * f vs + (-1) * lap r vs fun ws => f (u :: ws) := by funext vs; simp only [lap]; (first | lia | omega)
    show r u * lap p us f - lap r us (fun vs => lap p (u :: vs) f) = - (p u * lap r us f - lap p us (fun vs => lap r (u :: vs) f))
    rw [a', b', a, b, c]; (first | lia | omega)
theorem det_rep (r : Nat → Int) : ∀ (ps : List (Nat → Int)) (us : List Nat), r ∈ ps → det (r :: ps) us = 0
  | [], _, h => nomatch h
  | p :: ps, us, h => by
    have s := lap_swap r p us (det ps)
    show lap r us (fun vs => lap p vs (det ps)) = 0
    by_cases e : r = p
    · subst e; (first | lia | omega)
    · have h' : r ∈ ps := by simpa [e] using h
      rw [s, show (fun vs => lap r vs (det ps)) = fun _ => 0 from funext fun vs => det_rep r ps vs h', lap_zero]; rfl
inductive Good : List (Nat → Int) → List Nat → Prop
  | nil : Good [] []
  | cons {p ps u us} : Good ps us → det (p :: ps) (u :: us) ≠ 0 → Good (p :: ps) (u :: us)
theorem Good.ne {ps us} (h : Good ps us) : det ps us ≠ 0 := by
  cases h with
  | nil => decide
  | cons _ h => exact h
theorem lin1 (r : Nat → Int) (ps : List (Nat → Int)) (j : Nat) (us : List Nat) : det (r :: ps) (j :: us) = r j * det ps us - lap r us fun vs => det ps (j :: vs) := rfl
theorem Good.ns {ps us} (G : Good ps us) : ∀ h : List Nat → Int, (∀ p ∈ ps, lap p us h = 0) → ∀ r, lap r us h = 0 := by
  induction G with
  | nil => intro h _ r; rfl
  | @cons p ps u us G hd ih =>
    intro h hp r
    have key : ∀ r, det ps us * lap r (u :: us) h = h us * det (r :: ps) (u :: us) + lap r us fun vs => h us * det ps (u :: vs) + (- det ps us) * h (u :: vs) := by
      intro r
      rw [lap_lin, lin1]
      simp only [lap]
      grind
    have z : ∀ r, lap r us (fun vs => h us * det ps (u :: vs) + (- det ps us) * h (u :: vs)) = 0 := by
      refine ih _ fun q hq => ?_
      have k := key q
      rw [hp q (by simp [hq]), det_rep q ps _ hq] at k
      (first | lia | omega)
    have k := key p
    rw [hp p (by simp), z p] at k
    have a : h us = 0 := by
      have : h us * det (p :: ps) (u :: us) = 0 := by (first | lia | omega)
      rcases Int.mul_eq_zero.mp this with e | e
      · exact e
      · exact (hd e).elim
    have k := key r
    rw [z r, a] at k
    have : det ps us * lap r (u :: us) h = 0 := by (first | lia | omega)
    rcases Int.mul_eq_zero.mp this with e | e
    · exact (G.ne e).elim
    · exact e
theorem Good.syl {ps us} (G : Good ps us) (p r : Nat → Int) (u j : Nat) :
    det (r :: p :: ps) (j :: u :: us) * det ps us = det (r :: ps) (j :: us) * det (p :: ps) (u :: us) - det (p :: ps) (j :: us) * det (r :: ps) (u :: us) := by
  let h : List Nat → Int := fun vs => det ps us * det (p :: ps) (j :: u :: vs) + 1 * (det (p :: ps) (u :: us) * det ps (j :: vs) + (- det (p :: ps) (j :: us)) * det ps (u :: vs))
  have key : ∀ r, det ps us * det (r :: p :: ps) (j :: u :: us) - det (p :: ps) (u :: us) * det (r :: ps) (j :: us) + det (p :: ps) (j :: us) * det (r :: ps) (u :: us) = lap r us h := by
    intro r
    have e1 : lap r us h = det ps us * lap r us (fun vs => det (p :: ps) (j :: u :: vs)) + 1 * (det (p :: ps) (u :: us) * lap r us (fun vs => det ps (j :: vs)) + (- det (p :: ps) (j :: us)) * lap r us fun vs => det ps (u :: vs)) := by
      rw [← lap_lin, ← lap_lin]
    have e2 : det (r :: p :: ps) (j :: u :: us) = r j * det (p :: ps) (u :: us) - (r u * det (p :: ps) (j :: us) - lap r us fun vs => det (p :: ps) (j :: u :: vs)) := rfl
    rw [e1, e2, lin1 r ps j us, lin1 r ps u us]
    grind
  have z := G.ns h fun q hq => by
    rw [← key q, det_rep q ps _ hq, det_rep q ps _ hq, det_rep q (p :: ps) _ (by simp [hq])]; simp
  have k := key r
  rw [z r] at k
  grind
def dl (u j : Nat) : Int := if j = u then 1 else 0
theorem det_dl {u : Nat} {us : List Nat} (ps : List (Nat → Int)) (j : Nat) (h : ¬ u ∈ us) : det (dl u :: ps) (j :: us) = dl u j * det ps us := by
  rw [lin1, lap_off]
  · simp
  · intro v hv
    unfold dl
    rw [if_neg]
    intro e; exact h (e ▸ hv)
end Ev
namespace Ev
def g (l : List Int) (j : Nat) : Int := l.getD j 0
def clr (l p : List Int) (u : Nat) (d : Int) : List Int := List.zipWith (fun a b => (a * g p u - b * g l u).fdiv d) l p
def dotc : List Int → List (List Int) → Nat → Int
  | f :: fs, r :: rs, j => f * g r j + dotc fs rs j
  | _, _, _ => 0
def bsum : List (Nat × List Int) → List Int → Nat → Int
  | x :: r, row, j => g row x.1 * g x.2 j + bsum r row j
  | [], _, _ => 0
theorem g_lt {l : List Int} {j : Nat} (h : j < l.length) : l[j]? = some (g l j) := by
  unfold g; rw [List.getD_eq_getElem?_getD]; simp [h]
theorem g_clr {l p : List Int} {u : Nat} {d : Int} {j : Nat} (h : j < l.length) (h' : j < p.length) : g (clr l p u d) j = (g l j * g p u - g p j * g l u).fdiv d := by
  unfold clr
  have e : ∀ a b, l[j]? = some a → p[j]? = some b → g (List.zipWith (fun a b => (a * g p u - b * g l u).fdiv d) l p) j = (a * g p u - b * g l u).fdiv d := by
    intro a b ha hb
    show (List.zipWith _ l p).getD j 0 = _
    rw [List.getD_eq_getElem?_getD, List.getElem?_zipWith, ha, hb]; rfl
  exact e _ _ (g_lt h) (g_lt h')
theorem len_clr {l p : List Int} {u : Nat} {d : Int} (h : l.length = p.length) : (clr l p u d).length = l.length := by
  unfold clr; rw [List.length_zipWith]; (first | lia | omega)
theorem g_drop (l : List Int) (k j : Nat) : g (l.drop k) j = g l (k + j) := by
  unfold g; rw [List.getD_eq_getElem?_getD, List.getD_eq_getElem?_getD, List.getElem?_drop]
theorem dotc_lin {d a b : Int} : ∀ (X L P : List Int) (rows : List (List Int)) (j : Nat), X.length = L.length → P.length = L.length → (∀ i, i < L.length → g X i * d = g L i * a - g P i * b) →
    dotc X rows j * d = dotc L rows j * a - dotc P rows j * b
  | [], [], [], rows, j, _, _, _ => by cases rows <;> simp [dotc]
  | x :: X, l :: L, p :: P, [], j, _, _, _ => by simp [dotc]
  | x :: X, l :: L, p :: P, r :: rs, j, h1, h2, h => by
    have ih := dotc_lin X L P rs j (by simpa using h1) (by simpa using h2) fun i hi => by
      have := h (i + 1) (by simpa using hi)
      simpa [g] using this
    have h0 : x * d = l * a - p * b := by simpa [g] using h 0 (by simp)
    simp only [dotc]
    grind
  | [], _ :: _, _, _, _, h1, _, _ => by simp at h1
  | _ :: _, [], _, _, _, h1, _, _ => by simp at h1
  | [], [], _ :: _, _, _, _, h2, _ => by simp at h2
  | _ :: _, _ :: _, [], _, _, _, h2, _ => by simp at h2
structure RInv (n : Nat) (rows : List (List Int)) (t : Nat) (d : Int) (bd : List (Nat × List Int)) (rest : List (List Int)) : Prop where
  dets : ∃ ps us, Good ps us ∧ det ps us = d ∧ (∀ u, u ∈ us → u < t) ∧ (∀ l ∈ rest, ∃ r, ∀ j, j < n + 1 + rows.length → g l j = det (r :: ps) (j :: us)) ∧
    ∀ x ∈ bd, ∀ j, j < n + 1 + rows.length → g x.2 j = d * dl x.1 j - det (dl x.1 :: ps) (j :: us)
  lenR : ∀ l ∈ rest, l.length = n + 1 + rows.length
  lenB : ∀ x ∈ bd, x.2.length = n + 1 + rows.length
  zero : ∀ l ∈ rest, ∀ j, j < t → g l j = 0
  keys : (bd.map (·.1)).Pairwise (· < ·)
  below : ∀ x ∈ bd, x.1 < t
  diag : ∀ x ∈ bd, ∀ y ∈ bd, g x.2 y.1 = d * dl x.1 y.1
  low : ∀ x ∈ bd, ∀ j, j < x.1 → g x.2 j = 0
  cmbR : ∀ l ∈ rest, ∀ j, j ≤ n → g l j = dotc (l.drop (n + 1)) rows j
  cmbB : ∀ x ∈ bd, ∀ j, j ≤ n → g x.2 j = dotc (x.2.drop (n + 1)) rows j
  span : ∀ row ∈ rows, (∀ j, j ≤ n → d * g row j = bsum bd row j) ∨ ∃ l ∈ rest, ∀ j, j ≤ n → g l j = d * g row j - bsum bd row j
theorem RInv.dne {n rows t d bd rest} (I : RInv n rows t d bd rest) : d ≠ 0 := by
  obtain ⟨ps, us, G, e, _⟩ := I.dets
  rw [← e]; exact G.ne
theorem bsum_clr {d a b : Int} {p : List Int} {t j : Nat} (row : List Int) : ∀ bd : List (Nat × List Int), (∀ x ∈ bd, g (clr x.2 p t d) j * d = g x.2 j * a - b * g x.2 t) →
    bsum (bd.map fun x => (x.1, clr x.2 p t d)) row j * d = bsum bd row j * a - b * bsum bd row t
  | [], _ => by simp [bsum]
  | x :: r, h => by
    have ih := bsum_clr row r fun y hy => h y (by simp [hy])
    have h0 := h x (by simp)
    simp only [List.map_cons, bsum]
    grind
theorem bsum_app (row : List Int) (j : Nat) : ∀ (a b : List (Nat × List Int)), bsum (a ++ b) row j = bsum a row j + bsum b row j
  | [], b => by simp [bsum]
  | x :: r, b => by simp only [List.cons_append, bsum]; rw [bsum_app row j r b]; (first | lia | omega)
theorem RInv.skip {n rows t d bd rest} (I : RInv n rows t d bd rest) (h : ∀ l ∈ rest, g l t = 0) : RInv n rows (t + 1) d bd rest := by
  obtain ⟨ps, us, G, e, hu, r⟩ := I.dets
  exact ⟨⟨ps, us, G, e, fun u q => Nat.lt_succ_of_lt (hu u q), r⟩, I.lenR, I.lenB, fun l hl j hj => by
    by_cases q : j = t
    · rw [q]; exact h l hl
    · exact I.zero l hl j (by (first | lia | omega)), I.keys, fun x hx => Nat.lt_succ_of_lt (I.below x hx), I.diag, I.low, I.cmbR, I.cmbB, I.span⟩
theorem RInv.exact {n rows t d bd rest p} (I : RInv n rows t d bd rest) (ht : t < n) (hp : p ∈ rest) :
    (∀ l ∈ rest, ∀ j, j < n + 1 + rows.length → g (clr l p t d) j * d = g l j * g p t - g p j * g l t) ∧
    ∀ x ∈ bd, ∀ j, j < n + 1 + rows.length → g (clr x.2 p t d) j * d = g x.2 j * g p t - g p j * g x.2 t := by
  obtain ⟨ps, us, G, e, hu, hr, hb⟩ := I.dets
  obtain ⟨rp, hrp⟩ := hr p hp
  have dn := I.dne
  have lp := I.lenR p hp
  refine ⟨fun l hl j hj => ?_, fun x hx j hj => ?_⟩
  · obtain ⟨r, hrr⟩ := hr l hl
    rw [g_clr (by rw [I.lenR l hl]; exact hj) (by rw [lp]; exact hj), hrr j hj, hrr t (by (first | lia | omega)), hrp j hj, hrp t (by (first | lia | omega))]
    have s := G.syl rp r t j
    rw [← s, e, Int.mul_fdiv_cancel _ dn]
  · rw [g_clr (by rw [I.lenB x hx]; exact hj) (by rw [lp]; exact hj), hb x hx j hj, hb x hx t (by (first | lia | omega)), hrp j hj, hrp t (by (first | lia | omega))]
    have s := G.syl rp (dl x.1) t j
    have z : dl x.1 t = 0 := by unfold dl; rw [if_neg]; have := I.below x hx; (first | lia | omega)
    rw [z]
    have num : (d * dl x.1 j - det (dl x.1 :: ps) (j :: us)) * det (rp :: ps) (t :: us) - det (rp :: ps) (j :: us) * (d * 0 - det (dl x.1 :: ps) (t :: us)) = (det (rp :: ps) (t :: us) * dl x.1 j - det (dl x.1 :: rp :: ps) (j :: t :: us)) * d := by
      rw [← e] at *; grind
    rw [num, Int.mul_fdiv_cancel _ dn]
theorem RInv.dets_step {n rows t d bd rest p} {rest' : List (List Int)} (I : RInv n rows t d bd rest) (ht : t < n) (hp : p ∈ rest) (h0 : g p t ≠ 0) (hs : ∀ l ∈ rest', l ∈ rest) :
    ∃ ps us, Good ps us ∧ det ps us = g p t ∧ (∀ u, u ∈ us → u < t + 1) ∧ (∀ l ∈ rest'.map (clr · p t d), ∃ r, ∀ j, j < n + 1 + rows.length → g l j = det (r :: ps) (j :: us)) ∧
    ∀ x ∈ (bd.map fun x => (x.1, clr x.2 p t d)) ++ [(t, p)], ∀ j, j < n + 1 + rows.length → g x.2 j = g p t * dl x.1 j - det (dl x.1 :: ps) (j :: us) := by
  have ex := I.exact ht hp
  have dn := I.dne
  obtain ⟨ps, us, G, e, hu, hr, hb⟩ := I.dets
  obtain ⟨rp, hrp⟩ := hr p hp
  have ept : det (rp :: ps) (t :: us) = g p t := (hrp t (by (first | lia | omega))).symm
  refine ⟨rp :: ps, t :: us, .cons G (by rw [ept]; exact h0), ept, fun u q => ?_, fun l' hl' => ?_, fun x' hx' j hj => ?_⟩
  · rcases List.mem_cons.mp q with q | q
    · (first | lia | omega)
    · exact Nat.lt_succ_of_lt (hu u q)
  · obtain ⟨l, hl, rfl⟩ := List.mem_map.mp hl'
    obtain ⟨r, hrr⟩ := hr l (hs l hl)
    refine ⟨r, fun j hj => Int.eq_of_mul_eq_mul_right dn ?_⟩
    rw [ex.1 l (hs l hl) j hj, hrr j hj, hrr t (by (first | lia | omega)), hrp j hj, hrp t (by (first | lia | omega)), ← e, G.syl rp r t j]
  · rcases List.mem_append.mp hx' with hx' | hx'
    · obtain ⟨x, hx, rfl⟩ := List.mem_map.mp hx'
      refine Int.eq_of_mul_eq_mul_right dn ?_
      show g (clr x.2 p t d) j * d = _
      have s := G.syl rp (dl x.1) t j
      have z : dl x.1 t = 0 := by unfold dl; rw [if_neg]; have := I.below x hx; (first | lia | omega)
      rw [ex.2 x hx j hj, hb x hx j hj, hb x hx t (by (first | lia | omega)), hrp j hj, hrp t (by (first | lia | omega)), z]
      show _ = (_ * dl x.1 j - det (dl x.1 :: rp :: ps) (j :: t :: us)) * d
      rw [← e] at *; grind
    · have ex' : x' = (t, p) := by simpa using hx'
      subst ex'
      show g p j = g p t * dl t j - det (dl t :: rp :: ps) (j :: t :: us)
      refine Int.eq_of_mul_eq_mul_right dn ?_
      have s := G.syl rp (dl t) t j
      have nt : ¬ t ∈ us := fun q => Nat.lt_irrefl _ (hu t q)
      rw [det_dl ps j nt, det_dl ps t nt, show dl t t = 1 from if_pos rfl] at s
      rw [hrp j hj, hrp t (by (first | lia | omega))]
      rw [← e] at *; grind
theorem RInv.step {n rows t d bd rest p i} (I : RInv n rows t d bd rest) (ht : t < n) (hi : rest[i]? = some p) (h0 : g p t ≠ 0) :
    RInv n rows (t + 1) (g p t) ((bd.map fun x => (x.1, clr x.2 p t d)) ++ [(t, p)]) ((rest.take i ++ rest.drop (i + 1)).map (clr · p t d)) := by
  have hp : p ∈ rest := List.mem_of_getElem? hi
  have hs : ∀ l ∈ rest.take i ++ rest.drop (i + 1), l ∈ rest := fun l hl => by
    rcases List.mem_append.mp hl with q | q
    · exact List.mem_of_mem_take q
    · exact List.mem_of_mem_drop q
  have ex := I.exact ht hp
  have dn := I.dne
  have lp := I.lenR p hp
  have hz : ∀ j, j < t → g p j = 0 := I.zero p hp
  refine ⟨I.dets_step ht hp h0 hs, fun l' hl' => ?_, fun x' hx' => ?_, fun l' hl' j hj => ?_, ?_, fun x' hx' => ?_, fun x' hx' y' hy' => ?_, fun x' hx' j hj => ?_, fun l' hl' j hj => ?_, fun x' hx' j hj => ?_, fun row hrow => ?_⟩
  · obtain ⟨l, hl, rfl⟩ := List.mem_map.mp hl'
    rw [len_clr (by rw [lp, I.lenR l (hs l hl)]), I.lenR l (hs l hl)]
  · rcases List.mem_append.mp hx' with hx' | hx'
    · obtain ⟨x, hx, rfl⟩ := List.mem_map.mp hx'
      show (clr x.2 p t d).length = _
      rw [len_clr (by rw [lp, I.lenB x hx]), I.lenB x hx]
    · have e : x' = (t, p) := by simpa using hx'
      subst e; exact lp
  · obtain ⟨l, hl, rfl⟩ := List.mem_map.mp hl'
    refine Int.eq_of_mul_eq_mul_right dn ?_
    show g (clr l p t d) j * d = 0 * d
    rw [ex.1 l (hs l hl) j (by (first | lia | omega))]
    by_cases q : j = t
    · subst q; grind
    · rw [hz j (by (first | lia | omega)), I.zero l (hs l hl) j (by (first | lia | omega))]; simp
  · rw [List.map_append, List.map_map]
    have e : ((fun x : Nat × List Int => x.1) ∘ fun x : Nat × List Int => (x.1, clr x.2 p t d)) = fun x : Nat × List Int => x.1 := rfl
    rw [e, List.pairwise_append]
    refine ⟨I.keys, by simp, fun a ha b hb => ?_⟩
    obtain ⟨x, hx, rfl⟩ := List.mem_map.mp ha
    have : b = t := by simpa using hb
    subst this; exact I.below x hx
  · rcases List.mem_append.mp hx' with hx' | hx'
    · obtain ⟨x, hx, rfl⟩ := List.mem_map.mp hx'
      exact Nat.lt_succ_of_lt (I.below x hx)
    · have e : x' = (t, p) := by simpa using hx'
      subst e; exact Nat.lt_succ_self _
  · have key : ∀ x ∈ bd, ∀ v, v ≤ t → (v = t ∨ ∃ y ∈ bd, y.1 = v) → g (clr x.2 p t d) v = g p t * dl x.1 v := by
      intro x hx v hv o
      refine Int.eq_of_mul_eq_mul_right dn ?_
      rw [ex.2 x hx v (by (first | lia | omega))]
      have bx := I.below x hx
      rcases o with o | ⟨y, hy, o⟩
      · subst o
        have z : dl x.1 v = 0 := by unfold dl; rw [if_neg]; (first | lia | omega)
        rw [z]; grind
      · have by' := I.below y hy
        subst o
        rw [hz y.1 by', I.diag x hx y hy]; grind
    rcases List.mem_append.mp hx' with hx' | hx'
    · obtain ⟨x, hx, rfl⟩ := List.mem_map.mp hx'
      rcases List.mem_append.mp hy' with hy' | hy'
      · obtain ⟨y, hy, rfl⟩ := List.mem_map.mp hy'
        exact key x hx y.1 (Nat.le_of_lt (I.below y hy)) (.inr ⟨y, hy, rfl⟩)
      · have e : y' = (t, p) := by simpa using hy'
        subst e
        exact key x hx t (Nat.le_refl _) (.inl rfl)
    · have e : x' = (t, p) := by simpa using hx'
      subst e
      rcases List.mem_append.mp hy' with hy' | hy'
      · obtain ⟨y, hy, rfl⟩ := List.mem_map.mp hy'
        have by' := I.below y hy
        show g p y.1 = g p t * dl t y.1
        have z : dl t y.1 = 0 := by unfold dl; rw [if_neg]; (first | lia | omega)
        rw [hz y.1 by', z]; simp
      · have e : y' = (t, p) := by simpa using hy'
        subst e
        show g p t = g p t * dl t t
        rw [show dl t t = 1 from if_pos rfl]; simp
  · rcases List.mem_append.mp hx' with hx' | hx'
    · obtain ⟨x, hx, rfl⟩ := List.mem_map.mp hx'
      have bx := I.below x hx
      have hj' : j < x.1 := hj
      refine Int.eq_of_mul_eq_mul_right dn ?_
      show g (clr x.2 p t d) j * d = 0 * d
      rw [ex.2 x hx j (by (first | lia | omega)), hz j (by (first | lia | omega)), I.low x hx j hj']; simp
    · have e : x' = (t, p) := by simpa using hx'
      subst e; exact hz j hj
  · obtain ⟨l, hl, rfl⟩ := List.mem_map.mp hl'
    have ll := I.lenR l (hs l hl)
    refine Int.eq_of_mul_eq_mul_right dn ?_
    show g (clr l p t d) j * d = _
    have dd := dotc_lin (d := d) (a := g p t) (b := g l t) ((clr l p t d).drop (n + 1)) (l.drop (n + 1)) (p.drop (n + 1)) rows j (by rw [List.length_drop, List.length_drop, len_clr (by (first | lia | omega))]) (by rw [List.length_drop, List.length_drop]; (first | lia | omega)) fun i hi => by
      rw [List.length_drop] at hi
      rw [g_drop, g_drop, g_drop]
      exact ex.1 l (hs l hl) _ (by (first | lia | omega))
    rw [dd, ex.1 l (hs l hl) j (by (first | lia | omega)), ← I.cmbR l (hs l hl) j hj, ← I.cmbR p hp j hj]
  · rcases List.mem_append.mp hx' with hx' | hx'
    · obtain ⟨x, hx, rfl⟩ := List.mem_map.mp hx'
      have ll := I.lenB x hx
      refine Int.eq_of_mul_eq_mul_right dn ?_
      show g (clr x.2 p t d) j * d = dotc ((clr x.2 p t d).drop (n + 1)) rows j * d
      have dd := dotc_lin (d := d) (a := g p t) (b := g x.2 t) ((clr x.2 p t d).drop (n + 1)) (x.2.drop (n + 1)) (p.drop (n + 1)) rows j (by rw [List.length_drop, List.length_drop, len_clr (by (first | lia | omega))]) (by rw [List.length_drop, List.length_drop]; (first | lia | omega)) fun i hi => by
        rw [List.length_drop] at hi
        rw [g_drop, g_drop, g_drop]
        exact ex.2 x hx _ (by (first | lia | omega))
      rw [dd, ex.2 x hx j (by (first | lia | omega)), ← I.cmbB x hx j hj, ← I.cmbR p hp j hj]
    · have e : x' = (t, p) := by simpa using hx'
      subst e; exact I.cmbR p hp j hj
  · have bs : ∀ j, j ≤ n → bsum ((bd.map fun x => (x.1, clr x.2 p t d)) ++ [(t, p)]) row j * d = bsum bd row j * g p t - g p j * bsum bd row t + g row t * g p j * d := by
      intro j hj
      rw [bsum_app, Int.add_mul, bsum_clr (a := g p t) (b := g p j) row bd fun x hx => ex.2 x hx j (by (first | lia | omega))]
      simp [bsum]
    rcases I.span row hrow with h | ⟨l, hl, h⟩
    · refine .inl fun j hj => Int.eq_of_mul_eq_mul_right dn ?_
      rw [bs j hj, ← h j hj, ← h t (by (first | lia | omega))]; grind
    · by_cases q : l = p
      · subst q
        refine .inl fun j hj => Int.eq_of_mul_eq_mul_right dn ?_
        rw [bs j hj]
        have a := h j hj
        have b := h t (by (first | lia | omega))
        grind
      · refine .inr ⟨clr l p t d, List.mem_map.mpr ⟨l, ?_, rfl⟩, fun j hj => Int.eq_of_mul_eq_mul_right dn ?_⟩
        · obtain ⟨k, hk⟩ := List.mem_iff_getElem?.mp hl
          have hne : k ≠ i := fun z => by subst z; rw [hi] at hk; exact q (Option.some.inj hk).symm
          rw [List.mem_append]
          by_cases lt : k < i
          · exact .inl (List.mem_of_getElem? (i := k) (by rw [List.getElem?_take, if_pos lt]; exact hk))
          · exact .inr (List.mem_of_getElem? (i := k - (i + 1)) (by rw [List.getElem?_drop, show i + 1 + (k - (i + 1)) = k by (first | lia | omega)]; exact hk))
        · have a := h j hj
          have b := h t (by (first | lia | omega))
          have c := bs j hj
          rw [ex.1 l hl j (by (first | lia | omega))]
          grind
end Ev
namespace Ev
open PySem L2
def top (i : Nat) : Stmt := PySem.Challenge.pw_evenscales_k06_refused.main.body.getD i (.Pass ⟨0, 0, 0, 0⟩)
abbrev sGd : Stmt := top 7
abbrev sFrac : Stmt := top 8
abbrev sPlus : Stmt := top 9
abbrev sTimes : Stmt := top 10
abbrev sCheck : Stmt := top 12
abbrev sSop : Stmt := top 13
abbrev sWeighed : Stmt := top 14
abbrev sFits : Stmt := top 15
abbrev sOne : Stmt := top 18
abbrev sLines : Stmt := top 19
abbrev sFirst : Stmt := top 20
abbrev sClr : Stmt := top 21
abbrev sRed : Stmt := top 22
abbrev sPoint : Stmt := top 24
abbrev sWay : Stmt := top 25
abbrev sWays : Stmt := top 26
abbrev sAns : Stmt := top 27
abbrev sSolved : Stmt := top 28
abbrev sMoved : Stmt := top 29
abbrev sSolW : Stmt := top 30
abbrev sSameS : Stmt := top 31
abbrev sTell : Stmt := top 33
abbrev sFacs : Stmt := top 34
abbrev sFollows : Stmt := top 35
abbrev sAt : Stmt := top 37
abbrev sNumber : Stmt := top 38
abbrev sRowsBy : Stmt := top 39
abbrev sSaid : Stmt := top 40
abbrev sCommon : Stmt := top 41
abbrev sLowest : Stmt := top 42
abbrev sLows : Stmt := top 43
abbrev sAdd : Stmt := top 44
abbrev sMul : Stmt := top 45
abbrev sIs : Stmt := top 46
abbrev sWeight : Stmt := top 47
abbrev sSolves : Stmt := top 48
abbrev sNever : Stmt := top 49
abbrev sWayH : Stmt := top 50
abbrev sAll : Stmt := top 51
abbrev sAnsH : Stmt := top 52
abbrev sWhole : Stmt := top 53
abbrev sMixed : Stmt := top 54
abbrev sRefuses : Stmt := top 55
abbrev sDue : Stmt := top 56
abbrev sLaw : Stmt := top 57
abbrev sRInit : Stmt := inClass (top 17) 0
section
variable {P : Program} {w : World} {K : PySem.W.Frag} {mg : Str → Option Value} {base : Heap}
def spGd : Sp := fun vs H Q _ => ∃ a b : Int, vs = [.int a, .int b] ∧ Q (.int (gd a b)) H
theorem scGd : FnScope ["one", "two", "larger", "smaller", "rest"] ["one", "two"] (defScope sGd) := ⟨rfl, rfl, rfl, by decide +kernel, rfl, by decide +kernel, by decide +kernel⟩
def mu3 (σ : St) : Nat := match σ[3]? with | some (some (V.int s)) => s.toNat | _ => 0
theorem onT_mk {b : Bool} {q : Prop} (e : b = true) (h : q) : onT b q := by subst e; exact h
theorem ok_gd {f : Addr} {fd : FuncData} (D : Def K mg "greatest_divisor" sGd ["one", "two"] f fd) (B : Blt mg) : FnOk P w K mg base CX0 1 f fd ["one", "two"] spGd := by
  refine D.fn.ok scGd (fun vs H Q E h => ?_) (fun cdv A outer s H vs Q E hr h => ?_)
  · obtain ⟨a, b, rfl, _⟩ := h
    rfl
  · obtain ⟨a, b, rfl, k⟩ := h
    refine ⟨_, pss_cons (ps_set (i := 2) scGd.nd rfl (Or.inl rfl) (pe_callB call_abs (by rfl) B.abs bt_abs (pa_cons (pv 0) pa_nil)))
      (pss_cons (ps_set (i := 3) scGd.nd rfl (Or.inl rfl) (pe_callB call_abs (by rfl) B.abs bt_abs (pa_cons (pv 1) pa_nil)))
      (pss_cons (ps_while PassesOwn.never (pt_cmpR op_ne (pv 3) pe_int (nomark _))
        (pss_cons (ps_set (i := 4) scGd.nd rfl (Or.inl rfl) (pe_op op_modN (pv 2) (pv 3)))
        (pss_cons (ps_set (i := 2) scGd.nd rfl (Or.inl rfl) (pv 3))
        (pss_one (ps_set (i := 3) scGd.nd rfl (Or.inl rfl) (pv 4))))))
      (pss_one (ps_ret (pv 2))))), ?_⟩
    refine ⟨_, rfl, _, rfl, ?_⟩
    refine while_by (fun σ H' => ∃ (l s : Int) (r : Option V), σ = [some (.int a), some (.int b), some (.int l), some (.int s), r] ∧ H' = H ∧ 0 ≤ l ∧ 0 ≤ s ∧ gd l s = gd a b) (fun σ _ => mu3 σ)
      ⟨_, _, none, rfl, rfl, ab_nonneg a, ab_nonneg b, gd_ab a b⟩ ?_ ?_
    · rintro σ H' ⟨l, s, r, rfl, rfl, hl, hs, e⟩
      refine ⟨_, rfl, ?_⟩
      by_cases h0 : s = 0
      · subst h0
        refine iteF' ?_ ?_
        · simp
        · refine (?_)
          rw [gd_zero hl] at e
          rw [e]
          exact k
      · refine iteT' ?_ ?_
        · simpa using h0
        · have p : 0 < s := by (first | lia | omega)
          refine ⟨h0, ⟨_, _, _, rfl, rfl, hs, Int.fmod_nonneg_of_pos l p, ?_⟩, ?_⟩
          · rw [gd_step]; exact e
          · show (l.fmod s).toNat < s.toNat
            have := Int.fmod_nonneg_of_pos l p
            have := Int.fmod_lt_of_pos l p
            (first | lia | omega)
    · rintro σ H' Q1 Q2 hq h
      obtain ⟨v, e, h⟩ := onV.ex h
      obtain ⟨hs, c, e2, q⟩ := onT.ex h
      exact onV.mk e (onT_mk hs ⟨c, e2, hq _ _ q⟩)
def spPlusX (K : PySem.W.Frag) : Sp := fun vs H Q _ => ∃ (a b : Addr) (p q : Rat) (n : Nat), vs = [.ref a, .ref b] ∧ FrAt K H a p ∧ FrAt K H b q ∧ Sz n p ∧ Sz n q ∧ n ≤ 50000000 ∧
  ∀ (c : Addr) (H' : Hp), H c = none → H' c = some (.tup (FrT (p + q))) → Same H H' → Q (.ref c) H'
theorem scPlusX : FnScope ["one", "two", "shared", "top", "divisor"] ["one", "two"] (defScope sPlus) := ⟨rfl, rfl, rfl, by decide +kernel, rfl, by decide +kernel, by decide +kernel⟩
theorem ok_plusX {f fg : Addr} {fd fdg : FuncData} (D : Def K mg "plus" sPlus ["one", "two"] f fd) (B : Blt mg) (hP : P.given.tree = none) (Dg : Def K mg "greatest_divisor" sGd ["one", "two"] fg fdg) : FnOk P w K mg base CX0 2 f fd ["one", "two"] (spPlusX K) := by
  have G : FnOk P w K mg base CX0 1 fg fdg ["one", "two"] spGd := ok_gd Dg B
  refine D.fn.ok scPlusX (fun vs H Q E h => ?_) (fun cdv A outer s H vs Q E hr h => ?_)
  · obtain ⟨a, b, p, q, n, rfl, _⟩ := h
    rfl
  · obtain ⟨a, b, p, q, n, rfl, ha, hb, zp, zq, hn, k⟩ := h
    have pd := den_pos p
    have qd := den_pos q
    obtain ⟨g0, h0, e1, e2⟩ := plus_ok p q _ _ _ rfl rfl rfl
    refine ⟨_, pss_cons (ps_set (i := 2) scPlusX.nd rfl (Or.inl rfl) (pe_call G hr (by rfl) Dg.mg Dg.fn.kp Dg.bd .nil pass0 (pa_cons (pe_ix ix_tup (pv 0) pe_int plainC) (pa_cons (pe_ix ix_tup (pv 1) pe_int plainC) pa_nil))))
      (pss_cons (ps_set (i := 3) scPlusX.nd rfl (Or.inl rfl) (pe_op op_add
        (pe_op op_mulB (pe_ix ix_tup (pv 0) pe_int plainC) (pe_op (op_fdivX rfl rfl rfl hP hr.pylong) (pe_ix ix_tup (pv 1) pe_int plainC) (pv 2)))
        (pe_op op_mulB (pe_ix ix_tup (pv 1) pe_int plainC) (pe_op (op_fdivX rfl rfl rfl hP hr.pylong) (pe_ix ix_tup (pv 0) pe_int plainC) (pv 2)))))
      (pss_cons (ps_set (i := 4) scPlusX.nd rfl (Or.inl rfl) (pe_call G hr (by rfl) Dg.mg Dg.fn.kp Dg.bd .nil pass0 (pa_cons (pv 3) (pa_cons (pv 2) pa_nil))))
      (pss_one (ps_ret (pe_tup (pa_cons (pe_op (op_fdivX rfl rfl rfl hP hr.pylong) (pv 3) (pv 4)) (pa_cons (pe_op op_mulB (pe_op (op_fdivX rfl rfl rfl hP hr.pylong) (pe_ix ix_tup (pv 0) pe_int plainC) (pv 2)) (pe_op (op_fdivX rfl rfl rfl hP hr.pylong) (pe_ix ix_tup (pv 1) pe_int plainC) (pv 4))) pa_nil))))))), ?_⟩
    have sp1 : ((p.den : Int)).natAbs < 2 ^ n := by simpa using zp.2
    have sq1 : ((q.den : Int)).natAbs < 2 ^ n := by simpa using zq.2
    -- shared
    refine ⟨_, _, ha, rfl, _, _, hb, rfl, _, _, rfl, ?_⟩
    -- top
    refine ⟨_, _, ha, rfl, _, _, hb, rfl, g0, cmul_of zp.1 (fdiv_lt_pow sq1) (by (first | lia | omega)), ?_⟩
    refine ⟨_, _, hb, rfl, _, _, ha, rfl, g0, cmul_of zq.1 (fdiv_lt_pow sp1) (by (first | lia | omega)), ?_⟩
    -- divisor
    refine ⟨_, _, rfl, ?_⟩
    -- the pair
    refine ⟨h0, ?_⟩
    refine ⟨_, _, ha, rfl, g0, _, _, hb, rfl, h0, cmul_of (fdiv_lt_pow sp1) (fdiv_lt_pow sq1) (by (first | lia | omega)), ?_⟩
    refine ⟨by show 2 ≤ sizeLine; decide, fun c hc => k c _ hc ?_ (Same.upd hc)⟩
    rw [upd_same]
    unfold FrT
    rw [← e1, ← e2]
def spFracX : Sp := fun vs H Q _ => ∃ t b : Int, vs = [.int t, .int b] ∧ b ≠ 0 ∧ ∀ (c : Addr) (H' : Hp), H c = none → H' c = some (.tup (FrT (Rat.divInt t b))) → Same H H' → Q (.ref c) H'
theorem scFracX : FnScope ["top", "bottom", "divisor"] ["top", "bottom"] (defScope sFrac) := ⟨rfl, rfl, rfl, by decide +kernel, rfl, by decide +kernel, by decide +kernel⟩
theorem dv_ne (t : Int) {b : Int} (h : b ≠ 0) : dv t b ≠ 0 := by
  have := gd_pos_right t h
  unfold dv; split <;> (first | lia | omega)
theorem ok_fracX {f fg : Addr} {fd fdg : FuncData} (D : Def K mg "fraction" sFrac ["top", "bottom"] f fd) (B : Blt mg) (hP : P.given.tree = none) (Dg : Def K mg "greatest_divisor" sGd ["one", "two"] fg fdg) : FnOk P w K mg base CX0 2 f fd ["top", "bottom"] spFracX := by
  have G : FnOk P w K mg base CX0 1 fg fdg ["one", "two"] spGd := ok_gd Dg B
  refine D.fn.ok scFracX (fun vs H Q E h => ?_) (fun cdv A outer s H vs Q E hr h => ?_)
  · obtain ⟨t, b, rfl, _⟩ := h
    rfl
  · obtain ⟨t, b, rfl, hb, k⟩ := h
    refine ⟨_, pss_cons (ps_if (pt_cmpR op_eq (pv 1) pe_int (nomark _)) pss_never pss_nil)
      (pss_cons (ps_set (i := 2) scFracX.nd rfl (Or.inl rfl) (pe_call G hr (by rfl) Dg.mg Dg.fn.kp Dg.bd .nil pass0 (pa_cons (pv 0) (pa_cons (pv 1) pa_nil))))
      (pss_cons (ps_if (pt_cmpR op_lt (pv 1) pe_int (nomark _)) (pss_one (ps_set (i := 2) scFracX.nd rfl (Or.inl rfl) (pe_un un_neg (pv 2)))) pss_nil)
      (pss_one (ps_ret (pe_tup (pa_cons (pe_op (op_fdivX rfl rfl rfl hP hr.pylong) (pv 0) (pv 2)) (pa_cons (pe_op (op_fdivX rfl rfl rfl hP hr.pylong) (pv 1) (pv 2)) pa_nil))))))), ?_⟩
    obtain ⟨e1, e2⟩ := frac_ok (t := t) hb
    have d0 := dv_ne t hb
    refine ⟨_, rfl, iteF' (by simpa using hb) ?_⟩
    refine ⟨_, _, rfl, ?_⟩
    refine ⟨_, rfl, ?_⟩
    by_cases h : b < 0
    · refine iteT' (by simpa using h) (?_)
      have ed : -(gd t b) = dv t b := by unfold dv; rw [if_pos h]
      rw [← ed] at d0 e1 e2
      refine ⟨d0, d0, (by show 2 ≤ sizeLine; decide), fun c hc => k c _ hc ?_ (Same.upd hc)⟩
      rw [upd_same]
      unfold FrT
      rw [← e1, ← e2]
    · refine iteF' (by simpa using h) ?_
      have ed : gd t b = dv t b := by unfold dv; rw [if_neg h]
      rw [← ed] at d0 e1 e2
      refine ⟨d0, d0, (by show 2 ≤ sizeLine; decide), fun c hc => k c _ hc ?_ (Same.upd hc)⟩
      rw [upd_same]
      unfold FrT
      rw [← e1, ← e2]
def spTimesX (K : PySem.W.Frag) : Sp := fun vs H Q _ => ∃ (a b : Addr) (p q : Rat) (n : Nat), vs = [.ref a, .ref b] ∧ FrAt K H a p ∧ FrAt K H b q ∧ Sz n p ∧ Sz n q ∧ n ≤ 25000000 ∧
  ∀ (c : Addr) (H' : Hp), H c = none → H' c = some (.tup (FrT (p * q))) → Same H H' → Q (.ref c) H'
theorem scTimesX : FnScope ["one", "two"] ["one", "two"] (defScope sTimes) := ⟨rfl, rfl, rfl, by decide +kernel, rfl, by decide +kernel, by decide +kernel⟩
theorem mul_divInt (p q : Rat) : Rat.divInt (p.num * q.num) ((p.den : Int) * q.den) = p * q := by
  conv => rhs; rw [← Rat.num_divInt_den p, ← Rat.num_divInt_den q]
  rw [Rat.divInt_mul_divInt]
theorem ok_timesX {f ff fg : Addr} {fd fdf fdg : FuncData} (D : Def K mg "times" sTimes ["one", "two"] f fd) (B : Blt mg) (hP : P.given.tree = none) (Df : Def K mg "fraction" sFrac ["top", "bottom"] ff fdf) (Dg : Def K mg "greatest_divisor" sGd ["one", "two"] fg fdg) :
    FnOk P w K mg base CX0 3 f fd ["one", "two"] (spTimesX K) := by
  have G : FnOk P w K mg base CX0 2 ff fdf ["top", "bottom"] spFracX := ok_fracX Df B hP Dg
  refine D.fn.ok scTimesX (fun vs H Q E h => ?_) (fun cdv A outer s H vs Q E hr h => ?_)
  · obtain ⟨a, b, p, q, n, rfl, _⟩ := h
    rfl
  · obtain ⟨a, b, p, q, n, rfl, ha, hb, zp, zq, hn, k⟩ := h
    have hp := den_pos p
    have hq := den_pos q
    have dp : ((p.den : Int)).natAbs < 2 ^ n := by simpa using zp.2
    have dq : ((q.den : Int)).natAbs < 2 ^ n := by simpa using zq.2
    refine ⟨_, pss_one (ps_ret (pe_call G hr (by rfl) Df.mg Df.fn.kp Df.bd .nil pass0 (pa_cons (pe_op op_mulB (pe_ix ix_tup (pv 0) pe_int plainC) (pe_ix ix_tup (pv 1) pe_int plainC)) (pa_cons (pe_op op_mulB (pe_ix ix_tup (pv 0) pe_int plainC) (pe_ix ix_tup (pv 1) pe_int plainC)) pa_nil)))), ?_⟩
    refine ⟨_, _, ha, rfl, _, _, hb, rfl, cmul_of zp.1 zq.1 (by (first | lia | omega)), ?_⟩
    refine ⟨_, _, ha, rfl, _, _, hb, rfl, cmul_of dp dq (by (first | lia | omega)), ?_⟩
    refine ⟨_, _, rfl, (by have := Int.mul_pos hp hq; (first | lia | omega)), fun c H' h1 h2 h3 => k c H' h1 ?_ h3⟩
    rw [h2, mul_divInt]
theorem sz_times {p q : Rat} {m n : Nat} (hp : Sz m p) (hq : Sz n q) : Sz (m + n) (p * q) := by
  have hb := den_pos p
  have hd := den_pos q
  have hn : (p.den : Int) * q.den ≠ 0 := by have := Int.mul_pos hb hd; (first | lia | omega)
  obtain ⟨e1, e2⟩ := frac_ok (t := p.num * q.num) hn
  rw [mul_divInt] at e1 e2
  constructor
  · rw [← e1]; exact fdiv_lt_pow (mul_lt_pow hp.1 hq.1)
  · have h : ((p * q).den : Int).natAbs < 2 ^ (m + n) := by
      rw [← e2]
      exact fdiv_lt_pow (mul_lt_pow (by simpa using hp.2) (by simpa using hq.2))
    simpa using h
def dot : List Int → List Rat → Rat
  | n :: ns, q :: qs => (n : Rat) * q + dot ns qs
  | _, _ => 0
def FrsAt (K : PySem.W.Frag) (H : Hp) (cs : List Addr) (qs : List Rat) : Prop := Paired (fun c q => FrAt K H c q) cs qs
theorem FrsAt.len {H : Hp} {cs : List Addr} {qs : List Rat} (h : FrsAt K H cs qs) : cs.length = qs.length := Paired.length h
theorem FrsAt.get {H : Hp} : ∀ {cs : List Addr} {qs : List Rat} {i : Nat} {c : Addr}, FrsAt K H cs qs → cs[i]? = some c → ∃ q, qs[i]? = some q ∧ FrAt K H c q
  | _, _, _, _, .nil, e => by simp at e
  | _, _, 0, _, .cons r _, e => by simp at e; subst e; exact ⟨_, rfl, r⟩
  | _, _, i + 1, c, .cons _ t, e => by
    obtain ⟨q, h1, h2⟩ := FrsAt.get (i := i) (c := c) t (by simpa using e)
    exact ⟨q, by simpa using h1, h2⟩
theorem FrsAt.same {H H' : Hp} (s : Same H H') : ∀ {cs : List Addr} {qs : List Rat}, FrsAt K H cs qs → FrsAt K H' cs qs
  | _, _, .nil => .nil
  | _, _, .cons r t => .cons (s.fr r) (FrsAt.same s t)
theorem dot_take : ∀ (ns : List Int) (qs : List Rat) (i : Nat) (n : Int) (q : Rat), ns[i]? = some n → qs[i]? = some q → dot (ns.take (i + 1)) (qs.take (i + 1)) = dot (ns.take i) (qs.take i) + (n : Rat) * q
  | [], _, i, n, q, h, _ => by simp at h
  | _ :: _, [], i, n, q, _, h => by simp at h
  | a :: ns, b :: qs, 0, n, q, h1, h2 => by
    simp at h1 h2
    subst h1; subst h2
    simp [dot, Rat.add_comm]
  | a :: ns, b :: qs, i + 1, n, q, h1, h2 => by
    have ih := dot_take ns qs i n q (by simpa using h1) (by simpa using h2)
    rw [List.take_succ_cons, List.take_succ_cons, List.take_succ_cons, List.take_succ_cons]
    show (a : Rat) * b + dot (ns.take (i + 1)) (qs.take (i + 1)) = (a : Rat) * b + dot (ns.take i) (qs.take i) + (n : Rat) * q
    rw [ih, Rat.add_assoc]
def SzI (n : Nat) (i : Int) : Prop := i.natAbs < 2 ^ n
theorem sz_int {n : Nat} {i : Int} (h : SzI n i) : Sz (n + 1) (i : Rat) := by
  constructor
  · rw [Rat.num_intCast]; exact pow_mono h (by (first | lia | omega))
  · rw [Rat.den_intCast]; exact Nat.one_lt_two_pow (by (first | lia | omega))
def spSop (K : PySem.W.Frag) : Sp := fun vs H Q _ => ∃ (a b : Addr) (ns : List Int) (cs : List Addr) (qs : List Rat) (m : Nat), vs = [.ref a, .ref b] ∧ SqL K H a (ns.map V.int) ∧ SqL K H b (cs.map V.ref) ∧ FrsAt K H cs qs ∧ ns.length = qs.length ∧
  (∀ n ∈ ns, SzI m n) ∧ (∀ q ∈ qs, Sz m q) ∧ m ≤ 1000000 ∧ (ns.length + 1) * (2 * m + 2) ≤ 20000000 ∧
  ∀ (c : Addr) (H' : Hp), H c = none → H' c = some (.tup (FrT (dot ns qs))) → Same H H' → Q (.ref c) H'
theorem scSop : FnScope ["numbers", "parts", "total", "number", "part"] ["numbers", "parts"] (defScope sSop) := ⟨rfl, rfl, rfl, by decide +kernel, rfl, by decide +kernel, by decide +kernel⟩
theorem frT_int (i : Int) : FrT (i : Rat) = [.int i, .int 1] := by unfold FrT; rw [Rat.num_intCast, Rat.den_intCast]; rfl
theorem ok_sop {f fp ft ff fg : Addr} {fd fdp fdt fdf fdg : FuncData} (D : Def K mg "sum_of_products" sSop ["numbers", "parts"] f fd) (B : Blt mg) (hP : P.given.tree = none) (bz : mg "zip" = none) (Dp : Def K mg "plus" sPlus ["one", "two"] fp fdp) (Dt : Def K mg "times" sTimes ["one", "two"] ft fdt)
    (Df : Def K mg "fraction" sFrac ["top", "bottom"] ff fdf) (Dg : Def K mg "greatest_divisor" sGd ["one", "two"] fg fdg) : FnOk P w K mg base CX0 4 f fd ["numbers", "parts"] (spSop K) := by
  have GP : FnOk P w K mg base CX0 3 fp fdp ["one", "two"] (spPlusX K) := (ok_plusX Dp B hP Dg).mono (by decide)
  have GT : FnOk P w K mg base CX0 3 ft fdt ["one", "two"] (spTimesX K) := ok_timesX Dt B hP Df Dg
  refine D.fn.ok scSop (fun vs H Q E h => ?_) (fun cdv A outer s H vs Q E hr h => ?_)
  · obtain ⟨a, b, ns, cs, qs, m, rfl, _⟩ := h
    rfl
  · obtain ⟨a, b, ns, cs, qs, m, rfl, ha, hb, hF, hl, sn, sq, hm, hlen, k⟩ := h
    refine ⟨_, pss_cons (ps_set (i := 2) scSop.nd rfl (Or.inl rfl) (pe_tup (pa_cons pe_int (pa_cons pe_int pa_nil))))
      (pss_cons (ps_for PassesOwn.never rfl (pi_zip (by rfl) bz (pa_cons (pv 0) (pa_cons (pv 1) pa_nil))) (pg_tup rfl (pgs_cons (pg_name (i := 3) scSop.nd rfl (Or.inl rfl)) (pgs_cons (pg_name (i := 4) scSop.nd rfl (Or.inl rfl)) pgs_nil)))
        (pss_one (ps_set (i := 2) scSop.nd rfl (Or.inl rfl) (pe_call GP hr (by rfl) Dp.mg Dp.fn.kp Dp.bd .nil pass0 (pa_cons (pv 2) (pa_cons (pe_call GT hr (by rfl) Dt.mg Dt.fn.kp Dt.bd .nil pass0 (pa_cons (pe_tup (pa_cons (pv 3) (pa_cons pe_int pa_nil))) (pa_cons (pv 4) pa_nil))) pa_nil))))))
      (pss_one (ps_ret (pv 2)))), ?_⟩
    refine ⟨(by show 2 ≤ sizeLine; decide), fun t0 ht0 => ?_⟩
    have s0 : Same H (upd H t0 (.tup [.int 0, .int 1])) := Same.upd ht0
    refine ⟨a, b, rfl, ⟨_, s0.seq ha⟩, ⟨_, s0.seq hb⟩, ?_⟩
    have lc : cs.length = qs.length := hF.len
    have lmin : min (ns.map V.int).length (cs.map V.ref).length = ns.length := by simp; (first | lia | omega)
    refine for_zip (xs := ns.map V.int) (ys := cs.map V.ref) (fun i σ H' => ∃ (t : Addr) (x y : Option V), σ = [some (.ref a), some (.ref b), some (.ref t), x, y] ∧ Same H H' ∧ H t = none ∧ H' t = some (.tup (FrT (dot (ns.take i) (qs.take i)))) ∧ Sz ((i + 1) * (2 * m + 2)) (dot (ns.take i) (qs.take i)))
      ⟨t0, none, none, rfl, s0, ht0, ?_, ?_⟩ (fun i σ H' _ ⟨_, _, _, _, s1, _⟩ => ⟨s1.seq ha, s1.seq hb⟩) ?_ ?_
    · rw [upd_same]
      show some (HO.tup [.int 0, .int 1]) = some (HO.tup (FrT (dot [] [])))
      rfl
    · show Sz _ (dot [] [])
      refine Sz.mono (n := 1) ⟨by decide, by decide⟩ ?_
      (first | lia | omega)
    · rintro i x y σ H' T hx hy ⟨t, x', y', rfl, sm, ht, e, hz⟩ hT
      rw [List.getElem?_map] at hx hy
      cases en : ns[i]? with
      | none => rw [en] at hx; cases hx
      | some n =>
        cases ec : cs[i]? with
        | none => rw [ec] at hy; cases hy
        | some c =>
          rw [en] at hx; rw [ec] at hy
          have hx' : x = V.int n := (Option.some.inj hx).symm
          have hy' : y = V.ref c := (Option.some.inj hy).symm
          subst hx' hy'
          obtain ⟨q, eq, hq⟩ := hF.get ec
          have hi : i < ns.length := (List.getElem?_eq_some_iff.mp en).1
          have zn : Sz (m + 1) (n : Rat) := sz_int (sn n (List.mem_of_getElem? en))
          have zq : Sz m q := sq q (List.mem_of_getElem? eq)
          have zt := sz_times zn zq
          have smT : Same H' (upd H' T (.tup [.int n, .ref c])) := Same.upd hT
          have hb1 : (i + 1) * (2 * m + 2) ≤ 20000000 := Nat.le_trans (Nat.mul_le_mul_right _ (by (first | lia | omega))) hlen
          refine ⟨T, _, rfl, SqT.of upd_same, rfl, _, _, rfl, _, _, rfl, rfl, ?_⟩
          refine ⟨(by show 2 ≤ sizeLine; decide), fun p hp => ?_⟩
          have smp : Same (upd H' T (.tup [.int n, .ref c])) (upd (upd H' T (.tup [.int n, .ref c])) p (.tup [.int n, .int 1])) := Same.upd hp
          have fp' : FrAt K (upd (upd H' T (.tup [.int n, .ref c])) p (.tup [.int n, .int 1])) p (n : Rat) := frAt_new (by rw [upd_same, frT_int])
          refine ⟨p, c, (n : Rat), q, m + 1, rfl, fp', smp.fr (smT.fr (sm.fr hq)), zn, zq.mono (by (first | lia | omega)), (by (first | lia | omega)), fun u H2 nu eu s2 => ?_⟩
          have sAll : Same H' H2 := smT.trans (smp.trans s2)
          refine ⟨t, u, dot (ns.take i) (qs.take i), (n : Rat) * q, (i + 1) * (2 * m + 2) , rfl, frAt_new (sAll _ _ e), frAt_new eu, hz, zt.mono ?_, (by (first | lia | omega)), fun v H3 nv ev s3 => ?_⟩
          · have : 1 * (2 * m + 2) ≤ (i + 1) * (2 * m + 2) := Nat.mul_le_mul_right _ (by (first | lia | omega))
            (first | lia | omega)
          · refine ⟨v, _, _, rfl, sm.trans (sAll.trans s3), (sm.trans sAll).free nv, ?_, ?_⟩
            · rw [dot_take ns qs i n q en eq]; exact ev
            · rw [dot_take ns qs i n q en eq]
              have hz2 : Sz ((i + 1) * (2 * m + 2) + (m + 1 + m) + 1) (dot (ns.take i) (qs.take i) + (n : Rat) * q) := sz_plus hz zt
              have e3 : (i + 1 + 1) * (2 * m + 2) = (i + 1) * (2 * m + 2) + (2 * m + 2) := Nat.succ_mul _ _
              exact hz2.mono (by (first | lia | omega))
    · rintro σ H' ⟨t, x', y', rfl, sm, ht, e, hz⟩
      rw [lmin] at e
      rw [List.take_length, hl, List.take_length] at e
      exact (k t H' ht e sm)
def RowsAt (K : PySem.W.Frag) (H : Hp) (ps : List Addr) (rs : List (List Int)) : Prop := Paired (fun p r => SqL K H p (r.map V.int)) ps rs
theorem RowsAt.len {H : Hp} {ps : List Addr} {rs : List (List Int)} (h : RowsAt K H ps rs) : ps.length = rs.length := Paired.length h
theorem RowsAt.get {H : Hp} : ∀ {ps : List Addr} {rs : List (List Int)} {i : Nat} {p : Addr}, RowsAt K H ps rs → ps[i]? = some p → ∃ r, rs[i]? = some r ∧ SqL K H p (r.map V.int)
  | _, _, _, _, .nil, e => by simp at e
  | _, _, 0, _, .cons r _, e => by simp at e; subst e; exact ⟨_, rfl, r⟩
  | _, _, i + 1, c, .cons _ t, e => by
    obtain ⟨q, h1, h2⟩ := RowsAt.get (i := i) (p := c) t (by simpa using e)
    exact ⟨q, by simpa using h1, h2⟩
theorem RowsAt.same {H H' : Hp} (s : Same H H') : ∀ {ps : List Addr} {rs : List (List Int)}, RowsAt K H ps rs → RowsAt K H' ps rs
  | _, _, .nil => .nil
  | _, _, .cons r t => .cons (s.seq r) (RowsAt.same s t)
def spCheck (K : PySem.W.Frag) (C : Addr) : Sp := fun vs H Q E => ∃ (n : Nat) (a : Addr) (ps : List Addr) (rs : List (List Int)), vs = [.int n, .ref a] ∧ SqL K H a (ps.map V.ref) ∧ RowsAt K H ps rs ∧ rs.length ≤ 1000 ∧
  ((∃ r ∈ rs, r.length ≠ n + 1) → ∀ H', Same H H' → E (.ref C) none H') ∧ ((∀ r ∈ rs, r.length = n + 1) → ∀ H', Same H H' → Q .non H')
theorem scCheck : FnScope ["count", "rows", "index", "row"] ["count", "rows"] (defScope sCheck) := ⟨rfl, rfl, rfl, by decide +kernel, rfl, by decide +kernel, by decide +kernel⟩
theorem ok_check {f C : Addr} {fd : FuncData} (D : Def K mg "check_rows" sCheck ["count", "rows"] f fd) (B : Blt mg) (be : mg "enumerate" = none) (EC : ExcC K mg "BadRow" C) : FnOk P w K mg base (CXF P w) 1 f fd ["count", "rows"] (spCheck K C) := by
  refine D.fn.okF scCheck (fun vs H Q E h => ?_) (fun cdv A outer s H vs Q E hr h => ?_)
  · obtain ⟨n, a, ps, rs, rfl, _⟩ := h
    rfl
  · obtain ⟨n, a, ps, rs, rfl, ha, hR, hl, kE, kQ⟩ := h
    refine ⟨_, pss_one (ps_for PassesOwn.leaving rfl (pi_enum (by rfl) be (pa_cons (pv 1) pa_nil)) (pg_tup rfl (pgs_cons (pg_name (i := 2) scCheck.nd rfl (Or.inl rfl)) (pgs_cons (pg_name (i := 3) scCheck.nd rfl (Or.inl rfl)) pgs_nil)))
      (pss_one (ps_if (pt_cmpR op_ne (pe_callB call_len_seq (by rfl) B.len bt_len (pa_cons (pv 3) pa_nil)) (pe_op op_add (pv 0) pe_int) (nomark _)) (pss_one (ps_raise raises_cxOf EC rfl (by rfl) (pa_cons (pe_fstr3 (pv 2)) pa_nil))) pss_nil))), ?_⟩
    refine ⟨a, rfl, ⟨_, ha⟩, ?_⟩
    refine for_enum (xs := ps.map V.ref) (fun i σ H' => ∃ (x y : Option V), σ = [some (.int n), some (.ref a), x, y] ∧ Same H H' ∧ ∀ j r, j < i → rs[j]? = some r → r.length = n + 1) ⟨none, none, rfl, fun _ _ e => e, fun j _ h => absurd h (Nat.not_lt_zero j)⟩
      (fun i σ H' _ ⟨_, _, _, s1, _⟩ => s1.seq ha) ?_ ?_
    · rintro i x σ H' T hx ⟨x', y', rfl, sm, hj⟩ hT
      rw [List.getElem?_map] at hx
      cases ep : ps[i]? with
      | none => rw [ep] at hx; cases hx
      | some p =>
        rw [ep] at hx
        have hx' : x = V.ref p := (Option.some.inj hx).symm
        subst hx'
        obtain ⟨r, er, hr'⟩ := hR.get ep
        have hi : i < ps.length := (List.getElem?_eq_some_iff.mp ep).1
        have hlen := hR.len
        have s2 : Same H' (upd H' T (.tup [.int i, .ref p])) := Same.upd hT
        refine ⟨T, _, rfl, SqT.of upd_same, rfl, _, _, rfl, _, _, rfl, rfl, ?_⟩
        refine ⟨_, .inl (s2.seq (sm.seq hr')), _, rfl, ?_⟩
        by_cases hb : r.length = n + 1
        · refine iteF' (by simp [hb]) ⟨_, _, rfl, sm.trans s2, fun j r' hj' er' => ?_⟩
          by_cases hji : j < i
          · exact hj j r' hji er'
          · have : j = i := by (first | lia | omega)
            subst this
            rw [er] at er'; cases er'
            exact hb
        · refine iteT' (by simp; (first | lia | omega)) ?_
          refine ⟨_, rfl, ?_, (by show 1 ≤ sizeLine; decide), kE ⟨r, List.mem_of_getElem? er, hb⟩ _ (sm.trans s2)⟩
          have : (2 : Nat) ^ 64 = 18446744073709551616 := by decide
          (first | lia | omega)
    · rintro σ H' ⟨x', y', rfl, sm, hj⟩
      refine kQ (fun r hr' => ?_) H' sm
      obtain ⟨j, er⟩ := List.getElem?_of_mem hr'
      have : j < rs.length := (List.getElem?_eq_some_iff.mp er).1
      have hlen := hR.len
      exact hj j r (by simp; (first | lia | omega)) er
def colOf (rs : List (List Int)) (j : Nat) : List Int := rs.map fun r => r.getD j 0
theorem _root_.L2.Same.updn {H H' : Hp} {p : Addr} {o : HO} (s : Same H H') (hn : H p = none) : Same H (upd H' p o) := fun b u e => by rw [upd_ne (ne_of_none e hn)]; exact s b u e
def TupsAt (H : Hp) (cs : List Addr) (qs : List Rat) : Prop := Paired (fun c q => H c = some (.tup (FrT q))) cs qs
theorem TupsAt.same {H H' : Hp} (s : Same H H') : ∀ {cs : List Addr} {qs : List Rat}, TupsAt H cs qs → TupsAt H' cs qs
  | _, _, .nil => .nil
  | _, _, .cons r t => .cons (s _ _ r) (TupsAt.same s t)
theorem TupsAt.snoc {H : Hp} {c : Addr} {q : Rat} (hc : H c = some (.tup (FrT q))) : ∀ {cs : List Addr} {qs : List Rat}, TupsAt H cs qs → TupsAt H (cs ++ [c]) (qs ++ [q])
  | _, _, .nil => .cons hc .nil
  | _, _, .cons a t => .cons a (TupsAt.snoc hc t)
theorem TupsAt.frs {H : Hp} : ∀ {cs : List Addr} {qs : List Rat}, TupsAt H cs qs → FrsAt K H cs qs
  | _, _, .nil => .nil
  | _, _, .cons r t => .cons (frAt_new r) (TupsAt.frs t)
theorem TupsAt.get {H : Hp} : ∀ {cs : List Addr} {qs : List Rat} {i : Nat} {c : Addr}, TupsAt H cs qs → cs[i]? = some c → ∃ q, qs[i]? = some q ∧ H c = some (.tup (FrT q))
  | _, _, _, _, .nil, e => by simp at e
  | _, _, 0, _, .cons r _, e => by simp at e; subst e; exact ⟨_, rfl, r⟩
  | _, _, i + 1, c, .cons _ t, e => by
    obtain ⟨q, h1, h2⟩ := TupsAt.get (i := i) (c := c) t (by simpa using e)
    exact ⟨q, by simpa using h1, h2⟩
theorem TupsAt.upd {H : Hp} {p : Addr} {o : HO} : ∀ {cs : List Addr} {qs : List Rat}, TupsAt H cs qs → (∀ xs, H p ≠ some (.tup xs)) → TupsAt (upd H p o) cs qs
  | _, _, .nil, _ => .nil
  | _, _, .cons r t, h => .cons (by rw [upd_ne (fun z => h _ (by rw [← z]; exact r))]; exact r) (TupsAt.upd t h)
def spWhole : Sp := fun vs H Q _ => ∃ i : Int, vs = [.int i] ∧ Q (.bl true) H
theorem scWhole : FnScope ["_law_found"] ["_law_found"] (defScope sWhole) := ⟨rfl, rfl, rfl, by decide +kernel, rfl, by decide +kernel, by decide +kernel⟩
theorem ok_whole {f : Addr} {fd : FuncData} (D : Def K mg "_law_whole" sWhole ["_law_found"] f fd) (B : Blt mg) : FnOk P w K mg base CX0 1 f fd ["_law_found"] spWhole := by
  refine D.fn.ok scWhole (fun vs H Q E h => ?_) (fun cdv A outer s H vs Q E hr h => ?_)
  · obtain ⟨i, rfl, _⟩ := h
    rfl
  · obtain ⟨i, rfl, k⟩ := h
    refine ⟨_, pss_one (ps_ret (pe_and (pe_callB call_isi (by rfl) B.isi bt_isi (pa_cons (pv 0) (pa_cons (pe_bltn (v := .ty "int") (by rfl) B.int bt_int rfl) pa_nil)))
      (pe_one (pe_not (pe_callB call_isi (by rfl) B.isi bt_isi (pa_cons (pv 0) (pa_cons (pe_bltn (v := .ty "bool") (by rfl) B.bool bt_bool rfl) pa_nil))))))), ?_⟩
    refine ⟨_, _, _, _, rfl, .int i, kit_ii K, _, rfl, iteT' rfl ?_⟩
    exact ⟨_, _, _, _, rfl, .int i, kit_ib K, _, rfl, k⟩
def spAt (K : PySem.W.Frag) : Sp := fun vs H Q _ => ∃ (a : Addr) (ns : List Int) (k : Nat), vs = [.ref a, .int k] ∧ SqL K H a (ns.map V.int) ∧ Q (.int (ns.getD k 0)) H
theorem scAt : FnScope ["_law_script", "_law_k"] ["_law_script", "_law_k"] (defScope sAt) := ⟨rfl, rfl, rfl, by decide +kernel, rfl, by decide +kernel, by decide +kernel⟩
theorem ok_at {f : Addr} {fd : FuncData} (D : Def K mg "_law_at" sAt ["_law_script", "_law_k"] f fd) (B : Blt mg) : FnOk P w K mg base CX0 1 f fd ["_law_script", "_law_k"] (spAt K) := by
  refine D.fn.ok scAt (fun vs H Q E h => ?_) (fun cdv A outer s H vs Q E hr h => ?_)
  · obtain ⟨a, ns, k, rfl, _⟩ := h
    rfl
  · obtain ⟨a, ns, k, rfl, hS, q⟩ := h
    refine ⟨_, pss_cons (ps_if (pt_cmpR op_lt (pv 1) (pe_callB call_len_seq (by rfl) B.len bt_len (pa_cons (pv 0) pa_nil)) (nomark _)) (pss_one (ps_ret (pe_ix ix_list (pv 0) (pv 1) plainN))) pss_nil) (pss_one (ps_ret pe_int)), ?_⟩
    refine ⟨_, .inl hS, _, rfl, ?_⟩
    by_cases hk : k < ns.length
    · refine iteT' (by simpa using hk) ?_
      refine ⟨_, _, hS, atI_nat (j := k) (v := .int (ns.getD k 0)) ?_, q⟩
      rw [List.getElem?_map, List.getD_eq_getElem?_getD, List.getElem?_eq_getElem hk]
      rfl
    · refine iteF' (by simpa using hk) ?_
      have e : ns.getD k 0 = 0 := by
        rw [List.getD_eq_getElem?_getD, List.getElem?_eq_none (by (first | lia | omega))]
        rfl
      rw [e] at q
      exact q
def spCommon : Sp := fun vs H Q _ => ∃ a b : Int, vs = [.int a, .int b] ∧ 0 ≤ a ∧ 0 ≤ b ∧ Q (.int (gd a b)) H
theorem scCommon : FnScope ["_law_one", "_law_two", "_law_most", "_law_least", "_law_rest"] ["_law_one", "_law_two"] (defScope sCommon) := ⟨rfl, rfl, rfl, by decide +kernel, rfl, by decide +kernel, by decide +kernel⟩
theorem ok_common {f : Addr} {fd : FuncData} (D : Def K mg "_law_common" sCommon ["_law_one", "_law_two"] f fd) : FnOk P w K mg base CX0 1 f fd ["_law_one", "_law_two"] spCommon := by
  refine D.fn.ok scCommon (fun vs H Q E h => ?_) (fun cdv A outer s H vs Q E hr h => ?_)
  · obtain ⟨a, b, rfl, _⟩ := h
    rfl
  · obtain ⟨a, b, rfl, a0, b0, k⟩ := h
    refine ⟨_, pss_cons (ps_set (i := 3) scCommon.nd rfl (Or.inl rfl) (pv 1))
      (pss_cons (ps_set (i := 2) scCommon.nd rfl (Or.inl rfl) (pv 0))
      (pss_cons (ps_while PassesOwn.never (pt_cmpR op_gt (pv 3) pe_int (nomark _))
        (pss_cons (ps_set (i := 4) scCommon.nd rfl (Or.inl rfl) (pe_op op_modN (pv 2) (pv 3)))
        (pss_cons (ps_set (i := 2) scCommon.nd rfl (Or.inl rfl) (pv 3))
        (pss_one (ps_set (i := 3) scCommon.nd rfl (Or.inl rfl) (pv 4))))))
      (pss_one (ps_ret (pv 2))))), ?_⟩
    refine (?_)
    refine while_by (fun σ H' => ∃ (l s : Int) (r : Option V), σ = [some (.int a), some (.int b), some (.int l), some (.int s), r] ∧ H' = H ∧ 0 ≤ l ∧ 0 ≤ s ∧ gd l s = gd a b) (fun σ _ => mu3 σ)
      ⟨_, _, none, rfl, rfl, a0, b0, rfl⟩ ?_ ?_
    · rintro σ H' ⟨l, s, r, rfl, rfl, hl, hs, e⟩
      refine ⟨_, rfl, ?_⟩
      by_cases h0 : s = 0
      · subst h0
        refine iteF' (by simp) (?_)
        rw [gd_zero hl] at e
        rw [e]
        exact k
      · have p : 0 < s := by (first | lia | omega)
        refine iteT' (by simpa using p) ?_
        refine ⟨h0, ⟨_, _, _, rfl, rfl, hs, Int.fmod_nonneg_of_pos l p, ?_⟩, ?_⟩
        · rw [gd_step]; exact e
        · show (l.fmod s).toNat < s.toNat
          have := Int.fmod_nonneg_of_pos l p
          have := Int.fmod_lt_of_pos l p
          (first | lia | omega)
    · rintro σ H' Q1 Q2 hq h
      obtain ⟨v, e, h⟩ := onV.ex h
      obtain ⟨i, j, e1, e2, c, e3, q⟩ := onII.ex h
      exact onV.mk e (onI.mk e1 (onI.mk e2 ⟨c, e3, hq _ _ q⟩))
def spLowest : Sp := fun vs H Q _ => ∃ (a : Addr) (x y : Int), vs = [.ref a] ∧ H a = some (.tup [.int x, .int y]) ∧ 1 ≤ y ∧ Q (.bl (decide (gd x y = 1))) H
theorem scLowest : FnScope ["_law_found"] ["_law_found"] (defScope sLowest) := ⟨rfl, rfl, rfl, by decide +kernel, rfl, by decide +kernel, by decide +kernel⟩
theorem ok_lowest {f fw fc : Addr} {fd fdw fdc : FuncData} (D : Def K mg "_law_lowest" sLowest ["_law_found"] f fd) (B : Blt mg) (Dw : Def K mg "_law_whole" sWhole ["_law_found"] fw fdw) (Dc : Def K mg "_law_common" sCommon ["_law_one", "_law_two"] fc fdc) :
    FnOk P w K mg base CX0 2 f fd ["_law_found"] spLowest := by
  have GW : FnOk P w K mg base CX0 1 fw fdw ["_law_found"] spWhole := ok_whole Dw B
  have GC : FnOk P w K mg base CX0 1 fc fdc ["_law_one", "_law_two"] spCommon := ok_common Dc
  refine D.fn.ok scLowest (fun vs H Q E h => ?_) (fun cdv A outer s H vs Q E hr h => ?_)
  · obtain ⟨a, x, y, rfl, _⟩ := h
    rfl
  · obtain ⟨a, x, y, rfl, ha, hy, k⟩ := h
    have hT : SqT K H a [.int x, .int y] := SqT.of ha
    refine ⟨_, pss_cons (ps_if (PW.pt (pw_or (pt_not (pt_val (pe_callB call_isi (by rfl) B.isi bt_isi (pa_cons (pv 0) (pa_cons (pe_bltn (v := .ty "tuple") (by rfl) B.tuple bt_tuple rfl) pa_nil))))) (pw_or1 (pt_cmpR op_ne (pe_callB call_len_seq (by rfl) B.len bt_len (pa_cons (pv 0) pa_nil)) pe_int (nomark _)))))
        (pss_one (ps_ret pe_bl)) pss_nil)
      (pss_cons (ps_if (PW.pt (pw_or (pt_not (pt_val (pe_call GW hr (by rfl) Dw.mg Dw.fn.kp Dw.bd .nil pass0 (pa_cons (pe_ix ix_tup (pv 0) pe_int plainC) pa_nil))))
          (pw_or (pt_not (pt_val (pe_call GW hr (by rfl) Dw.mg Dw.fn.kp Dw.bd .nil pass0 (pa_cons (pe_ix ix_tup (pv 0) pe_int plainC) pa_nil)))) (pw_or1 (pt_cmpR op_lt (pe_ix ix_tup (pv 0) pe_int plainC) pe_int (nomark _))))))
        (pss_one (ps_ret pe_bl)) pss_nil)
      (pss_one (ps_ret (pe_cmpR op_eq (pe_call GC hr (by rfl) Dc.mg Dc.fn.kp Dc.bd .nil pass0 (pa_cons (pe_callB call_abs (by rfl) B.abs bt_abs (pa_cons (pe_ix ix_tup (pv 0) pe_int plainC) pa_nil)) (pa_cons (pe_ix ix_tup (pv 0) pe_int plainC) pa_nil))) pe_int (nomark _))))), ?_⟩
    refine ⟨_, _, _, _, rfl, .tup ha, kit_tt K, _, rfl, iteF' rfl ?_⟩
    refine ⟨_, .inr hT, _, rfl, iteF' (by simp) ?_⟩
    refine ⟨_, _, hT, rfl, _, rfl, _, rfl, iteF' rfl ?_⟩
    refine ⟨_, _, hT, rfl, _, rfl, _, rfl, iteF' rfl ?_⟩
    refine ⟨_, _, hT, rfl, _, rfl, iteF' (by simp; (first | lia | omega)) ?_⟩
    refine ⟨_, _, hT, rfl, _, rfl, _, _, hT, rfl, _, _, rfl, ab_nonneg x, (by (first | lia | omega)), ?_⟩
    have e : gd (ab x) y = gd x y := by unfold ab; split; rw [gd_neg_left]; rfl
    have e2 : decide (V.int (gd (ab x) y) = V.int 1) = decide (gd x y = 1) := by rw [e]; simp
    show Q (.bl (decide (V.int (gd (ab x) y) = V.int 1))) H
    rw [e2]
    exact k
def mixOne (ns : List Int) (k : Nat) : Int := (ns.getD k 0 + 7919 * (k : Int)) * 48271 % 1000003
def mixed (ns : List Int) : List Int := (List.range ns.length).map (mixOne ns)
theorem mixed_len (ns : List Int) : (mixed ns).length = ns.length := by unfold mixed; simp
theorem mixOne_in (ns : List Int) (k : Nat) : 0 ≤ mixOne ns k ∧ mixOne ns k < 1000003 := by unfold mixOne; (first | lia | omega)
def spMixed (K : PySem.W.Frag) : Sp := fun vs H Q _ => ∃ (a : Addr) (ns : List Int), vs = [.ref a] ∧ SqL K H a (ns.map V.int) ∧ ns.length ≤ 1000 ∧ ∀ (c : Addr) (H' : Hp), H c = none → H' c = some (.lst ((mixed ns).map V.int)) → Same H H' → Q (.ref c) H'
theorem scMixed : FnScope ["_law_script"] ["_law_script"] (defScope sMixed) := ⟨rfl, rfl, rfl, by decide +kernel, rfl, by decide +kernel, by decide +kernel⟩
theorem ok_mixed {f : Addr} {fd : FuncData} (D : Def K mg "_law_mixed" sMixed ["_law_script"] f fd) (B : Blt mg) : FnOk P w K mg base CX0 1 f fd ["_law_script"] (spMixed K) := by
  refine D.fn.ok scMixed (fun vs H Q E h => ?_) (fun cdv A outer s H vs Q E hr h => ?_)
  · obtain ⟨a, ns, rfl, _⟩ := h
    rfl
  · obtain ⟨a, ns, rfl, hS, hl, k⟩ := h
    refine ⟨_, pss_one (ps_ret (pe_comp ["_law_k"] [("_law_script", 0)] rfl (compSc_mk (by rfl) (by rfl) (by rfl))
      (pi_range1 (by rfl) B.range (pa_cons (pe_callB call_len_seq (by rfl) B.len bt_len (pa_cons (pv 0) pa_nil)) pa_nil)) (gk_name (i := 0) (by decide))
      (fun cl C s H fp pins => pg_name (i := 0) (by show (["_law_k", "_law_script"] : List Str).Nodup; decide +kernel) rfl (Or.inl rfl) (Or.inr rfl))
      (fun cl C s H fp pins => pe_op op_mod (pe_op op_mul (pe_op op_add (pe_ix ixC_list (pv 1) (pv 0) plainN) (pe_op op_mul pe_int (pv 0))) pe_int) pe_int))), ?_⟩
    have lN : (ns.map V.int).length = ns.length := by simp
    refine ⟨_, .inl hS, _, rfl, (by (first | lia | omega)), (by (first | lia | omega)), fun Da hD => ?_⟩
    have en : (((ns.map V.int).length : Int)).toNat = ns.length := by simp
    rw [en]
    refine comp_range (fun i ys H' => Same (upd H Da (.lst [])) (upd H' Da (.lst [])) ∧ H' Da = some (.lst ys) ∧ ys = ((List.range i).map (mixOne ns)).map V.int) ⟨fun b o e => ?_, upd_same, rfl⟩ ?_ ?_ ?_
    · rw [upd_upd]; exact e
    · rintro i ys H' hi ⟨_, e, rfl⟩
      exact ⟨e, by simp; exact small1000 (by (first | lia | omega))⟩
    · rintro i ys H' hi ⟨sm, e, rfl⟩
      have sH : SqL K H' a (ns.map V.int) := by
        refine Same.seq (H := H) (fun b o eb => ?_) hS
        have nb : b ≠ Da := ne_of_none eb hD
        have := sm b o (by rw [upd_ne nb]; exact eb)
        rw [upd_ne nb] at this
        exact this
      refine ⟨_, .int (ns.getD i 0), sH, (by
        show atI (ns.map V.int) (0 + (i : Int)) = some (.int (ns.getD i 0))
        rw [Int.zero_add]
        refine atI_nat ?_
        rw [List.getElem?_map, List.getD_eq_getElem?_getD, List.getElem?_eq_getElem hi]
        rfl), .inl ⟨by decide, by decide⟩, .inr ⟨by decide, by decide⟩, (by show (0 : Int) < 1000003; decide), e, ?_⟩
      refine ⟨fun b o eb => ?_, upd_same, ?_⟩
      · rw [upd_upd]; exact sm b o eb
      · rw [List.range_succ, List.map_append, List.map_append]
        show _ = _ ++ [V.int (mixOne ns i)]
        unfold mixOne
        rw [Int.zero_add]
    · rintro ys H' ⟨sm, e, rfl⟩
      refine k Da H' hD e fun b o eb => ?_
      have nb : b ≠ Da := ne_of_none eb hD
      have := sm b o (by rw [upd_ne nb]; exact eb)
      rw [upd_ne nb] at this
      exact this
def PrAt (K : PySem.W.Frag) (H : Hp) (a : Addr) (x y : Int) : Prop := SqT K H a [.int x, .int y]
def spAdd (K : PySem.W.Frag) : Sp := fun vs H Q _ => ∃ (a b : Addr) (x y z u : Int) (n : Nat), vs = [.ref a, .ref b] ∧ PrAt K H a x y ∧ PrAt K H b z u ∧ SzI n x ∧ SzI n y ∧ SzI n z ∧ SzI n u ∧ n ≤ 25000000 ∧
  ∀ (c : Addr) (H' : Hp), H c = none → H' c = some (.tup [.int (x * u + z * y), .int (y * u)]) → Same H H' → Q (.ref c) H'
theorem scAdd : FnScope ["_law_one", "_law_two"] ["_law_one", "_law_two"] (defScope sAdd) := ⟨rfl, rfl, rfl, by decide +kernel, rfl, by decide +kernel, by decide +kernel⟩
theorem ok_add {f : Addr} {fd : FuncData} (D : Def K mg "_law_add" sAdd ["_law_one", "_law_two"] f fd) : FnOk P w K mg base CX0 1 f fd ["_law_one", "_law_two"] (spAdd K) := by
  refine D.fn.ok scAdd (fun vs H Q E h => ?_) (fun cdv A outer s H vs Q E hr h => ?_)
  · obtain ⟨a, b, x, y, z, u, n, rfl, _⟩ := h
    rfl
  · obtain ⟨a, b, x, y, z, u, n, rfl, ha, hb, sx, sy, sz, su, hn, k⟩ := h
    refine ⟨_, pss_one (ps_ret (pe_tup (pa_cons (pe_op op_add (pe_op op_mulB (pe_ix ix_tup (pv 0) pe_int plainC) (pe_ix ix_tup (pv 1) pe_int plainC)) (pe_op op_mulB (pe_ix ix_tup (pv 1) pe_int plainC) (pe_ix ix_tup (pv 0) pe_int plainC)))
      (pa_cons (pe_op op_mulB (pe_ix ix_tup (pv 0) pe_int plainC) (pe_ix ix_tup (pv 1) pe_int plainC)) pa_nil)))), ?_⟩
    refine ⟨_, _, ha, rfl, _, _, hb, rfl, cmul_of sx su (by (first | lia | omega)), ?_⟩
    refine ⟨_, _, hb, rfl, _, _, ha, rfl, cmul_of sz sy (by (first | lia | omega)), ?_⟩
    refine ⟨_, _, ha, rfl, _, _, hb, rfl, cmul_of sy su (by (first | lia | omega)), ?_⟩
    exact ⟨by show 2 ≤ sizeLine; decide, fun c hc => k c _ hc upd_same (Same.upd hc)⟩
def spMul (K : PySem.W.Frag) : Sp := fun vs H Q _ => ∃ (a b : Addr) (x y z u : Int) (n : Nat), vs = [.ref a, .ref b] ∧ PrAt K H a x y ∧ PrAt K H b z u ∧ SzI n x ∧ SzI n y ∧ SzI n z ∧ SzI n u ∧ n ≤ 25000000 ∧
  ∀ (c : Addr) (H' : Hp), H c = none → H' c = some (.tup [.int (x * z), .int (y * u)]) → Same H H' → Q (.ref c) H'
theorem scMul : FnScope ["_law_one", "_law_two"] ["_law_one", "_law_two"] (defScope sMul) := ⟨rfl, rfl, rfl, by decide +kernel, rfl, by decide +kernel, by decide +kernel⟩
theorem ok_mul {f : Addr} {fd : FuncData} (D : Def K mg "_law_mul" sMul ["_law_one", "_law_two"] f fd) : FnOk P w K mg base CX0 1 f fd ["_law_one", "_law_two"] (spMul K) := by
  refine D.fn.ok scMul (fun vs H Q E h => ?_) (fun cdv A outer s H vs Q E hr h => ?_)
  · obtain ⟨a, b, x, y, z, u, n, rfl, _⟩ := h
    rfl
  · obtain ⟨a, b, x, y, z, u, n, rfl, ha, hb, sx, sy, sz, su, hn, k⟩ := h
    refine ⟨_, pss_one (ps_ret (pe_tup (pa_cons (pe_op op_mulB (pe_ix ix_tup (pv 0) pe_int plainC) (pe_ix ix_tup (pv 1) pe_int plainC))
      (pa_cons (pe_op op_mulB (pe_ix ix_tup (pv 0) pe_int plainC) (pe_ix ix_tup (pv 1) pe_int plainC)) pa_nil)))), ?_⟩
    refine ⟨_, _, ha, rfl, _, _, hb, rfl, cmul_of sx sz (by (first | lia | omega)), ?_⟩
    refine ⟨_, _, ha, rfl, _, _, hb, rfl, cmul_of sy su (by (first | lia | omega)), ?_⟩
    exact ⟨by show 2 ≤ sizeLine; decide, fun c hc => k c _ hc upd_same (Same.upd hc)⟩
def spIs (K : PySem.W.Frag) : Sp := fun vs H Q _ => ∃ (a b : Addr) (x y z u : Int) (n : Nat), vs = [.ref a, .ref b] ∧ PrAt K H a x y ∧ PrAt K H b z u ∧ SzI n x ∧ SzI n y ∧ SzI n z ∧ SzI n u ∧ n ≤ 25000000 ∧ Q (.bl (decide (x * u = z * y))) H
theorem scIs : FnScope ["_law_one", "_law_two"] ["_law_one", "_law_two"] (defScope sIs) := ⟨rfl, rfl, rfl, by decide +kernel, rfl, by decide +kernel, by decide +kernel⟩
theorem ok_is {f : Addr} {fd : FuncData} (D : Def K mg "_law_is" sIs ["_law_one", "_law_two"] f fd) : FnOk P w K mg base CX0 1 f fd ["_law_one", "_law_two"] (spIs K) := by
  refine D.fn.ok scIs (fun vs H Q E h => ?_) (fun cdv A outer s H vs Q E hr h => ?_)
  · obtain ⟨a, b, x, y, z, u, n, rfl, _⟩ := h
    rfl
  · obtain ⟨a, b, x, y, z, u, n, rfl, ha, hb, sx, sy, sz, su, hn, k⟩ := h
    refine ⟨_, pss_one (ps_ret (pe_cmpR op_eq (pe_op op_mulB (pe_ix ix_tup (pv 0) pe_int plainC) (pe_ix ix_tup (pv 1) pe_int plainC)) (pe_op op_mulB (pe_ix ix_tup (pv 1) pe_int plainC) (pe_ix ix_tup (pv 0) pe_int plainC)) (nomark _))), ?_⟩
    refine ⟨_, _, ha, rfl, _, _, hb, rfl, cmul_of sx su (by (first | lia | omega)), ?_⟩
    refine ⟨_, _, hb, rfl, _, _, ha, rfl, cmul_of sz sy (by (first | lia | omega)), ?_⟩
    have e : decide (V.int (x * u) = V.int (z * y)) = decide (x * u = z * y) := by simp
    show Q (.bl (decide (V.int (x * u) = V.int (z * y)))) H
    rw [e]
    exact k
structure IsW (n : Nat) (q : Rat) (x y : Int) : Prop where
  pos : 0 < y
  val : Rat.divInt x y = q
  sx : SzI n x
  sy : SzI n y
def spWeight (K : PySem.W.Frag) : Sp := fun vs H Q _ => ∃ (a b : Addr) (ns : List Int) (zs : List V) (cs : List Addr) (qs : List Rat) (m : Nat), vs = [.ref a, .ref b] ∧ SqL K H a (ns.map V.int ++ zs) ∧ SqL K H b (cs.map V.ref) ∧ FrsAt K H cs qs ∧ ns.length = qs.length ∧
  (∀ n ∈ ns, SzI m n) ∧ (∀ q ∈ qs, Sz m q) ∧ 1 ≤ m ∧ m ≤ 1000000 ∧ (ns.length + 1) * (2 * m + 2) ≤ 20000000 ∧
  ∀ (c : Addr) (x y : Int) (H' : Hp), H c = none → H' c = some (.tup [.int x, .int y]) → IsW ((ns.length + 1) * (2 * m + 2)) (dot ns qs) x y → Same H H' → Q (.ref c) H'
theorem scWeight : FnScope ["_law_row", "_law_point", "_law_total", "_law_k"] ["_law_row", "_law_point"] (defScope sWeight) := ⟨rfl, rfl, rfl, by decide +kernel, rfl, by decide +kernel, by decide +kernel⟩
theorem SzI.mono {n m : Nat} {i : Int} (h : SzI n i) (hm : n ≤ m) : SzI m i := pow_mono h hm
theorem isW_step {k m : Nat} {q : Rat} {x y n : Int} {p : Rat} (h : IsW k q x y) (hn : SzI m n) (hp : Sz m p) (hm : 1 ≤ m) (hk : 2 * m ≤ k) : IsW (k + (2 * m + 2)) (q + (n : Rat) * p) (x * (1 * (p.den : Int)) + (n * p.num) * y) (y * (1 * (p.den : Int))) := by
  have hd := den_pos p
  have y0 := h.pos
  have dp : SzI m (p.den : Int) := by have := hp.2; simpa [SzI] using this
  refine ⟨?_, ?_, ?_, ?_⟩
  · rw [Int.one_mul]; exact Int.mul_pos h.pos hd
  · rw [Int.one_mul]
    have e : (n : Rat) * p = Rat.divInt (n * p.num) p.den := by
      conv => lhs; rw [← Rat.num_divInt_den p]
      have e1 : (n : Rat) = Rat.divInt n 1 := by have := Rat.num_divInt_den (n : Rat); rw [Rat.num_intCast, Rat.den_intCast] at this; exact this.symm
      rw [e1, Rat.divInt_mul_divInt, Int.one_mul]
    rw [e, ← h.val, Rat.divInt_add_divInt _ _ (by (first | lia | omega)) (by (first | lia | omega))]
  · rw [Int.one_mul]
    have a1 : (x * (p.den : Int)).natAbs < 2 ^ (k + m) := mul_lt_pow h.sx dp
    have a2 : (n * p.num * y).natAbs < 2 ^ (m + m + k) := mul_lt_pow (mul_lt_pow hn hp.1) h.sy
    have := add_lt_pow (n := m + m + k) (pow_mono a1 (by (first | lia | omega))) a2
    exact pow_mono this (by (first | lia | omega))
  · rw [Int.one_mul]
    exact pow_mono (mul_lt_pow h.sy dp) (by (first | lia | omega))
theorem ok_weight {f fa fm : Addr} {fd fda fdm : FuncData} (D : Def K mg "_law_weight" sWeight ["_law_row", "_law_point"] f fd) (B : Blt mg) (Da : Def K mg "_law_add" sAdd ["_law_one", "_law_two"] fa fda) (Dm : Def K mg "_law_mul" sMul ["_law_one", "_law_two"] fm fdm) :
    FnOk P w K mg base CX0 2 f fd ["_law_row", "_law_point"] (spWeight K) := by
  have GA : FnOk P w K mg base CX0 1 fa fda ["_law_one", "_law_two"] (spAdd K) := ok_add Da
  have GM : FnOk P w K mg base CX0 1 fm fdm ["_law_one", "_law_two"] (spMul K) := ok_mul Dm
  refine D.fn.ok scWeight (fun vs H Q E h => ?_) (fun cdv A outer s H vs Q E hr h => ?_)
  · obtain ⟨a, b, ns, zs, cs, qs, m, rfl, _⟩ := h
    rfl
  · obtain ⟨a, b, ns, zs, cs, qs, m, rfl, ha, hb, hF, hl, sn, sq, hm1, hm, hlen, k⟩ := h
    have lc : cs.length = qs.length := hF.len
    refine ⟨_, pss_cons (ps_set (i := 2) scWeight.nd rfl (Or.inl rfl) (pe_tup (pa_cons pe_int (pa_cons pe_int pa_nil))))
      (pss_cons (ps_for PassesOwn.never rfl (pi_range1 (by rfl) B.range (pa_cons (pe_callB call_len_seq (by rfl) B.len bt_len (pa_cons (pv 1) pa_nil)) pa_nil)) (pg_name (i := 3) scWeight.nd rfl (Or.inl rfl))
        (pss_one (ps_set (i := 2) scWeight.nd rfl (Or.inl rfl) (pe_call GA hr (by rfl) Da.mg Da.fn.kp Da.bd .nil pass0 (pa_cons (pv 2) (pa_cons (pe_call GM hr (by rfl) Dm.mg Dm.fn.kp Dm.bd .nil pass0 (pa_cons (pe_tup (pa_cons (pe_ix ix_list (pv 0) (pv 3) plainN) (pa_cons pe_int pa_nil))) (pa_cons (pe_ix ix_list (pv 1) (pv 3) plainN) pa_nil))) pa_nil))))))
      (pss_one (ps_ret (pv 2)))), ?_⟩
    refine ⟨(by show 2 ≤ sizeLine; decide), fun t0 ht0 => ?_⟩
    have s0 : Same H (upd H t0 (.tup [.int 0, .int 1])) := Same.upd ht0
    have ll : ((cs.map V.ref).length : Int) = (ns.length : Int) := by simp; (first | lia | omega)
    have l3 : (ns.length + 1) * 1 ≤ (ns.length + 1) * (2 * m + 2) := Nat.mul_le_mul_left _ (by (first | lia | omega))
    refine ⟨_, .inl (s0.seq hb), _, rfl, (by (first | lia | omega)), (by (first | lia | omega)), ?_⟩
    have en : (((cs.map V.ref).length : Int)).toNat = ns.length := by (first | lia | omega)
    rw [en]
    refine for_range (fun i σ H' => ∃ (t : Addr) (x y : Int) (z : Option V), σ = [some (.ref a), some (.ref b), some (.ref t), z] ∧ Same H H' ∧ H t = none ∧ H' t = some (.tup [.int x, .int y]) ∧ IsW ((i + 1) * (2 * m + 2)) (dot (ns.take i) (qs.take i)) x y)
      ⟨t0, 0, 1, none, rfl, s0, ht0, upd_same, ?_⟩ ?_ ?_
    · refine ⟨by decide, ?_, ?_, ?_⟩
      · show Rat.divInt 0 1 = dot [] []
        simp [dot]
      · show (0 : Int).natAbs < _
        exact Nat.two_pow_pos _
      · show (1 : Int).natAbs < _
        exact Nat.one_lt_two_pow (by (first | lia | omega))
    · rintro i σ H' hi ⟨t, x, y, z, rfl, sm, ht, e, hW⟩
      have hic : i < cs.length := by (first | lia | omega)
      obtain ⟨q, eq, hq⟩ := hF.get (List.getElem?_eq_getElem hic)
      have en : ns[i]? = some (ns[i]) := List.getElem?_eq_getElem hi
      have zn := sn ns[i] (List.getElem_mem hi)
      have zq : Sz m q := sq q (List.mem_of_getElem? eq)
      have dq : SzI m (q.den : Int) := by have := zq.2; simpa [SzI] using this
      have hb1 : (i + 1) * (2 * m + 2) ≤ 20000000 := Nat.le_trans (Nat.mul_le_mul_right _ (by (first | lia | omega))) hlen
      have hb0 : 1 * (2 * m + 2) ≤ (i + 1) * (2 * m + 2) := Nat.mul_le_mul_right _ (by (first | lia | omega))
      refine ⟨_, .int ns[i], sm.seq ha, (by
        show atI (ns.map V.int ++ zs) (0 + (i : Int)) = some (.int ns[i])
        rw [Int.zero_add]
        refine atI_nat ?_
        rw [List.getElem?_append_left (by simpa using hi), List.getElem?_map, en]
        rfl), (by show 2 ≤ sizeLine; decide), fun p hp => ?_⟩
      have smp : Same H' (upd H' p (.tup [.int ns[i], .int 1])) := Same.upd hp
      refine ⟨_, .ref cs[i], smp.seq (sm.seq hb), (by
        show atI (cs.map V.ref) (0 + (i : Int)) = some (.ref cs[i])
        rw [Int.zero_add]
        refine atI_nat ?_
        rw [List.getElem?_map, List.getElem?_eq_getElem hic]
        rfl), ?_⟩
      refine ⟨p, cs[i], ns[i], 1, q.num, (q.den : Int), m, rfl, SqT.of upd_same, smp.fr (sm.fr hq), zn, (by show (1 : Int).natAbs < _; exact Nat.one_lt_two_pow (by (first | lia | omega))), zq.1, dq, (by (first | lia | omega)), fun u H2 nu eu s2 => ?_⟩
      have sAll : Same H' H2 := smp.trans s2
      have hprod : SzI (2 * m) (ns[i] * q.num) := by have := mul_lt_pow zn zq.1; rw [show m + m = 2 * m by (first | lia | omega)] at this; exact this
      refine ⟨t, u, x, y, ns[i] * q.num, 1 * (q.den : Int), (i + 1) * (2 * m + 2), rfl, SqT.of (sAll _ _ e), SqT.of eu, hW.sx, hW.sy, hprod.mono (by (first | lia | omega)), (by rw [Int.one_mul]; exact dq.mono (by (first | lia | omega))), (by (first | lia | omega)), fun v H3 nv ev s3 => ?_⟩
      refine ⟨v, _, _, _, rfl, sm.trans (sAll.trans s3), (sm.trans sAll).free nv, ev, ?_⟩
      rw [dot_take ns qs i ns[i] q en eq]
      have e3 : (i + 1 + 1) * (2 * m + 2) = (i + 1) * (2 * m + 2) + (2 * m + 2) := Nat.succ_mul _ _
      rw [e3]
      exact isW_step hW zn zq hm1 (by (first | lia | omega))
    · rintro σ H' ⟨t, x, y, z, rfl, sm, ht, e, hW⟩
      rw [List.take_length, hl, List.take_length, ← hl] at hW
      exact (k t x y H' ht e hW sm)
theorem kit_ll (K : PySem.W.Frag) : PySem.W.kitOne K (.type "list") (.type "list") = some true := by
  show (if (Value.type "list" == Value.type "list") = true then some true else _) = some true
  rw [if_pos (by decide)]
def spLows : Sp := fun vs H Q _ => ∃ (a : Addr) (cs : List Addr) (qs : List Rat) (n : Int), vs = [.ref a, .int n] ∧ H a = some (.lst (cs.map V.ref)) ∧ TupsAt H cs qs ∧ (cs.length : Int) = n ∧ Q (.bl true) H
theorem scLows : FnScope ["_law_found", "_law_count", "_law_part"] ["_law_found", "_law_count"] (defScope sLows) := ⟨rfl, rfl, rfl, by decide +kernel, rfl, by decide +kernel, by decide +kernel⟩
theorem ok_lows {f fl fw fc : Addr} {fd fdl fdw fdc : FuncData} (D : Def K mg "_law_lows" sLows ["_law_found", "_law_count"] f fd) (B : Blt mg) (Dl : Def K mg "_law_lowest" sLowest ["_law_found"] fl fdl) (Dw : Def K mg "_law_whole" sWhole ["_law_found"] fw fdw) (Dc : Def K mg "_law_common" sCommon ["_law_one", "_law_two"] fc fdc) :
    FnOk P w K mg base CX0 3 f fd ["_law_found", "_law_count"] spLows := by
  have GL : FnOk P w K mg base CX0 2 fl fdl ["_law_found"] spLowest := ok_lowest Dl B Dw Dc
  refine D.fn.ok scLows (fun vs H Q E h => ?_) (fun cdv A outer s H vs Q E hr h => ?_)
  · obtain ⟨a, cs, qs, n, rfl, _⟩ := h
    rfl
  · obtain ⟨a, cs, qs, n, rfl, ha, hT, hn, k⟩ := h
    have hS : SqL K H a (cs.map V.ref) := SqL.of ha
    refine ⟨_, pss_cons (ps_if (PW.pt (pw_or (pt_not (pt_val (pe_callB call_isi (by rfl) B.isi bt_isi (pa_cons (pv 0) (pa_cons (pe_bltn (v := .ty "list") (by rfl) B.list bt_list rfl) pa_nil))))) (pw_or1 (pt_cmpR op_ne (pe_callB call_len_seq (by rfl) B.len bt_len (pa_cons (pv 0) pa_nil)) (pv 1) (nomark _)))))
        (pss_one (ps_ret pe_bl)) pss_nil)
      (pss_cons (ps_for PassesOwn.never rfl (pi_list (pv 0)) (pg_name (i := 2) scLows.nd rfl (Or.inl rfl))
        (pss_one (ps_if (pt_not (pt_val (pe_call GL hr (by rfl) Dl.mg Dl.fn.kp Dl.bd .nil pass0 (pa_cons (pv 2) pa_nil)))) (pss_one (ps_ret pe_bl)) pss_nil)))
      (pss_one (ps_ret pe_bl))), ?_⟩
    refine ⟨_, _, _, _, rfl, .lst ha, kit_ll K, _, rfl, iteF' rfl ?_⟩
    refine ⟨_, .inl hS, _, rfl, iteF' (by simp [hn]) ?_⟩
    refine ⟨a, rfl, ⟨_, hS⟩, ?_⟩
    refine for_list (xs := cs.map V.ref) (fun i σ H' => ∃ x, σ = [some (.ref a), some (.int n), x] ∧ H' = H) ⟨none, rfl, rfl⟩ (fun i σ H' _ ⟨_, _, e⟩ => by rw [e]; exact hS) ?_ ?_
    · rintro i x σ H' hx ⟨y, rfl, rfl⟩
      rw [List.getElem?_map] at hx
      cases ec : cs[i]? with
      | none => rw [ec] at hx; cases hx
      | some c =>
        rw [ec] at hx
        have hx' : x = V.ref c := (Option.some.inj hx).symm
        subst hx'
        obtain ⟨q, eq, hq⟩ := hT.get ec
        have dq := den_pos q
        refine ⟨c, _, _, rfl, hq, (by (first | lia | omega)), _, rfl, ?_⟩
        refine iteF' (by rw [decide_eq_true (low q)]; rfl) ?_
        exact ⟨_, rfl, rfl⟩
    · rintro σ H' ⟨y, rfl, rfl⟩
      exact k
theorem atI_mem {α : Type} {xs : List α} {i : Int} (h0 : 0 ≤ i) (h1 : i < xs.length) : ∃ v, atI xs i = some v ∧ v ∈ xs := by
  obtain ⟨j, rfl⟩ : ∃ j : Nat, i = (j : Int) := ⟨i.toNat, by (first | lia | omega)⟩
  have hj : j < xs.length := by (first | lia | omega)
  exact ⟨xs[j], atI_nat (List.getElem?_eq_getElem hj), List.getElem_mem hj⟩
def spNumber : Sp := fun vs H Q _ => ∃ c : Int, vs = [.int c] ∧ 0 ≤ c ∧ c < 2000000 ∧ ∀ (v : Int) (H' : Hp), SzI 110 v → Same H H' → Q (.int v) H'
theorem scNumber : FnScope ["_law_cell"] ["_law_cell"] (defScope sNumber) := ⟨rfl, rfl, rfl, by decide +kernel, rfl, by decide +kernel, by decide +kernel⟩
theorem ok_number {f : Addr} {fd : FuncData} (D : Def K mg "_law_number" sNumber ["_law_cell"] f fd) : FnOk P w K mg base CX0 1 f fd ["_law_cell"] spNumber := by
  refine D.fn.ok scNumber (fun vs H Q E h => ?_) (fun cdv A outer s H vs Q E hr h => ?_)
  · obtain ⟨c, rfl, _⟩ := h
    rfl
  · obtain ⟨c, rfl, c0, c1, k⟩ := h
    refine ⟨_, pss_cons (ps_if (pt_cmpR op_eq (pe_op op_mod (pv 0) pe_int) pe_int (nomark _)) (pss_one (ps_ret pe_int)) pss_nil)
      (pss_cons (ps_if (pt_cmpR op_eq (pe_op op_mod (pv 0) pe_int) pe_int (nomark _)) (pss_one (ps_ret (pe_op op_mulB (pe_op op_sub (pe_op op_fdiv (pv 0) pe_int) pe_int)
        (pe_ix ix_list (pe_lst (pa_cons pe_int (pa_cons (pe_op op_pow pe_int pe_int) (pa_cons (pe_op op_add (pe_op op_pow pe_int pe_int) pe_int) pa_nil)))) (pe_op op_mod (pe_op op_fdiv (pv 0) pe_int) pe_int) plainB)))) pss_nil)
      (pss_one (ps_ret (pe_ix ix_list (pe_lst (pa_cons pe_int (pa_cons pe_int (pa_cons (pe_un un_neg pe_int) (pa_cons pe_int (pa_cons pe_int (pa_cons pe_int (pa_cons pe_int (pa_cons (pe_un un_neg pe_int) pa_nil))))))))) (pe_op op_mod (pv 0) pe_int) plainB)))), ?_⟩
    refine ⟨(by show (0 : Int) < 32; decide), _, rfl, ?_⟩
    refine ite2 (fun _ => k _ _ (by show (1000000000039 : Int).natAbs < 2 ^ 110; decide) fun _ _ e => e) (fun _ => ?_)
    refine ⟨(by show (0 : Int) < 32; decide), _, rfl, ?_⟩
    refine ite2 (fun _ => ?_) (fun _ => ?_)
    · refine ⟨⟨by decide, by decide⟩, ?_⟩
      refine ⟨⟨by decide, by decide, by decide⟩, ⟨by decide, by decide, by decide⟩, (by show 3 ≤ sizeLine; decide), fun l hl => ?_⟩
      refine ⟨⟨by decide, by decide⟩, (by show (0 : Int) < 3; decide), ?_⟩
      obtain ⟨v, ev, hv⟩ := atI_mem (xs := [V.int 1, V.int (10 ^ (9 : Int).toNat), V.int (10 ^ (27 : Int).toNat + 7)]) (i := c / 32 % 3) (by (first | lia | omega)) (by simp; (first | lia | omega))
      have hk : ∃ i : Int, v = .int i ∧ i.natAbs < 2 ^ 91 := by
        simp only [List.mem_cons, List.not_mem_nil, or_false] at hv
        rcases hv with rfl | rfl | rfl
        · exact ⟨_, rfl, by decide⟩
        · exact ⟨_, rfl, by decide⟩
        · exact ⟨_, rfl, by decide⟩
      obtain ⟨i, rfl, hi⟩ := hk
      have hc : (c / 32 - 15000).natAbs < 2 ^ 17 := by
        have : (2 : Nat) ^ 17 = 131072 := by decide
        (first | lia | omega)
      refine ⟨_, _, SqL.of upd_same, ev, cmul_of (pow_mono hc (by decide)) hi (by decide), ?_⟩
      exact k _ _ (pow_mono (mul_lt_pow hc hi) (by decide)) (Same.upd hl)
    · refine ⟨(by show 8 ≤ sizeLine; decide), fun l hl => ?_⟩
      refine ⟨(by show (0 : Int) < 8; decide), ?_⟩
      obtain ⟨v, ev, hv⟩ := atI_mem (xs := [V.int 0, V.int 1, V.int (-1), V.int 0, V.int 2, V.int 0, V.int 3, V.int (-2)]) (i := c % 8) (by (first | lia | omega)) (by simp; (first | lia | omega))
      have hk : ∃ i : Int, v = .int i ∧ i.natAbs < 2 ^ 110 := by
        simp only [List.mem_cons, List.not_mem_nil, or_false] at hv
        rcases hv with rfl | rfl | rfl | rfl | rfl | rfl | rfl | rfl <;> exact ⟨_, rfl, by decide⟩
      obtain ⟨i, rfl, hi⟩ := hk
      exact ⟨_, _, SqL.of upd_same, ev, k _ _ hi (Same.upd hl)⟩
def RowsL (H : Hp) (ps : List Addr) (rs : List (List Int)) : Prop := Paired (fun p r => H p = some (.lst (r.map V.int))) ps rs
theorem RowsL.at {H : Hp} : ∀ {ps : List Addr} {rs : List (List Int)}, RowsL H ps rs → RowsAt K H ps rs
  | _, _, .nil => .nil
  | _, _, .cons r t => .cons (SqL.of r) (RowsL.at t)
theorem RowsL.same {H H' : Hp} (s : Same H H') : ∀ {ps : List Addr} {rs : List (List Int)}, RowsL H ps rs → RowsL H' ps rs
  | _, _, .nil => .nil
  | _, _, .cons r t => .cons (s _ _ r) (RowsL.same s t)
theorem RowsL.snoc {H : Hp} {p : Addr} {r : List Int} (hp : H p = some (.lst (r.map V.int))) : ∀ {ps : List Addr} {rs : List (List Int)}, RowsL H ps rs → RowsL H (ps ++ [p]) (rs ++ [r])
  | _, _, .nil => .cons hp .nil
  | _, _, .cons a t => .cons a (RowsL.snoc hp t)
theorem RowsL.upd {H : Hp} {p : Addr} {o : HO} : ∀ {ps : List Addr} {rs : List (List Int)}, RowsL H ps rs → (∀ q ∈ ps, q ≠ p) → RowsL (upd H p o) ps rs
  | _, _, .nil, _ => .nil
  | _, _, .cons r t, h => .cons (by rw [upd_ne (h _ (.head _))]; exact r) (RowsL.upd t fun q hq => h q (.tail _ hq))
theorem RowsL.get {H : Hp} : ∀ {ps : List Addr} {rs : List (List Int)} {i : Nat} {p : Addr}, RowsL H ps rs → ps[i]? = some p → ∃ r, rs[i]? = some r ∧ H p = some (.lst (r.map V.int))
  | _, _, _, _, .nil, e => by simp at e
  | _, _, 0, _, .cons r _, e => by simp at e; subst e; exact ⟨_, rfl, r⟩
  | _, _, i + 1, c, .cons _ t, e => by
    obtain ⟨q, h1, h2⟩ := RowsL.get (i := i) (p := c) t (by simpa using e)
    exact ⟨q, by simpa using h1, h2⟩
theorem at_map {r : List Int} {j : Nat} (h : j < r.length) : atI (r.map V.int) (j : Int) = some (.int (r.getD j 0)) := by
  refine atI_nat ?_
  rw [List.getElem?_map, List.getD_eq_getElem?_getD, List.getElem?_eq_getElem h]
  rfl
theorem at_mapR {ps : List Addr} {j : Nat} {p : Addr} (h : ps[j]? = some p) : atI (ps.map V.ref) (j : Int) = some (.ref p) := by
  refine atI_nat ?_
  rw [List.getElem?_map, h]
  rfl
theorem at_neg {α : Type} {xs : List α} {k : Nat} {v : α} (h0 : 0 < k) (hk : k ≤ xs.length) (h : xs[xs.length - k]? = some v) : atI xs (-(k : Int)) = some v := by
  have e : ixN xs.length (-(k : Int)) = some (xs.length - k) := by
    unfold ixN
    rw [if_neg (by (first | lia | omega)), if_pos (by (first | lia | omega))]
    congr 1
    (first | lia | omega)
  unfold atI
  rw [e]
  exact h
def RowsZ (n : Nat) (rs : List (List Int)) : Prop := ∀ i r, rs[i]? = some r → r.length = n + 1 ∧ ∀ x ∈ r, SzI (110 + 2 * i) x
theorem RowsZ.snoc {n : Nat} {rs : List (List Int)} {r : List Int} (h : RowsZ n rs) (h1 : r.length = n + 1) (h2 : ∀ x ∈ r, SzI (110 + 2 * rs.length) x) : RowsZ n (rs ++ [r]) := by
  intro i r' e
  by_cases hi : i < rs.length
  · rw [List.getElem?_append_left hi] at e
    exact h i r' e
  · have hi' : i < (rs ++ [r]).length := (List.getElem?_eq_some_iff.mp e).1
    simp at hi'
    have : i = rs.length := by (first | lia | omega)
    subst this
    simp at e
    subst e
    exact ⟨h1, h2⟩
def spRowsBy (K : PySem.W.Frag) : Sp := fun vs H Q _ => ∃ (a : Addr) (ms : List Int) (n m : Nat), vs = [.ref a, .int n, .int m] ∧ SqL K H a (ms.map V.int) ∧ ms.length ≤ 500 ∧ (∀ x ∈ ms, 0 ≤ x ∧ x < 1000003) ∧ n ≤ 20 ∧ m ≤ 20 ∧
  ∀ (c : Addr) (ps : List Addr) (rs : List (List Int)) (H' : Hp), H c = none → H' c = some (.lst (ps.map V.ref)) → RowsL H' ps rs → (∀ p ∈ ps, p ≠ c ∧ H p = none) → rs.length ≤ m → RowsZ n rs → Same H H' → Q (.ref c) H'
theorem scRowsBy : FnScope ["_law_cells", "_law_count", "_law_most", "_law_rows", "_law_first", "_law_row", "_law_turn"] ["_law_cells", "_law_count", "_law_most"] (defScope sRowsBy) := ⟨rfl, rfl, rfl, by decide +kernel, rfl, by decide +kernel, by decide +kernel⟩
theorem add2_lt {x y : Int} {k : Nat} (hx : SzI (k + 2) x) (hy : SzI k y) : SzI (k + 3) (x + 2 * y) := by
  unfold SzI at *
  have e2 : 2 ^ (k + 2) = 4 * 2 ^ k := by rw [Nat.pow_add]; (first | lia | omega)
  have e3 : 2 ^ (k + 3) = 8 * 2 ^ k := by rw [Nat.pow_add]; (first | lia | omega)
  rw [e2] at hx
  rw [e3]
  (first | lia | omega)
theorem add1_lt {x i : Int} {k : Nat} (hx : SzI k x) (hi : i = 0 ∨ i = 1) : SzI (k + 1) (x + i) := by
  unfold SzI at *
  rw [Nat.pow_succ]
  (first | lia | omega)
def InR (H' : Hp) (a c : Addr) (n m f L : Nat) (σ : St) (Hx : Hp) : Prop := ∃ (Dr : Addr) (zs : List Int) (xt : Option V), σ = [some (.ref a), some (.int n), some (.int m), some (.ref c), some (.int f), some (.ref Dr), xt] ∧ Same H' Hx ∧ H' Dr = none ∧ Hx Dr = some (.lst (zs.map V.int)) ∧ zs.length = n + 1 ∧ ∀ z ∈ zs, SzI (110 + 2 * L) z
theorem ok_rowsby {f fn : Addr} {fd fdn : FuncData} (D : Def K mg "_law_rows_by" sRowsBy ["_law_cells", "_law_count", "_law_most"] f fd) (B : Blt mg) (Dn : Def K mg "_law_number" sNumber ["_law_cell"] fn fdn) : FnOk P w K mg base CX0 2 f fd ["_law_cells", "_law_count", "_law_most"] (spRowsBy K) := by
  have GN : FnOk P w K mg base CX0 1 fn fdn ["_law_cell"] spNumber := ok_number Dn
  refine D.fn.ok scRowsBy (fun vs H Q E h => ?_) (fun cdv A outer s H vs Q E hr h => ?_)
  · obtain ⟨a, ms, n, m, rfl, _⟩ := h
    rfl
  · obtain ⟨a, ms, n, m, rfl, ha, hml, hms, hn, hm, k⟩ := h
    refine ⟨_, pss_cons (ps_set (i := 3) scRowsBy.nd rfl (Or.inr rfl) (pe_lst pa_nil))
      (pss_cons (ps_for PassesOwn.never rfl (pi_range3 (by rfl) B.range (pa_cons pe_int (pa_cons (pe_callB call_len_seq (by rfl) B.len bt_len (pa_cons (pv 0) pa_nil)) (pa_cons (pe_op op_add (pv 1) pe_int) pa_nil)))) (pg_name (i := 4) scRowsBy.nd rfl (Or.inr rfl))
        (pss_one (ps_if (PW.pt (pw_and (pt_cmpR op_lt (pe_callB call_len_seq (by rfl) B.len bt_len (pa_cons (pv 3) pa_nil)) (pv 2) (nomark _)) (pw_and1 (pt_cmpR op_lt (pe_op op_add (pv 4) (pv 1)) (pe_callB call_len_seq (by rfl) B.len bt_len (pa_cons (pv 0) pa_nil)) (nomark _)))))
          (pss_cons (ps_comp (i := 5) ["_law_j"] [("_law_cells", 0), ("_law_first", 4)] scRowsBy.nd rfl (Or.inl rfl) (by rfl) rfl (compSc_mk (by rfl) (by rfl) (by rfl)) (pi_range1 (by rfl) B.range (pa_cons (pe_op op_add (pv 1) pe_int) pa_nil)) (gk_name (i := 0) (by decide))
            (fun cl C s H fp pins => pg_name (i := 0) (by show (["_law_j", "_law_cells", "_law_first"] : List Str).Nodup; decide +kernel) rfl (Or.inl rfl) (Or.inr rfl))
            (fun cl C s H fp pins => pe_call GN hr (by rfl) Dn.mg Dn.fn.kp Dn.bd .nil pass0 (pa_cons (pe_op op_add (pe_ix ixC_list (pv 1) (pe_op op_add (pv 2) (pv 0)) plainB) (pv 0)) pa_nil)))
          (pss_cons (ps_set (i := 6) scRowsBy.nd rfl (Or.inl rfl) (pe_op op_mod (pe_op op_fdiv (pe_ix ix_list (pv 0) (pv 4) plainN) pe_int) pe_int))
          (pss_cons (ps_cut (ps_if (PW.pt (pw_and (pt_cmpR op_eq (pv 6) pe_int (nomark _)) (pw_and1 (pt_cmpR op_gt (pe_callB call_len_seq (by rfl) B.len bt_len (pa_cons (pv 3) pa_nil)) pe_int (nomark _)))))
            (pss_cons (ps_comp (i := 5) ["_law_j"] [("_law_rows", 3)] scRowsBy.nd rfl (Or.inl rfl) (by rfl) rfl (compSc_mk (by rfl) (by rfl) (by rfl)) (pi_range1 (by rfl) B.range (pa_cons (pe_op op_add (pv 1) pe_int) pa_nil)) (gk_name (i := 0) (by decide))
              (fun cl C s H fp pins => pg_name (i := 0) (by show (["_law_j", "_law_rows"] : List Str).Nodup; decide +kernel) rfl (Or.inl rfl) (Or.inr rfl))
              (fun cl C s H fp pins => pe_op op_add (pe_ix ixC_list (pe_ix ixC_list (pv 1) (pe_un un_neg pe_int) plainU) (pv 0) plainN) (pe_op op_mul pe_int (pe_ix ixC_list (pe_ix ixC_list (pv 1) (pe_un un_neg pe_int) plainU) (pv 0) plainN))))
            (pss_one (ps_asg (pe_op op_add (pe_ix ix_list (pv 5) (pv 1) plainN) (pe_ix ix_list (pe_lst (pa_cons pe_int (pa_cons pe_int (pa_cons pe_int pa_nil)))) (pe_op op_mod (pe_op op_fdiv (pe_ix ix_list (pv 0) (pv 4) plainN) pe_int) pe_int) plainB)) (pg_sub (pv 5) (pv 1) set_list)))) pss_nil))
          (pss_one (ps_expr (pe_bm F.plainAttrs_list F.slot_list_append F.type_list_append mt_append (pv 3) (pa_cons (pv 5) pa_nil))))))) pss_nil)))
      (pss_one (ps_ret (pv 3)))), ?_⟩
    dsimp only [cxOf_K]
    refine ⟨(by show 0 ≤ sizeLine; decide), fun c hc => ?_⟩
    have s0 : Same H (upd H c (.lst [])) := Same.upd hc
    have lm : (ms.map V.int).length = ms.length := by simp
    refine ⟨_, .inl (s0.seq ha), 0, _, _, rfl, ⟨by decide, by decide, by (first | lia | omega), by (first | lia | omega), by (first | lia | omega), by (first | lia | omega)⟩, ?_⟩
    refine for_rangeS (fun i σ H' => ∃ (ps : List Addr) (rs : List (List Int)) (xf xr xt : Option V), σ = [some (.ref a), some (.int n), some (.int m), some (.ref c), xf, xr, xt] ∧ Same H H' ∧ H' c = some (.lst (ps.map V.ref)) ∧ RowsL H' ps rs ∧ (∀ p ∈ ps, p ≠ c ∧ H p = none) ∧ rs.length ≤ m ∧ RowsZ n rs)
      ⟨[], [], none, none, none, rfl, s0, upd_same, .nil, (fun p hp => by cases hp), (by simp), (fun i r e => by simp at e)⟩ ?_ ?_
    · rintro i σ H' hi ⟨ps, rs, xf, xr, xt, rfl, sm, ec, hR, hpc, hrm, hz⟩
      obtain ⟨fv, hfv⟩ : ∃ fv : Nat, fv = i * (n + 1) := ⟨_, rfl⟩
      have ef : (0 + (i : Int) * ((n : Int) + 1)) = (fv : Int) := by rw [hfv]; simp
      show gName 4 (.int (0 + (i : Int) * ((n : Int) + 1))) _ _ _
      rw [ef]
      have lp := Paired.length hR
      have lps : (ps.map V.ref).length = rs.length := by simp [lp]
      have ha' := sm.seq ha
      refine ⟨_, .inl (SqL.of ec), _, rfl, ?_⟩
      by_cases hA : ¬ (rs.length < m)
      · exact iteF' (by simp; (first | lia | omega)) (iteF' rfl ⟨ps, rs, _, _, _, rfl, sm, ec, hR, hpc, hrm, hz⟩)
      have hA := Decidable.not_not.mp hA
      refine iteT' (by simp; (first | lia | omega)) ?_
      refine ⟨_, .inl ha', _, rfl, ?_⟩
      by_cases hB : ¬ (fv + n < ms.length)
      · exact iteF' (by simp; (first | lia | omega)) ⟨ps, rs, _, _, _, rfl, sm, ec, hR, hpc, hrm, hz⟩
      have hB := Decidable.not_not.mp hB
      refine iteT' (by simp; (first | lia | omega)) ?_
      refine ⟨_, rfl, (by (first | lia | omega)), (by (first | lia | omega)), fun Da hD => ?_⟩
      have en : ((n : Int) + 1).toNat = n + 1 := by (first | lia | omega)
      rw [en]
      refine comp_range (Q := fun x H1 => gName 5 x _ H1 _) (fun j ys H2 => Same H' H2 ∧ H2 Da = some (.lst ys) ∧ ∃ zs : List Int, ys = zs.map V.int ∧ zs.length = j ∧ ∀ z ∈ zs, SzI 110 z) ⟨Same.upd hD, upd_same, [], rfl, rfl, (fun z hz => by cases hz)⟩ ?_ ?_ ?_
      · rintro j ys H2 hj ⟨_, e, zs, rfl, hl, _⟩
        exact ⟨e, by simp; rw [hl]; exact small1000 (by (first | lia | omega))⟩
      · rintro j ys H2 hj ⟨s2, e, zs, rfl, hl, hzz⟩
        have hlt : fv + j < ms.length := by (first | lia | omega)
        have hx := hms (ms.getD (fv + j) 0) (by rw [List.getD_eq_getElem?_getD, List.getElem?_eq_getElem hlt]; exact List.getElem_mem hlt)
        have ai : atI (ms.map V.int) ((fv : Int) + (0 + (j : Int))) = some (.int (ms.getD (fv + j) 0)) := by
          have e1 : (fv : Int) + (0 + (j : Int)) = ((fv + j : Nat) : Int) := by (first | lia | omega)
          rw [e1]; exact at_map hlt
        refine ⟨_, _, s2.seq ha', ai, _, rfl, (by (first | lia | omega)), (by (first | lia | omega)), fun v H3 hv s3 => ?_⟩
        have e3 := s3 _ _ e
        exact ⟨e3, (s2.trans s3).updn hD, upd_same, zs ++ [v], by simp, by simp [hl], fun z hz' => by
          rcases List.mem_append.mp hz' with q | q
          · exact hzz z q
          · rw [List.mem_singleton.mp q]; exact hv⟩
      · rintro ys H2 ⟨s2, e, zs, rfl, hl, hzz⟩
        have hlt : fv < ms.length := by (first | lia | omega)
        have ha2 := s2.seq ha'
        have ec2 := s2 _ _ ec
        refine ⟨_, _, ha2, at_map hlt, ⟨by decide, by decide⟩, (by show (0 : Int) < 3; decide), ?_⟩
        refine ⟨InR H' a c n m fv rs.length, ?_, ?_⟩
        · have base1 : ∀ xt', InR H' a c n m fv rs.length [some (.ref a), some (.int n), some (.int m), some (.ref c), some (.int fv), some (.ref Da), xt'] H2 := fun xt' =>
            ⟨Da, zs, xt', rfl, s2, hD, e, hl, fun z hz' => pow_mono (hzz z hz') (by (first | lia | omega))⟩
          refine ⟨_, rfl, ?_⟩
          refine ite2 (fun _ => ?_) (fun _ => iteF' rfl (base1 _))
          refine ⟨_, .inl (SqL.of ec2), _, rfl, ?_⟩
          by_cases hL : ¬ (1 < rs.length)
          · exact iteF' (by simp; (first | lia | omega)) (base1 _)
          have hL := Decidable.not_not.mp hL
          refine iteT' (by simp; (first | lia | omega)) ?_
          refine ⟨_, rfl, (by (first | lia | omega)), (by (first | lia | omega)), fun Db hDb => ?_⟩
          rw [en]
          obtain ⟨q1, eq1⟩ : ∃ q, ps[ps.length - 1]? = some q := ⟨_, List.getElem?_eq_getElem (by (first | lia | omega))⟩
          obtain ⟨q2, eq2⟩ : ∃ q, ps[ps.length - 2]? = some q := ⟨_, List.getElem?_eq_getElem (by (first | lia | omega))⟩
          have hR2 := hR.same s2
          obtain ⟨r1, er1, hr1⟩ := hR2.get eq1
          obtain ⟨r2, er2, hr2⟩ := hR2.get eq2
          obtain ⟨l1, z1⟩ := hz _ _ er1
          obtain ⟨l2, z2⟩ := hz _ _ er2
          have at1 : atI (ps.map V.ref) (-1) = some (.ref q1) := at_neg (k := 1) (by decide) (by simp; (first | lia | omega)) (by rw [List.length_map, List.getElem?_map, eq1]; rfl)
          have at2 : atI (ps.map V.ref) (-2) = some (.ref q2) := at_neg (k := 2) (by decide) (by simp; (first | lia | omega)) (by rw [List.length_map, List.getElem?_map, eq2]; rfl)
          refine comp_range (Q := fun x H1 => gName 5 x _ H1 _) (fun j ys H3 => Same H2 H3 ∧ H3 Db = some (.lst ys) ∧ ∃ ws : List Int, ys = ws.map V.int ∧ ws.length = j ∧ ∀ z ∈ ws, SzI (110 + 2 * rs.length - 1) z) ⟨Same.upd hDb, upd_same, [], rfl, rfl, (fun z hz => by cases hz)⟩ ?_ ?_ ?_
          · rintro j ys H3 hj ⟨_, e', ws, rfl, hl', _⟩
            exact ⟨e', by simp; rw [hl']; exact small1000 (by (first | lia | omega))⟩
          · rintro j ys H3 hj ⟨s3, e', ws, rfl, hl', hww⟩
            have a1 : atI (r1.map V.int) (0 + (j : Int)) = some (.int (r1.getD j 0)) := by rw [Int.zero_add]; exact at_map (by (first | lia | omega))
            have a2 : atI (r2.map V.int) (0 + (j : Int)) = some (.int (r2.getD j 0)) := by rw [Int.zero_add]; exact at_map (by (first | lia | omega))
            have m1 : r1.getD j 0 ∈ r1 := by rw [List.getD_eq_getElem?_getD, List.getElem?_eq_getElem (by (first | lia | omega))]; exact List.getElem_mem _
            have m2 : r2.getD j 0 ∈ r2 := by rw [List.getD_eq_getElem?_getD, List.getElem?_eq_getElem (by (first | lia | omega))]; exact List.getElem_mem _
            have y1 := z1 _ m1
            have y2 := z2 _ m2
            have ec3 : SqL K H3 c (ps.map V.ref) := SqL.of (s3 _ _ ec2)
            refine ⟨_, _, ec3, at1, _, _, SqL.of (s3 _ _ hr1), a1, ?_⟩
            refine ⟨_, _, ec3, at2, _, _, SqL.of (s3 _ _ hr2), a2, .inl ⟨by decide, by decide⟩, e', ?_⟩
            refine ⟨s3.updn hDb, upd_same, ws ++ [r1.getD j 0 + 2 * r2.getD j 0], by simp, by simp [hl'], fun z hz' => ?_⟩
            rcases List.mem_append.mp hz' with q | q
            · exact hww z q
            · rw [List.mem_singleton.mp q]
              have y1' : SzI (110 + 2 * (ps.length - 2) + 2) (r1.getD j 0) := pow_mono y1 (by (first | lia | omega))
              exact pow_mono (add2_lt y1' y2) (by (first | lia | omega))
          · rintro ys H3 ⟨s3, e', ws, rfl, hl', hww⟩
            have hlw : n < ws.length := by (first | lia | omega)
            refine ⟨_, _, SqL.of e', at_map hlw, ?_⟩
            refine ⟨(by show 3 ≤ sizeLine; decide), fun l hll => ?_⟩
            have s4 := Same.upd (o := .lst [.int 0, .int 1, .int 0]) hll
            refine ⟨_, _, s4.seq (s3.seq ha2), at_map hlt, ⟨by decide, by decide⟩, (by show (0 : Int) < 3; decide), ?_⟩
            obtain ⟨v, ev, hv⟩ := atI_mem (xs := [V.int 0, V.int 1, V.int 0]) (i := ms.getD fv 0 / 24 % 3) (by (first | lia | omega)) (by simp; (first | lia | omega))
            have hk : ∃ i : Int, v = .int i ∧ (i = 0 ∨ i = 1) := by
              simp only [List.mem_cons, List.not_mem_nil, or_false] at hv
              rcases hv with rfl | rfl | rfl
              · exact ⟨_, rfl, .inl rfl⟩
              · exact ⟨_, rfl, .inr rfl⟩
              · exact ⟨_, rfl, .inl rfl⟩
            obtain ⟨i', rfl, hi'⟩ := hk
            refine ⟨_, _, SqL.of upd_same, ev, ?_⟩
            have hix : ixN (ws.map V.int).length (n : Int) = some n := by
              unfold ixN
              rw [if_pos (by (first | lia | omega)), if_pos (by simp; (first | lia | omega))]; simp
            refine ⟨_, n, s4 _ _ e', hix, ?_⟩
            refine ⟨Db, ws.set n (ws.getD n 0 + i'), _, rfl, ((s2.trans s3).trans s4).updn (s2.free hDb), s2.free hDb, ?_, by simp [hl'], fun z hz' => ?_⟩
            · rw [upd_same, List.map_set]
            · have mw : ws.getD n 0 ∈ ws := by rw [List.getD_eq_getElem?_getD, List.getElem?_eq_getElem hlw]; exact List.getElem_mem _
              rcases List.mem_or_eq_of_mem_set hz' with q | q
              · exact pow_mono (hww z q) (by (first | lia | omega))
              · rw [q]
                exact pow_mono (add1_lt (hww _ mw) hi') (by (first | lia | omega))
        · rintro σ5 H5 ⟨Dr, us, xt', rfl, s5, hDr, eDr, hlu, huz⟩
          have ec5 := s5 _ _ ec
          have hne : Dr ≠ c := fun z => by rw [z, ec] at hDr; cases hDr
          refine ⟨(.inl ⟨rfl, _, SqL.of ec5⟩), _, ec5, (by rw [lps]; exact small1000 (by (first | lia | omega))), ?_⟩
          have hpn : ∀ q ∈ ps ++ [Dr], q ≠ c ∧ H q = none := fun q hq => by
            rcases List.mem_append.mp hq with z | z
            · exact hpc q z
            · rw [List.mem_singleton.mp z]; exact ⟨hne, sm.free hDr⟩
          refine ⟨ps ++ [Dr], rs ++ [us], _, _, _, rfl, (sm.trans s5).updn hc, ?_, RowsL.upd (RowsL.snoc eDr (hR.same s5)) (fun q hq => (hpn q hq).1), hpn, (by simp; (first | lia | omega)), hz.snoc hlu huz⟩
          rw [upd_same, List.map_append]; rfl
    · rintro σ H' ⟨ps, rs, xf, xr, xt, rfl, sm, ec, hR, hpc, hrm, hz⟩
      exact (k c ps rs H' hc ec hR hpc hrm hz sm)
theorem divInt_mul {a b : Int} (h : b ≠ 0) : Rat.divInt a b * (b : Rat) = (a : Rat) := by
  rw [Rat.divInt_eq_div]
  have : (b : Rat) ≠ 0 := by simpa using h
  grind
theorem cast_ne {b : Int} (h : b ≠ 0) : (b : Rat) ≠ 0 := by simpa using h
theorem rat_cancel {a b c : Rat} (hc : c ≠ 0) (h : a * c = b * c) : a = b := by grind
def lkB (bd : List (Nat × List Int)) (v : Nat) : Option (List Int) := (bd.find? fun x => x.1 == v).map (·.2)
theorem lkB_cons (x : Nat × List Int) (r : List (Nat × List Int)) (v : Nat) : lkB (x :: r) v = if x.1 = v then some x.2 else lkB r v := by
  unfold lkB
  rw [List.find?_cons]
  by_cases h : x.1 = v
  · simp [h]
  · rw [if_neg h, beq_false_of_ne h]
theorem lkB_some {v : Nat} {b : List Int} : ∀ {bd : List (Nat × List Int)}, lkB bd v = some b → (v, b) ∈ bd
  | [], h => by simp [lkB] at h
  | x :: r, h => by
    rw [lkB_cons] at h
    by_cases e : x.1 = v
    · rw [if_pos e] at h; cases h; rw [← e]; exact List.mem_cons_self
    · rw [if_neg e] at h; exact List.mem_cons_of_mem _ (lkB_some h)
theorem lkB_none {v : Nat} : ∀ {bd : List (Nat × List Int)}, lkB bd v = none ↔ ∀ x ∈ bd, x.1 ≠ v
  | [] => by simp [lkB]
  | x :: r => by
    rw [lkB_cons]
    by_cases e : x.1 = v
    · simp [e]
    · rw [if_neg e, lkB_none]; simp [e]
theorem lkB_mem {v : Nat} {b : List Int} : ∀ {bd : List (Nat × List Int)}, (bd.map (·.1)).Pairwise (· < ·) → (v, b) ∈ bd → lkB bd v = some b
  | [], _, h => nomatch h
  | x :: r, hp, h => by
    rw [lkB_cons]
    rw [List.map_cons, List.pairwise_cons] at hp
    rcases List.mem_cons.mp h with e | h
    · rw [← e]; simp
    · have := hp.1 v (List.mem_map.mpr ⟨_, h, rfl⟩)
      rw [if_neg (by (first | lia | omega))]; exact lkB_mem hp.2 h
def rs (F : Nat → Rat) : Nat → Rat
  | 0 => 0
  | n + 1 => rs F n + F n
theorem rs_add (F G : Nat → Rat) : ∀ n, rs (fun v => F v + G v) n = rs F n + rs G n
  | 0 => by simp only [rs]; grind
  | n + 1 => by simp only [rs]; rw [rs_add F G n]; grind
theorem rs_congr {F G : Nat → Rat} : ∀ {n}, (∀ v, v < n → F v = G v) → rs F n = rs G n
  | 0, _ => rfl
  | n + 1, h => by simp only [rs]; rw [rs_congr (n := n) fun v hv => h v (by (first | lia | omega)), h n (by (first | lia | omega))]
theorem rs_zero : ∀ n, rs (fun _ => 0) n = 0
  | 0 => rfl
  | n + 1 => by simp only [rs]; rw [rs_zero n]; grind
theorem rs_one (u : Nat) (c : Rat) : ∀ n, rs (fun v => if v = u then c else 0) n = if u < n then c else 0
  | 0 => by simp [rs]
  | n + 1 => by
    simp only [rs]
    rw [rs_one u c n]
    by_cases h : u < n
    · rw [if_pos h, if_neg (by (first | lia | omega)), if_pos (by (first | lia | omega))]; grind
    · by_cases h2 : n = u
      · rw [if_neg h, if_pos h2, if_pos (by (first | lia | omega))]; grind
      · rw [if_neg h, if_neg h2, if_neg (by (first | lia | omega))]; grind
def bs (h : Nat → List Int → Rat) : List (Nat × List Int) → Rat
  | [] => 0
  | x :: r => h x.1 x.2 + bs h r
def atB (h : Nat → List Int → Rat) (o : Option (List Int)) (v : Nat) : Rat := match o with
  | some b => h v b
  | none => 0
theorem rs_bd (h : Nat → List Int → Rat) {n : Nat} : ∀ bd : List (Nat × List Int), (bd.map (·.1)).Pairwise (· < ·) → (∀ x ∈ bd, x.1 < n) → rs (fun v => atB h (lkB bd v) v) n = bs h bd
  | [], _, _ => by
    rw [show (fun v => atB h (lkB [] v) v) = fun _ => 0 from rfl, rs_zero]; rfl
  | x :: r, hp, hn => by
    rw [List.map_cons, List.pairwise_cons] at hp
    have ih := rs_bd h (n := n) r hp.2 fun y hy => hn y (by simp [hy])
    have no : lkB r x.1 = none := lkB_none.mpr fun y hy e => by
      have := hp.1 y.1 (List.mem_map.mpr ⟨y, hy, rfl⟩)
      (first | lia | omega)
    have e : ∀ v, v < n → atB h (lkB (x :: r) v) v = (if v = x.1 then h x.1 x.2 else 0) + atB h (lkB r v) v := fun v _ => by
      rw [lkB_cons]
      by_cases q : x.1 = v
      · subst q; rw [if_pos rfl, if_pos rfl, no]; simp only [atB]; grind
      · rw [if_neg q, if_neg (fun z => q z.symm)]; grind
    rw [rs_congr e, rs_add, rs_one, if_pos (hn x (by simp)), ih]
    rfl
theorem bs_mul {d : Int} (hd : d ≠ 0) (row : List Int) (j : Nat) : ∀ bd : List (Nat × List Int), bs (fun u b => (g row u : Rat) * Rat.divInt (g b j) d) bd * (d : Rat) = ((bsum bd row j : Int) : Rat)
  | [] => by simp [bs, bsum]
  | x :: r => by
    have ih := bs_mul hd row j r
    have e := divInt_mul (a := g x.2 j) hd
    simp only [bs, bsum]
    rw [Rat.intCast_add, Rat.intCast_mul, ← ih, ← e]
    grind
theorem dot_snoc : ∀ (a : List Int) (b : List Rat) (x : Int) (y : Rat), a.length = b.length → dot (a ++ [x]) (b ++ [y]) = dot a b + (x : Rat) * y
  | [], [], x, y, _ => by simp only [List.nil_append, dot]; grind
  | u :: a, v :: b, x, y, h => by
    have ih := dot_snoc a b x y (by simpa using h)
    simp only [List.cons_append, dot]; rw [ih]; grind
  | [], _ :: _, _, _, h => by simp at h
  | _ :: _, [], _, _, h => by simp at h
theorem dot_range (row : List Int) (F : Nat → Rat) : ∀ n, n ≤ row.length → dot (row.take n) ((List.range n).map F) = rs (fun v => (g row v : Rat) * F v) n
  | 0, _ => by simp [dot, rs]
  | n + 1, h => by
    have hn : n < row.length := h
    rw [List.range_succ, List.map_append, List.take_add_one, g_lt hn]
    show dot (row.take n ++ [g row n]) ((List.range n).map F ++ [F n]) = _
    rw [dot_snoc _ _ _ _ (by simp; (first | lia | omega)), dot_range row F n (by (first | lia | omega))]
    rfl
def ptF (n : Nat) (d : Int) (bd : List (Nat × List Int)) (v : Nat) : Rat := atB (fun _ b => Rat.divInt (g b n) d) (lkB bd v) v
def wyF (d : Int) (bd : List (Nat × List Int)) (f v : Nat) : Rat := if v = f then 1 else atB (fun _ b => Rat.divInt (-(g b f)) d) (lkB bd v) v
def ptQ (n : Nat) (d : Int) (bd : List (Nat × List Int)) : List Rat := (List.range n).map (ptF n d bd)
def wyQ (n : Nat) (d : Int) (bd : List (Nat × List Int)) (f : Nat) : List Rat := (List.range n).map (wyF d bd f)
theorem atB_g (row : List Int) (h : Nat → List Int → Rat) (o : Option (List Int)) (v : Nat) : (g row v : Rat) * atB h o v = atB (fun v b => (g row v : Rat) * h v b) o v := by
  cases o with
  | none => simp [atB]
  | some b => rfl
structure Fin (n : Nat) (rows : List (List Int)) (d : Int) (bd : List (Nat × List Int)) (rest : List (List Int)) : Prop where
  dne : d ≠ 0
  lenR : ∀ l ∈ rest, l.length = n + 1 + rows.length
  lenB : ∀ x ∈ bd, x.2.length = n + 1 + rows.length
  keys : (bd.map (·.1)).Pairwise (· < ·)
  below : ∀ x ∈ bd, x.1 < n
  diag : ∀ x ∈ bd, ∀ y ∈ bd, g x.2 y.1 = d * dl x.1 y.1
  low : ∀ x ∈ bd, ∀ j, j < x.1 → g x.2 j = 0
  zero : ∀ l ∈ rest, ∀ j, j < n → g l j = 0
  cmbR : ∀ l ∈ rest, ∀ j, j ≤ n → g l j = dotc (l.drop (n + 1)) rows j
  cmbB : ∀ x ∈ bd, ∀ j, j ≤ n → g x.2 j = dotc (x.2.drop (n + 1)) rows j
  span : ∀ row ∈ rows, (∀ j, j ≤ n → d * g row j = bsum bd row j) ∨ ∃ l ∈ rest, ∀ j, j ≤ n → g l j = d * g row j - bsum bd row j
theorem RInv.fin {n rows d bd rest} (I : RInv n rows n d bd rest) : Fin n rows d bd rest := ⟨I.dne, I.lenR, I.lenB, I.keys, I.below, I.diag, I.low, I.zero, I.cmbR, I.cmbB, I.span⟩
theorem Fin.all {n rows d bd rest} (I : Fin n rows d bd rest) (h : ∀ l ∈ rest, g l n = 0) {row : List Int} (hr : row ∈ rows) : ∀ j, j ≤ n → d * g row j = bsum bd row j := by
  intro j hj
  rcases I.span row hr with q | ⟨l, hl, q⟩
  · exact q j hj
  · have e := q j hj
    have z : g l j = 0 := by
      by_cases t : j = n
      · rw [t]; exact h l hl
      · exact I.zero l hl j (by (first | lia | omega))
    (first | lia | omega)
theorem Fin.point {n rows d bd rest} (I : Fin n rows d bd rest) (h : ∀ l ∈ rest, g l n = 0) {row : List Int} (hr : row ∈ rows) (hl : n ≤ row.length) : dot (row.take n) (ptQ n d bd) = (g row n : Rat) := by
  unfold ptQ
  rw [dot_range _ _ _ hl]
  have e : (fun v => (g row v : Rat) * ptF n d bd v) = fun v => atB (fun v b => (g row v : Rat) * Rat.divInt (g b n) d) (lkB bd v) v := funext fun v => atB_g _ _ _ _
  rw [e, rs_bd _ _ I.keys I.below]
  refine rat_cancel (cast_ne I.dne) ?_
  rw [bs_mul I.dne, ← I.all h hr n (Nat.le_refl _), Rat.intCast_mul]
  grind
theorem Fin.way {n rows d bd rest f} (I : Fin n rows d bd rest) (h : ∀ l ∈ rest, g l n = 0) {row : List Int} (hr : row ∈ rows) (hl : n ≤ row.length) (hf : f < n) (hn : lkB bd f = none) : dot (row.take n) (wyQ n d bd f) = 0 := by
  unfold wyQ
  rw [dot_range _ _ _ hl]
  have e : ∀ v, v < n → (g row v : Rat) * wyF d bd f v = (if v = f then (g row f : Rat) else 0) + atB (fun v b => (-1 : Rat) * ((g row v : Rat) * Rat.divInt (g b f) d)) (lkB bd v) v := by
    intro v hv
    unfold wyF
    by_cases q : v = f
    · subst q; rw [if_pos rfl, if_pos rfl, hn]; simp only [atB]; grind
    · rw [if_neg q, if_neg q, atB_g]
      cases lkB bd v with
      | none => simp only [atB]; grind
      | some b =>
        show (g row v : Rat) * Rat.divInt (-(g b f)) d = 0 + (-1 : Rat) * ((g row v : Rat) * Rat.divInt (g b f) d)
        rw [← Rat.neg_divInt]; grind
  rw [rs_congr e, rs_add, rs_one, if_pos hf, rs_bd _ _ I.keys I.below]
  have e2 : ∀ bd : List (Nat × List Int), bs (fun v b => (-1 : Rat) * ((g row v : Rat) * Rat.divInt (g b f) d)) bd = (-1 : Rat) * bs (fun v b => (g row v : Rat) * Rat.divInt (g b f) d) bd := by
    intro bd
    induction bd with
    | nil => simp [bs]
    | cons x r ih => simp only [bs]; rw [ih]; grind
  rw [e2]
  refine rat_cancel (cast_ne I.dne) ?_
  have b := bs_mul I.dne row f bd
  rw [← I.all h hr f (by (first | lia | omega)), Rat.intCast_mul] at b
  grind
theorem ptF_free {n d bd f} (hn : lkB bd f = none) : ptF n d bd f = 0 := by unfold ptF; rw [hn]; rfl
theorem wyF_self {d bd f} : wyF d bd f f = 1 := if_pos rfl
theorem wyF_free {d bd f v} (h : v ≠ f) (hn : lkB bd v = none) : wyF d bd f v = 0 := by unfold wyF; rw [if_neg h, hn]; rfl
theorem Fin.wyF_more {n rows d bd rest f v} (I : Fin n rows d bd rest) (h : f < v) : wyF d bd f v = 0 := by
  unfold wyF
  rw [if_neg (by (first | lia | omega))]
  cases e : lkB bd v with
  | none => rfl
  | some b =>
    show Rat.divInt (-(g b f)) d = 0
    rw [I.low (v, b) (lkB_some e) f h]
    simp
theorem dot_dotc {c : Int} (hc : c ≠ 0) (j : Nat) : ∀ (fs : List Int) (rows : List (List Int)), dot (rows.map fun r => g r j) (fs.map fun x => Rat.divInt x c) * (c : Rat) = ((dotc fs rows j : Int) : Rat)
  | [], [] => by simp [dot, dotc]
  | _ :: _, [] => by simp [dot, dotc]
  | [], _ :: _ => by simp [dot, dotc]
  | x :: fs, r :: rows => by
    have ih := dot_dotc hc j fs rows
    have e := divInt_mul (a := x) hc
    simp only [List.map_cons, dot, dotc]
    rw [Rat.intCast_add, Rat.intCast_mul, ← ih, ← e]
    grind
theorem Fin.never {n rows d bd rest l} (I : Fin n rows d bd rest) (hl : l ∈ rest) (h : g l n ≠ 0) {j : Nat} (hj : j ≤ n) :
    dot (rows.map fun r => g r j) ((l.drop (n + 1)).map fun x => Rat.divInt x (g l n)) = if j = n then 1 else 0 := by
  refine rat_cancel (cast_ne h) ?_
  rw [dot_dotc h, ← I.cmbR l hl j hj]
  by_cases q : j = n
  · subst q; rw [if_pos rfl]; grind
  · rw [if_neg q, I.zero l hl j (by (first | lia | omega))]; grind
def oneA (i m : Nat) : List Int := List.replicate i 0 ++ [1] ++ List.replicate (m - i - 1) 0
def linesOf (rows : List (List Int)) : List (List Int) := (List.range rows.length).map fun i => rows.getD i [] ++ oneA i rows.length
theorem len_oneA {i m : Nat} (h : i < m) : (oneA i m).length = m := by unfold oneA; simp; (first | lia | omega)
theorem g_app_left {a b : List Int} {j : Nat} (h : j < a.length) : g (a ++ b) j = g a j := by
  unfold g; rw [List.getD_eq_getElem?_getD, List.getD_eq_getElem?_getD, List.getElem?_append_left h]
theorem dotc_zero (j : Nat) : ∀ (k : Nat) (rows : List (List Int)), dotc (List.replicate k 0) rows j = 0
  | 0, rows => by cases rows <;> rfl
  | k + 1, [] => rfl
  | k + 1, r :: rows => by
    rw [List.replicate_succ]
    show 0 * g r j + dotc (List.replicate k 0) rows j = 0
    rw [dotc_zero j k rows]; (first | lia | omega)
theorem dotc_one (j : Nat) : ∀ (i : Nat) (rows : List (List Int)) (m : Nat), i < rows.length → dotc (oneA i m) rows j = g (rows.getD i []) j
  | 0, r :: rows, m, _ => by
    show 1 * g r j + dotc (List.replicate (m - 0 - 1) 0) rows j = _
    rw [dotc_zero]; simp
  | i + 1, r :: rows, m, h => by
    have ih := dotc_one j i rows (m - 1) (by simpa using h)
    have e : oneA (i + 1) m = 0 :: oneA i (m - 1) := by
      unfold oneA
      rw [List.replicate_succ, show m - (i + 1) - 1 = m - 1 - i - 1 by (first | lia | omega)]
      rfl
    rw [e]
    show 0 * g r j + dotc (oneA i (m - 1)) rows j = _
    rw [ih]; simp
  | i, [], _, h => by simp at h
theorem RInv.init {n : Nat} {rows : List (List Int)} (h : ∀ r ∈ rows, r.length = n + 1) : RInv n rows 0 1 [] (linesOf rows) := by
  have mem : ∀ l ∈ linesOf rows, ∃ i, i < rows.length ∧ l = rows.getD i [] ++ oneA i rows.length ∧ (rows.getD i []).length = n + 1 := fun l hl => by
    obtain ⟨i, hi, rfl⟩ := List.mem_map.mp hl
    have hi' : i < rows.length := by simpa using hi
    refine ⟨i, hi', rfl, h _ ?_⟩
    rw [List.getD_eq_getElem?_getD, List.getElem?_eq_getElem hi']
    exact List.getElem_mem hi'
  refine ⟨⟨[], [], .nil, rfl, fun u q => (nomatch q), fun l _ => ⟨fun j => g l j, fun j _ => ?_⟩, fun x q => (nomatch q)⟩, fun l hl => ?_, fun x q => (nomatch q), fun l _ j hj => absurd hj (Nat.not_lt_zero j), .nil, fun x q => (nomatch q), fun x q => (nomatch q), fun x q => (nomatch q), fun l hl j hj => ?_, fun x q => (nomatch q), fun row hr => ?_⟩
  · show g l j = g l j * 1 - 0
    (first | lia | omega)
  · obtain ⟨i, hi, rfl, e⟩ := mem l hl
    rw [List.length_append, e, len_oneA hi]
  · obtain ⟨i, hi, rfl, e⟩ := mem l hl
    rw [g_app_left (by (first | lia | omega)), List.drop_left' e, dotc_one j i rows _ hi]
  · obtain ⟨i, hi⟩ := List.mem_iff_getElem?.mp hr
    have hi' : i < rows.length := (List.getElem?_eq_some_iff.mp hi).1
    have e : rows.getD i [] = row := by rw [List.getD_eq_getElem?_getD, hi]; rfl
    refine .inr ⟨row ++ oneA i rows.length, List.mem_map.mpr ⟨i, by simpa using hi', by rw [e]⟩, fun j hj => ?_⟩
    rw [g_app_left (by rw [h row hr]; (first | lia | omega))]
    show g row j = 1 * g row j - 0
    (first | lia | omega)
def Bdd (S : Nat) (l : List Int) : Prop := ∀ x ∈ l, x.natAbs < 2 ^ S
theorem Bdd.mono {S T : Nat} {l : List Int} (h : Bdd S l) (hT : S ≤ T) : Bdd T l := fun x hx => Nat.lt_of_lt_of_le (h x hx) (Nat.pow_le_pow_right (by decide) hT)
theorem Bdd.g {S : Nat} {l : List Int} (h : Bdd S l) (j : Nat) : (g l j).natAbs < 2 ^ S := by
  by_cases hj : j < l.length
  · exact h _ (List.mem_of_getElem? (g_lt hj))
  · have : Ev.g l j = 0 := by unfold Ev.g; rw [List.getD_eq_getElem?_getD, List.getElem?_eq_none (by (first | lia | omega))]; rfl
    rw [this]; exact Nat.two_pow_pos S
theorem Bdd.clr {S : Nat} {l p : List Int} (hl : Bdd S l) (hp : Bdd S p) (u : Nat) (d : Int) : Bdd (2 * S + 1) (clr l p u d) := by
  intro x hx
  unfold Ev.clr at hx
  obtain ⟨i, hi⟩ := List.mem_iff_getElem?.mp hx
  rw [List.getElem?_zipWith] at hi
  cases ea : l[i]? with
  | none => rw [ea] at hi; simp at hi
  | some a =>
    cases eb : p[i]? with
    | none => rw [ea, eb] at hi; simp at hi
    | some b =>
      rw [ea, eb] at hi
      have hi' : x = (a * Ev.g p u - b * Ev.g l u).fdiv d := (Option.some.inj hi).symm
      rw [hi']
      have h1 := mul_lt_pow (hl a (List.mem_of_getElem? ea)) (hp.g u)
      have h2 := mul_lt_pow (hp b (List.mem_of_getElem? eb)) (hl.g u)
      refine fdiv_lt_pow ?_
      rw [show S + S = 2 * S by (first | lia | omega)] at h1 h2
      rw [Nat.pow_succ]
      (first | lia | omega)
theorem rep_one (k : Nat) (x : V) : (List.replicate k [x]).flatten = List.replicate k x := by simp
def spOne : Sp := fun vs H Q _ => ∃ i m : Nat, vs = [.int i, .int m] ∧ i < m ∧ m ≤ 1000 ∧ ∀ (c : Addr) (H' : Hp), H c = none → H' c = some (.lst ((oneA i m).map V.int)) → Same H H' → Q (.ref c) H'
theorem scOne : FnScope ["place", "length"] ["place", "length"] (defScope sOne) := ⟨rfl, rfl, rfl, by decide +kernel, rfl, by decide +kernel, by decide +kernel⟩
theorem ok_one {f : Addr} {fd : FuncData} (D : Def K mg "one_among_noughts" sOne ["place", "length"] f fd) : FnOk P w K mg base CX0 1 f fd ["place", "length"] spOne := by
  refine D.fn.ok scOne (fun vs H Q E h => ?_) (fun cdv A outer s H vs Q E hr h => ?_)
  · obtain ⟨i, m, rfl, _⟩ := h
    rfl
  · obtain ⟨i, m, rfl, hi, hm, k⟩ := h
    refine ⟨_, pss_one (ps_ret (pe_op op_cat (pe_op op_cat (pe_op op_rep (pe_lst (pa_cons pe_int pa_nil)) (pv 0)) (pe_lst (pa_cons pe_int pa_nil))) (pe_op op_rep (pe_lst (pa_cons pe_int pa_nil)) (pe_op op_sub (pe_op op_sub (pv 1) (pv 0)) pe_int)))), ?_⟩
    refine ⟨(by show 1 ≤ sizeLine; decide), fun l1 h1 => ⟨l1, i, [.int 0], rfl, rfl, upd_same, (by (first | lia | omega)), (by (first | lia | omega)), ?_, fun p1 n1 => ?_⟩⟩
    · show 1 * (i : Int).toNat ≤ sizeLine
      exact Nat.le_of_lt (small1000 (by (first | lia | omega)))
    have ei : ((i : Int)).toNat = i := by (first | lia | omega)
    rw [ei, rep_one]
    have s1 : Same H (upd H l1 (.lst [.int 0])) := Same.upd h1
    have s2 := s1.trans (Same.upd (o := .lst (List.replicate i (.int 0))) n1)
    refine ⟨(by show 1 ≤ sizeLine; decide), fun l2 h2 => ⟨p1, l2, _, _, rfl, rfl, (Same.upd h2) _ _ upd_same, upd_same, ?_, fun p2 n2 => ?_⟩⟩
    · rw [List.length_replicate]; show i + 1 ≤ sizeLine; exact Nat.le_of_lt (small1000 (by (first | lia | omega)))
    have s3 := (s2.trans (Same.upd (o := .lst [.int 1]) h2)).trans (Same.upd (o := .lst (List.replicate i (.int 0) ++ [.int 1])) n2)
    refine ⟨(by show 1 ≤ sizeLine; decide), fun l3 h3 => ⟨l3, (m : Int) - i - 1, [.int 0], rfl, rfl, upd_same, (by (first | lia | omega)), (by (first | lia | omega)), ?_, fun p3 n3 => ?_⟩⟩
    · show 1 * ((m : Int) - i - 1).toNat ≤ sizeLine
      exact Nat.le_of_lt (small1000 (by (first | lia | omega)))
    have em : ((m : Int) - i - 1).toNat = m - i - 1 := by (first | lia | omega)
    rw [em, rep_one]
    have s4 := s3.trans (Same.upd (o := .lst [.int 0]) h3)
    refine ⟨p2, p3, _, _, rfl, rfl, (Same.upd n3) _ _ ((Same.upd h3) _ _ upd_same), upd_same, ?_, fun p4 n4 => ?_⟩
    · rw [List.length_append, List.length_replicate, List.length_replicate]; show i + 1 + (m - i - 1) ≤ sizeLine; exact Nat.le_of_lt (small1000 (by (first | lia | omega)))
    have s5 := s4.trans (Same.upd (o := .lst (List.replicate (m - i - 1) (.int 0))) n3)
    refine k p4 _ (s5.free n4) ?_ (s5.trans (Same.upd n4))
    rw [upd_same]
    unfold oneA
    simp
def spLines (K : PySem.W.Frag) : Sp := fun vs H Q _ => ∃ (a : Addr) (ps : List Addr) (rs : List (List Int)), vs = [.ref a] ∧ SqL K H a (ps.map V.ref) ∧ RowsL H ps rs ∧ rs.length ≤ 500 ∧ (∀ r ∈ rs, r.length ≤ 500) ∧
  ∀ (c : Addr) (cs : List Addr) (H' : Hp), H c = none → H' c = some (.lst (cs.map V.ref)) → RowsL H' cs (linesOf rs) → Same H H' → Q (.ref c) H'
theorem scLines : FnScope ["rows"] ["rows"] (defScope sLines) := ⟨rfl, rfl, rfl, by decide +kernel, rfl, by decide +kernel, by decide +kernel⟩
theorem ok_lines {f fo : Addr} {fd fdo : FuncData} (D : Def K mg "lines_of" sLines ["rows"] f fd) (B : Blt mg) (be : mg "enumerate" = none) (Do : Def K mg "one_among_noughts" sOne ["place", "length"] fo fdo) : FnOk P w K mg base CX0 2 f fd ["rows"] (spLines K) := by
  have GO : FnOk P w K mg base CX0 1 fo fdo ["place", "length"] spOne := ok_one Do
  refine D.fn.ok scLines (fun vs H Q E h => ?_) (fun cdv A outer s H vs Q E hr h => ?_)
  · obtain ⟨a, ps, rs, rfl, _⟩ := h
    rfl
  · obtain ⟨a, ps, rs, rfl, ha, hR, hl, hl2, k⟩ := h
    refine ⟨_, pss_one (ps_ret (pe_comp ["place", "row"] [("rows", 0)] rfl (compSc_mk (by rfl) (by rfl) (by rfl)) (pi_enum (by rfl) be (pa_cons (pv 0) pa_nil)) (gk_tup2 (i := 0) (j := 1) (by decide) (by decide))
      (fun cl C s H fp pins => pg_tup rfl (pgs_cons (pg_name (i := 0) (by show (["place", "row", "rows"] : List Str).Nodup; decide +kernel) rfl (Or.inl rfl) (Or.inr rfl)) (pgs_cons (pg_name (i := 1) (by show (["place", "row", "rows"] : List Str).Nodup; decide +kernel) rfl (Or.inl rfl) (Or.inr rfl)) pgs_nil)))
      (fun cl C s H fp pins => pe_op op_cat (pv 1) (pe_call GO hr (by rfl) Do.mg Do.fn.kp Do.bd .nil pass0 (pa_cons (pv 0) (pa_cons (pe_callB callC_len_seq (by rfl) B.len bt_len (pa_cons (pv 2) pa_nil)) pa_nil)))))), ?_⟩
    have lp := Paired.length hR
    refine ⟨a, rfl, ⟨_, ha⟩, fun Da hD => ?_⟩
    refine comp_enum (xs := ps.map V.ref) (fun i ys H' => Same H H' ∧ H' Da = some (.lst ys) ∧ ∃ cs : List Addr, ys = cs.map V.ref ∧ (∀ c ∈ cs, c ≠ Da) ∧ RowsL H' cs ((List.range i).map fun i => rs.getD i [] ++ oneA i rs.length)) ⟨Same.upd hD, upd_same, [], rfl, (fun _ z => nomatch z), .nil⟩ ?_ ?_ ?_
    · rintro i ys H' hi ⟨sm, e, cs, rfl, hne, hT⟩
      have := Paired.length hT
      simp at this hi ⊢
      exact ⟨e, by rw [this]; exact small1000 (by (first | lia | omega)), sm.seq ha⟩
    · rintro i x ys H' T hx ⟨sm, e, cs, rfl, hne, hT⟩ nT
      rw [List.getElem?_map] at hx
      cases ep : ps[i]? with
      | none => rw [ep] at hx; cases hx
      | some p =>
        rw [ep] at hx
        have hx' : x = V.ref p := (Option.some.inj hx).symm
        subst hx'
        obtain ⟨r, er, hr'⟩ := hR.get ep
        have hi : i < rs.length := (List.getElem?_eq_some_iff.mp er).1
        have lr := hl2 r (List.mem_of_getElem? er)
        have sT : Same H' (upd H' T (.tup [.int i, .ref p])) := Same.upd nT
        have smT := sm.trans sT
        refine ⟨T, _, rfl, SqT.of upd_same, rfl, _, _, rfl, _, _, rfl, rfl, ?_⟩
        refine ⟨_, .inl (smT.seq ha), i, rs.length, (by show [V.int (i : Int), V.int ((ps.map V.ref).length : Int)] = _; rw [List.length_map, lp]), hi, (by (first | lia | omega)), fun c H2 nc ec s2 => ?_⟩
        have s3 := smT.trans s2
        refine ⟨p, c, _, _, rfl, rfl, s3 _ _ hr', ec, ?_, fun q nq => ?_⟩
        · rw [List.length_map, List.length_map, len_oneA hi]; exact Nat.le_of_lt (small1000 (by (first | lia | omega)))
        have eD : H2 Da = some (.lst (cs.map V.ref)) := s2 _ _ (sT _ _ e)
        have s4 : Same H2 (upd H2 q (.lst (r.map V.int ++ (oneA i rs.length).map V.int))) := Same.upd nq
        have eD' := s4 _ _ eD
        have hq : q ≠ Da := fun z => by rw [z, eD] at nq; cases nq
        refine ⟨eD', (s3.trans s4).updn hD, upd_same, cs ++ [q], by simp, ?_, ?_⟩
        · intro c' hc'
          rcases List.mem_append.mp hc' with z | z
          · exact hne c' z
          · rw [List.mem_singleton.mp z]; exact hq
        · rw [List.range_succ, List.map_append]
          have hT' := RowsL.upd (p := Da) (o := .lst (cs.map V.ref ++ [V.ref q])) (hT.same (sT.trans (s2.trans s4))) hne
          refine RowsL.snoc ?_ hT'
          rw [upd_ne hq, upd_same, List.map_append]
          have eg : rs.getD i [] = r := by rw [List.getD_eq_getElem?_getD, er]; rfl
          show some (HO.lst (r.map V.int ++ (oneA i rs.length).map V.int)) = some (HO.lst ((rs.getD i []).map V.int ++ (oneA i rs.length).map V.int))
          rw [eg]
    · rintro ys H' ⟨sm, e, cs, rfl, hne, hT⟩
      rw [List.length_map, lp] at hT
      exact k Da cs H' hD e hT sm
def spFirst (K : PySem.W.Frag) : Sp := fun vs H Q _ => ∃ (a : Addr) (ps : List Addr) (ls : List (List Int)) (u : Nat), vs = [.ref a, .int u] ∧ SqL K H a (ps.map V.ref) ∧ RowsL H ps ls ∧ (∀ l ∈ ls, u < l.length) ∧
  (∀ (i : Nat) (l : List Int) (H' : Hp), ls[i]? = some l → g l u ≠ 0 → Same H H' → Q (.int i) H') ∧ ((∀ l ∈ ls, g l u = 0) → ∀ H', Same H H' → Q .non H')
theorem scFirst : FnScope ["lines", "unknown", "place", "line"] ["lines", "unknown"] (defScope sFirst) := ⟨rfl, rfl, rfl, by decide +kernel, rfl, by decide +kernel, by decide +kernel⟩
theorem ok_first {f : Addr} {fd : FuncData} (D : Def K mg "first_place_with" sFirst ["lines", "unknown"] f fd) (be : mg "enumerate" = none) : FnOk P w K mg base CX0 1 f fd ["lines", "unknown"] (spFirst K) := by
  refine D.fn.ok scFirst (fun vs H Q E h => ?_) (fun cdv A outer s H vs Q E hr h => ?_)
  · obtain ⟨a, ps, ls, u, rfl, _⟩ := h
    rfl
  · obtain ⟨a, ps, ls, u, rfl, ha, hR, hl, k1, k2⟩ := h
    refine ⟨_, pss_cons (ps_for PassesOwn.never rfl (pi_enum (by rfl) be (pa_cons (pv 0) pa_nil)) (pg_tup rfl (pgs_cons (pg_name (i := 2) scFirst.nd rfl (Or.inl rfl)) (pgs_cons (pg_name (i := 3) scFirst.nd rfl (Or.inl rfl)) pgs_nil)))
      (pss_one (ps_if (pt_cmpR op_ne (pe_ix ix_list (pv 3) (pv 1) plainN) pe_int (nomark _)) (pss_one (ps_ret (pv 2))) pss_nil)))
      (pss_one (ps_ret pe_non)), ?_⟩
    have lp := Paired.length hR
    refine ⟨a, rfl, ⟨_, ha⟩, ?_⟩
    refine for_enum (xs := ps.map V.ref) (fun i σ H' => ∃ (x y : Option V), σ = [some (.ref a), some (.int u), x, y] ∧ Same H H' ∧ ∀ j l, j < i → ls[j]? = some l → g l u = 0) ⟨none, none, rfl, fun _ _ e => e, fun j _ h => absurd h (Nat.not_lt_zero j)⟩
      (fun i σ H' _ ⟨_, _, _, s1, _⟩ => s1.seq ha) ?_ ?_
    · rintro i x σ H' T hx ⟨x', y', rfl, sm, hj⟩ hT
      rw [List.getElem?_map] at hx
      cases ep : ps[i]? with
      | none => rw [ep] at hx; cases hx
      | some p =>
        rw [ep] at hx
        have hx' : x = V.ref p := (Option.some.inj hx).symm
        subst hx'
        obtain ⟨l, el, hp⟩ := hR.get ep
        have s2 : Same H' (upd H' T (.tup [.int i, .ref p])) := Same.upd hT
        have sA := sm.trans s2
        refine ⟨T, _, rfl, SqT.of upd_same, rfl, _, _, rfl, _, _, rfl, rfl, ?_⟩
        refine ⟨_, .int (g l u), SqL.of (sA _ _ hp), at_map (hl l (List.mem_of_getElem? el)), _, rfl, ?_⟩
        by_cases hz : g l u = 0
        · refine iteF' (by simp [hz]) ⟨_, _, rfl, sA, fun j l' hj' el' => ?_⟩
          by_cases hji : j < i
          · exact hj j l' hji el'
          · have : j = i := by (first | lia | omega)
            subst this
            rw [el] at el'; cases el'
            exact hz
        · exact iteT' (by simp [hz]) (k1 i l _ el hz sA)
    · rintro σ H' ⟨x', y', rfl, sm, hj⟩
      refine k2 (fun l hl' => ?_) H' sm
      obtain ⟨j, ej⟩ := List.mem_iff_getElem?.mp hl'
      refine hj j l ?_ ej
      rw [List.length_map, lp]
      exact (List.getElem?_eq_some_iff.mp ej).1
def spClr (K : PySem.W.Frag) : Sp := fun vs H Q _ => ∃ (a b : Addr) (l p : List Int) (u S : Nat) (d : Int), vs = [.ref a, .ref b, .int u, .int d] ∧ SqL K H a (l.map V.int) ∧ SqL K H b (p.map V.int) ∧ u < l.length ∧ l.length = p.length ∧ l.length ≤ 1000 ∧ d ≠ 0 ∧ Bdd S l ∧ Bdd S p ∧ S ≤ 20000000 ∧
  ∀ (c : Addr) (H' : Hp), H c = none → H' c = some (.lst ((clr l p u d).map V.int)) → Same H H' → Q (.ref c) H'
theorem scClr : FnScope ["line", "pivot", "unknown", "divisor"] ["line", "pivot", "unknown", "divisor"] (defScope sClr) := ⟨rfl, rfl, rfl, by decide +kernel, rfl, by decide +kernel, by decide +kernel⟩
theorem clr_take {l p : List Int} {u : Nat} {d : Int} {i : Nat} {x y : Int} (hx : l[i]? = some x) (hy : p[i]? = some y) : (clr l p u d).take (i + 1) = (clr l p u d).take i ++ [(x * g p u - y * g l u).fdiv d] := by
  rw [List.take_add_one]
  congr 1
  unfold clr
  rw [List.getElem?_zipWith, hx, hy]
  rfl
theorem ok_clr {f : Addr} {fd : FuncData} (D : Def K mg "cleared" sClr ["line", "pivot", "unknown", "divisor"] f fd) (B : Blt mg) (hP : P.given.tree = none) : FnOk P w K mg base CX0 1 f fd ["line", "pivot", "unknown", "divisor"] (spClr K) := by
  refine D.fn.ok scClr (fun vs H Q E h => ?_) (fun cdv A outer s H vs Q E hr h => ?_)
  · obtain ⟨a, b, l, p, u, S, d, rfl, _⟩ := h
    rfl
  · obtain ⟨a, b, l, p, u, S, d, rfl, ha, hb, hu, hl, hl2, hd, bl, bp, hS, k⟩ := h
    refine ⟨_, pss_one (ps_ret (pe_comp ["own", "other"] [("pivot", 1), ("unknown", 2), ("line", 0), ("divisor", 3)] rfl (compSc_mk (by rfl) (by rfl) (by rfl)) (pi_zip (by rfl) B.zip (pa_cons (pv 0) (pa_cons (pv 1) pa_nil))) (gk_tup2 (i := 0) (j := 1) (by decide) (by decide))
      (fun cl C s H fp pins => pg_tup rfl (pgs_cons (pg_name (i := 0) (by show (["own", "other", "pivot", "unknown", "line", "divisor"] : List Str).Nodup; decide +kernel) rfl (Or.inl rfl) (Or.inr rfl)) (pgs_cons (pg_name (i := 1) (by show (["own", "other", "pivot", "unknown", "line", "divisor"] : List Str).Nodup; decide +kernel) rfl (Or.inl rfl) (Or.inr rfl)) pgs_nil)))
      (fun cl C s H fp pins => pe_op (op_fdivC rfl rfl rfl hP hr.pylong) (pe_op op_sub (pe_op op_mulB (pv 0) (pe_ix ixC_list (pv 2) (pv 3) plainN)) (pe_op op_mulB (pv 1) (pe_ix ixC_list (pv 4) (pv 3) plainN))) (pv 5)))), ?_⟩
    have lc : (clr l p u d).length = l.length := len_clr hl
    refine ⟨a, b, rfl, ⟨_, ha⟩, ⟨_, hb⟩, fun Da hD => ?_⟩
    refine comp_zip (xs := l.map V.int) (ys' := p.map V.int) (fun i ys H' => Same H H' ∧ H' Da = some (.lst ys) ∧ ys = ((clr l p u d).take i).map V.int) ⟨Same.upd hD, upd_same, by simp⟩ ?_ ?_ ?_
    · rintro i ys H' hi ⟨sm, e, rfl⟩
      refine ⟨e, ?_, sm.seq ha, sm.seq hb⟩
      rw [List.length_map, List.length_take]
      exact small1000 (by (first | lia | omega))
    · rintro i x y ys H' T hx hy ⟨sm, e, rfl⟩ nT
      rw [List.getElem?_map] at hx hy
      cases ex : l[i]? with
      | none => rw [ex] at hx; cases hx
      | some v =>
        cases ey : p[i]? with
        | none => rw [ey] at hy; cases hy
        | some z =>
          rw [ex] at hx; rw [ey] at hy
          have hx' : x = V.int v := (Option.some.inj hx).symm
          have hy' : y = V.int z := (Option.some.inj hy).symm
          subst hx'; subst hy'
          have sT : Same H' (upd H' T (.tup [.int v, .int z])) := Same.upd nT
          have s2 := sm.trans sT
          have ip : atI (p.map V.int) (u : Int) = some (.int (g p u)) := at_map (by (first | lia | omega))
          have il : atI (l.map V.int) (u : Int) = some (.int (g l u)) := at_map hu
          have bv := bl v (List.mem_of_getElem? ex)
          have bz := bp z (List.mem_of_getElem? ey)
          refine ⟨T, _, rfl, SqT.of upd_same, rfl, _, _, rfl, _, _, rfl, rfl, ?_⟩
          refine ⟨_, _, s2.seq hb, ip, cmul_of bv (bp.g u) (by (first | lia | omega)), ?_⟩
          refine ⟨_, _, s2.seq ha, il, cmul_of bz (bl.g u) (by (first | lia | omega)), hd, sT _ _ e, ?_⟩
          refine ⟨s2.updn hD, upd_same, ?_⟩
          rw [clr_take ex ey]
          simp
    · rintro ys H' ⟨sm, e, rfl⟩
      have em : min (l.map V.int).length (p.map V.int).length = (clr l p u d).length := by rw [List.length_map, List.length_map, lc]; (first | lia | omega)
      rw [em, List.take_length] at e
      exact k Da H' hD e sm
theorem ne_bd : ¬ (("bound" : Str) = "divisor") := by decide +kernel
theorem ne_rd : ¬ (("rest" : Str) = "divisor") := by decide +kernel
theorem ne_rb : ¬ (("rest" : Str) = "bound") := by decide +kernel
def fldR (d b r : V) : List (Str × V) := putF "rest" r (putF "bound" b (putF "divisor" d []))
theorem fldR_d (d b r : V) : (fldR d b r).lookup ("divisor" : Str) = some d := by
  unfold fldR; rw [lookup_putF, if_neg (fun e => ne_rd e.symm), lookup_putF, if_neg (fun e => ne_bd e.symm), lookup_putF, if_pos rfl]
theorem fldR_b (d b r : V) : (fldR d b r).lookup ("bound" : Str) = some b := by
  unfold fldR; rw [lookup_putF, if_neg (fun e => ne_rb e.symm), lookup_putF, if_pos rfl]
theorem fldR_r (d b r : V) : (fldR d b r).lookup ("rest" : Str) = some r := by
  unfold fldR; rw [lookup_putF, if_pos rfl]
structure TxtR (K : PySem.W.Frag) (mg : Str → Option Value) (C : Addr) : Prop where
  cl : Cls K C
  nD : NoAttr K C "divisor"
  nB : NoAttr K C "bound"
  nR : NoAttr K C "rest"
  mgC : mg "Reduction" = some (.ref C)
def spRInit (C : Addr) : Sp := fun vs H Q _ => ∃ (p dx : Addr) (d b r : V), vs = [.ref p, d, b, r] ∧ H p = some (.ins C dx []) ∧ Q .non (upd H p (.ins C dx (fldR d b r)))
theorem scRInit : FnScope ["self", "divisor", "bound", "rest"] ["self", "divisor", "bound", "rest"] (defScope sRInit) := ⟨rfl, rfl, rfl, by decide +kernel, rfl, by decide +kernel, by decide +kernel⟩
theorem ok_rinit {f C : Addr} {fd : FuncData} (F : Fun K "__init__" "Reduction.__init__" sRInit f fd) (T : TxtR K mg C) : FnOk P w K mg base CX0 1 f fd ["self", "divisor", "bound", "rest"] (spRInit C) := by
  refine F.ok scRInit (fun vs H Q E h => ?_) (fun cdv A outer s H vs Q E hr h => ?_)
  · obtain ⟨p, dx, d, b, r, rfl, _⟩ := h
    rfl
  · obtain ⟨p, dx, d, b, r, rfl, hp, k⟩ := h
    refine ⟨_, pss_cons (ps_fld (pv 0) (pv 1) rfl) (pss_cons (ps_fld (pv 0) (pv 2) rfl) (pss_one (ps_fld (pv 0) (pv 3) rfl))), ?_⟩
    refine ⟨p, C, dx, [], rfl, hp, T.cl, T.nD, (by show 0 < 1000; decide), ?_⟩
    refine ⟨p, C, dx, _, rfl, upd_same, T.cl, T.nB, (by show 1 < 1000; decide), ?_⟩
    refine ⟨p, C, dx, _, rfl, upd_same, T.cl, T.nR, ?_, ?_⟩
    · refine Nat.lt_of_le_of_lt (length_putF ..) ?_
      show 1 + 1 < 1000
      decide
    · rw [upd_upd, upd_upd]
      exact k
def BdAt (H : Hp) (kvs : List (Key × V)) (bd : List (Nat × List Int)) : Prop := Paired (fun (kv : Key × V) (x : Nat × List Int) => kv.1 = Sum.inl (x.1 : Int) ∧ ∃ p, kv.2 = .ref p ∧ H p = some (.lst (x.2.map V.int))) kvs bd
theorem BdAt.same {H H' : Hp} {kvs : List (Key × V)} {bd : List (Nat × List Int)} (h : BdAt H kvs bd) (s : Same H H') : BdAt H' kvs bd :=
  Paired.mapP h fun _ _ ⟨a, p, b, c⟩ => ⟨a, p, b, s _ _ c⟩
theorem BdAt.upd {H : Hp} {kvs : List (Key × V)} {bd : List (Nat × List Int)} {a : Addr} {o : HO} (h : BdAt H kvs bd) (ha : ∀ xs, H a ≠ some (.lst xs)) : BdAt (upd H a o) kvs bd :=
  Paired.mapP h fun _ _ ⟨x, p, b, c⟩ => ⟨x, p, b, by rw [upd_ne (fun z => ha _ (by rw [← z]; exact c))]; exact c⟩
theorem BdAt.get {H : Hp} : ∀ {kvs : List (Key × V)} {bd : List (Nat × List Int)} {i : Nat} {x : Nat × List Int}, BdAt H kvs bd → bd[i]? = some x → ∃ p, kvs[i]? = some (Sum.inl (x.1 : Int), .ref p) ∧ H p = some (.lst (x.2.map V.int))
  | _, _, 0, _, .cons (a := kv) h _, e => by
    simp at e; subst e
    obtain ⟨h1, p, h2, h3⟩ := h
    exact ⟨p, by rw [← h1, ← h2]; rfl, h3⟩
  | _, _, i + 1, x, .cons _ t, e => by
    obtain ⟨p, h1, h2⟩ := BdAt.get (i := i) (x := x) t (by simpa using e)
    exact ⟨p, by simpa using h1, h2⟩
  | _, _, _, _, .nil, e => by simp at e
theorem BdAt.get' {H : Hp} {kvs : List (Key × V)} {bd : List (Nat × List Int)} {i : Nat} {kv : Key × V} (h : BdAt H kvs bd) (e : kvs[i]? = some kv) : ∃ x p, bd[i]? = some x ∧ kv = (Sum.inl (x.1 : Int), .ref p) ∧ H p = some (.lst (x.2.map V.int)) := by
  have hl := Paired.length h
  have hi : i < kvs.length := (List.getElem?_eq_some_iff.mp e).1
  have hb : bd[i]? = some (bd[i]'(by (first | lia | omega))) := List.getElem?_eq_getElem (by (first | lia | omega))
  obtain ⟨p, h1, h2⟩ := BdAt.get h hb
  rw [e] at h1
  exact ⟨_, p, hb, Option.some.inj h1, h2⟩
theorem BdAt.set {H : Hp} : ∀ {kvs : List (Key × V)} {bd : List (Nat × List Int)} {i u : Nat} {p : Addr} {l : List Int}, BdAt H kvs bd → H p = some (.lst (l.map V.int)) → BdAt H (kvs.set i (Sum.inl (u : Int), .ref p)) (bd.set i (u, l))
  | _, _, _, _, _, _, .nil, _ => .nil
  | _, _, 0, u, p, l, .cons _ t, hp => .cons ⟨rfl, p, rfl, hp⟩ t
  | _, _, i + 1, u, p, l, .cons h t, hp => .cons h (BdAt.set t hp)
theorem BdAt.snoc {H : Hp} {u : Nat} {p : Addr} {l : List Int} (hp : H p = some (.lst (l.map V.int))) : ∀ {kvs : List (Key × V)} {bd : List (Nat × List Int)}, BdAt H kvs bd → BdAt H (kvs ++ [(Sum.inl (u : Int), .ref p)]) (bd ++ [(u, l)])
  | _, _, .nil => .cons ⟨rfl, p, rfl, hp⟩ .nil
  | _, _, .cons a t => .cons a (BdAt.snoc hp t)
theorem BdAt.keys {H : Hp} : ∀ {kvs : List (Key × V)} {bd : List (Nat × List Int)}, BdAt H kvs bd → kvs.map (·.1) = bd.map fun x => (Sum.inl (x.1 : Int) : Key)
  | _, _, .nil => rfl
  | _, _, .cons h t => by rw [List.map_cons, List.map_cons, h.1, BdAt.keys t]
theorem BdAt.val {H : Hp} : ∀ {kvs : List (Key × V)} {bd : List (Nat × List Int)} {v : Nat}, BdAt H kvs bd → (valV kvs (Sum.inl (v : Int) : Key)).isSome = (lkB bd v).isSome
  | _, _, _, .nil => rfl
  | _, _, v, .cons (a := kv) (b := x) h t => by
    have ih := BdAt.val (v := v) t
    rw [lkB_cons]
    by_cases e : x.1 = v
    · rw [if_pos e, valV_pos (by rw [h.1, e])]; rfl
    · rw [if_neg e, valV_neg (by rw [h.1]; intro z; have := Sum.inl.inj z; (first | lia | omega))]; exact ih
theorem valV_at {kvs : List (Key × V)} {i : Nat} {k : Key} {v : V} (hn : (kvs.map (·.1)).Nodup) (e : kvs[i]? = some (k, v)) : valV kvs k = some v := by
  induction kvs generalizing i with
  | nil => simp at e
  | cons p r ih =>
    rw [List.map_cons, List.nodup_cons] at hn
    cases i with
    | zero => simp at e; subst e; exact valV_pos rfl
    | succ i =>
      have e' : r[i]? = some (k, v) := by simpa using e
      have : p.1 ≠ k := fun z => hn.1 (List.mem_map.mpr ⟨(k, v), List.mem_of_getElem? e', z.symm⟩)
      rw [valV_neg this]
      exact ih hn.2 e'
theorem map_put_set {kvs : List (Key × V)} {i : Nat} {k : Key} {v0 v : V} (hn : (kvs.map (·.1)).Nodup) (e : kvs[i]? = some (k, v0)) : (kvs.map fun kv => if kv.1 = k then (kv.1, v) else kv) = kvs.set i (k, v) := by
  induction kvs generalizing i with
  | nil => simp at e
  | cons p r ih =>
    rw [List.map_cons, List.nodup_cons] at hn
    cases i with
    | zero =>
      simp at e; subst e
      rw [List.map_cons, if_pos rfl, List.set_cons_zero]
      congr 1
      have : ∀ q ∈ r, (if q.1 = k then (q.1, v) else q) = q := fun q hq => if_neg fun z => hn.1 (List.mem_map.mpr ⟨q, hq, z⟩)
      rw [List.map_congr_left this, List.map_id']
    | succ i =>
      have e' : r[i]? = some (k, v0) := by simpa using e
      have : p.1 ≠ k := fun z => hn.1 (List.mem_map.mpr ⟨(k, v0), List.mem_of_getElem? e', z.symm⟩)
      rw [List.map_cons, if_neg this, List.set_cons_succ, ih hn.2 e']
theorem putK_at {kvs : List (Key × V)} {i : Nat} {k : Key} {v0 : V} (v : V) (hn : (kvs.map (·.1)).Nodup) (e : kvs[i]? = some (k, v0)) : putK kvs k v = kvs.set i (k, v) := by
  unfold putK
  rw [valV_any, valV_at hn e, if_pos (show (some v0).isSome = true from rfl)]
  exact map_put_set hn e
def RedAt (C : Addr) (H : Hp) (x : Addr) (d : Int) (bd : List (Nat × List Int)) (rest : List (List Int)) : Prop :=
  ∃ (dx db : Addr) (ob : Obj) (kvs : List (Key × V)) (lr : Addr) (cs : List Addr), H x = some (.ins C dx (fldR (.int d) (.ref db) (.ref lr))) ∧ H db = some (.frz ob (.dK kvs)) ∧ BdAt H kvs bd ∧ H lr = some (.lst (cs.map V.ref)) ∧ RowsL H cs rest
theorem RedAt.same {C : Addr} {H H' : Hp} {x : Addr} {d : Int} {bd : List (Nat × List Int)} {rest : List (List Int)} (h : RedAt C H x d bd rest) (s : Same H H') : RedAt C H' x d bd rest := by
  obtain ⟨dx, db, ob, kvs, lr, cs, h1, h2, h3, h4, h5⟩ := h
  exact ⟨dx, db, ob, kvs, lr, cs, s _ _ h1, s _ _ h2, h3.same s, s _ _ h4, h5.same s⟩
def bz : Nat → Nat → Nat
  | 0, m => m
  | t + 1, m => 2 * bz t m + 1
theorem bz_mono {m t n : Nat} (h : t ≤ n) : bz t m ≤ bz n m := by
  induction n with
  | zero => rw [Nat.le_zero.mp h]; exact Nat.le_refl _
  | succ n ih =>
    by_cases e : t = n + 1
    · rw [e]; exact Nat.le_refl _
    · refine Nat.le_trans (ih (by (first | lia | omega))) ?_
      show bz n m ≤ 2 * bz n m + 1
      (first | lia | omega)
structure Sizes (S : Nat) (d : Int) (bd : List (Nat × List Int)) (rest : List (List Int)) : Prop where
  rest : ∀ l ∈ rest, Bdd S l
  bd : ∀ x ∈ bd, Bdd S x.2
  dv : d.natAbs < 2 ^ S
theorem Sizes.mono {S T : Nat} {d : Int} {bd : List (Nat × List Int)} {rest : List (List Int)} (h : Sizes S d bd rest) (hT : S ≤ T) : Sizes T d bd rest :=
  ⟨fun l hl => (h.rest l hl).mono hT, fun x hx => (h.bd x hx).mono hT, pow_mono h.dv hT⟩
theorem Sizes.init {m : Nat} {rows : List (List Int)} (h : ∀ r ∈ rows, Bdd m r) (hm : 1 ≤ m) : Sizes m 1 [] (linesOf rows) := by
  have o : (1 : Int).natAbs < 2 ^ m := Nat.one_lt_two_pow (by (first | lia | omega))
  refine ⟨fun l hl x hx => ?_, fun x q => (nomatch q), o⟩
  obtain ⟨i, hi, rfl⟩ := List.mem_map.mp hl
  have hi' : i < rows.length := by simpa using hi
  rcases List.mem_append.mp hx with q | q
  · refine h (rows.getD i []) ?_ x q
    rw [List.getD_eq_getElem?_getD, List.getElem?_eq_getElem hi']
    exact List.getElem_mem hi'
  · unfold oneA at q
    simp at q
    rcases q with ⟨_, rfl⟩ | rfl | ⟨_, rfl⟩
    · exact Nat.two_pow_pos m
    · exact o
    · exact Nat.two_pow_pos m
theorem Sizes.step {S t : Nat} {d : Int} {bd : List (Nat × List Int)} {rest rest' : List (List Int)} {p : List Int} (h : Sizes S d bd rest) (hp : p ∈ rest) (hs : ∀ l ∈ rest', l ∈ rest) :
    Sizes (2 * S + 1) (g p t) ((bd.map fun x => (x.1, clr x.2 p t d)) ++ [(t, p)]) (rest'.map (clr · p t d)) := by
  have bp := h.rest p hp
  refine ⟨fun l hl => ?_, fun x hx => ?_, pow_mono (bp.g t) (by (first | lia | omega))⟩
  · obtain ⟨l0, hl0, rfl⟩ := List.mem_map.mp hl
    exact (h.rest l0 (hs l0 hl0)).clr bp t d
  · rcases List.mem_append.mp hx with hx | hx
    · obtain ⟨x0, hx0, rfl⟩ := List.mem_map.mp hx
      exact (h.bd x0 hx0).clr bp t d
    · have e : x = (t, p) := by simpa using hx
      subst e; exact bp.mono (by (first | lia | omega))
def SameX (d : Addr) (H H' : Hp) : Prop := ∀ b o, b ≠ d → H b = some o → H' b = some o
theorem _root_.L2.Same.x {H H' : Hp} (s : Same H H') (d : Addr) : SameX d H H' := fun b o _ e => s b o e
theorem SameX.trans {d : Addr} {H H1 H2 : Hp} (a : SameX d H H1) (b : SameX d H1 H2) : SameX d H H2 := fun c o h e => b c o h (a c o h e)
theorem SameX.upd {d : Addr} {H H' : Hp} {o : HO} (a : SameX d H H') : SameX d H (upd H' d o) := fun c o h e => by rw [upd_ne h]; exact a c o h e
theorem SameX.same {d : Addr} {H0 H H' : Hp} (a : SameX d H H') (s : Same H0 H) (hn : H0 d = none) : Same H0 H' := fun b o e => a b o (ne_of_none e hn) (s b o e)
theorem RowsL.sameX {d : Addr} {H H' : Hp} {kvs : List (Key × V)} {ps : List Addr} {rs : List (List Int)} (h : RowsL H ps rs) (a : SameX d H H') (hd : H d = some (.dK kvs)) : RowsL H' ps rs :=
  Paired.mapP h fun p r z => a p _ (ne_of z hd (by simp)) z
theorem BdAt.sameX {d : Addr} {H H' : Hp} {kvs0 kvs : List (Key × V)} {bd : List (Nat × List Int)} (h : BdAt H kvs bd) (a : SameX d H H') (hd : H d = some (.dK kvs0)) : BdAt H' kvs bd :=
  Paired.mapP h fun _ _ ⟨x, p, b, c⟩ => ⟨x, p, b, a p _ (ne_of c hd (by simp)) c⟩
theorem RowsL.app {H : Hp} {ps qs : List Addr} {rs ss : List (List Int)} (h : RowsL H ps rs) (h' : RowsL H qs ss) : RowsL H (ps ++ qs) (rs ++ ss) := by
  induction h with
  | nil => exact h'
  | cons r t ih => exact .cons r ih
theorem RowsL.take {H : Hp} : ∀ {ps : List Addr} {rs : List (List Int)} (i : Nat), RowsL H ps rs → RowsL H (ps.take i) (rs.take i)
  | _, _, 0, _ => by rw [List.take_zero, List.take_zero]; exact .nil
  | _, _, _ + 1, .nil => .nil
  | _, _, i + 1, .cons r t => .cons r (RowsL.take i t)
theorem RowsL.drop {H : Hp} : ∀ {ps : List Addr} {rs : List (List Int)} (i : Nat), RowsL H ps rs → RowsL H (ps.drop i) (rs.drop i)
  | _, _, 0, h => by rw [List.drop_zero, List.drop_zero]; exact h
  | _, _, _ + 1, .nil => .nil
  | _, _, i + 1, .cons _ t => RowsL.drop i t
theorem RowsL.cut {H : Hp} {ps : List Addr} {rs : List (List Int)} (h : RowsL H ps rs) (i : Nat) : RowsL H (ps.take i ++ ps.drop (i + 1)) (rs.take i ++ rs.drop (i + 1)) := (h.take i).app (h.drop (i + 1))
theorem cut_take (xs : List V) (i : Nat) (h : i ≤ xs.length) : cutV xs none (some (i : Int)) = xs.take i := by
  unfold cutV
  rw [HT.sIx_none, HT.sIx_nat, List.drop_zero, Nat.sub_zero, Nat.min_eq_left h]
theorem cut_drop (xs : List V) (i : Nat) : cutV xs (some (i : Int)) none = xs.drop i := by
  unfold cutV
  rw [HT.sIx_none, HT.sIx_nat]
  by_cases h : i ≤ xs.length
  · rw [Nat.min_eq_left h, List.take_of_length_le (by simp)]
  · rw [Nat.min_eq_right (by (first | lia | omega)), List.drop_of_length_le (Nat.le_refl _), List.drop_of_length_le (by (first | lia | omega)), List.take_nil]
theorem mix_set {α : Type} (up : α → α) : ∀ (l : List α) (i : Nat) (x : α), l[i]? = some x → ((l.take i).map up ++ l.drop i).set i (up x) = (l.take (i + 1)).map up ++ l.drop (i + 1)
  | [], _, _, e => by simp at e
  | a :: l, 0, x, e => by simp at e; subst e; simp
  | a :: l, i + 1, x, e => by
    have ih := mix_set up l i x (by simpa using e)
    simp only [List.take_succ_cons, List.map_cons, List.drop_succ_cons, List.cons_append, List.set_cons_succ]
    rw [ih]
theorem mix_at {α : Type} (up : α → α) {l : List α} {i : Nat} {x : α} (e : l[i]? = some x) : ((l.take i).map up ++ l.drop i)[i]? = some x := by
  have hi : i < l.length := (List.getElem?_eq_some_iff.mp e).1
  have lt : ((l.take i).map up).length = i := by rw [List.length_map, List.length_take]; (first | lia | omega)
  rw [List.getElem?_append_right (by (first | lia | omega)), lt, Nat.sub_self, List.getElem?_drop, Nat.add_zero]; exact e
theorem mix_keys {bd : List (Nat × List Int)} {up : Nat × List Int → Nat × List Int} (hu : ∀ x, (up x).1 = x.1) (i : Nat) : ((bd.take i).map up ++ bd.drop i).map (·.1) = bd.map (·.1) := by
  rw [List.map_append, List.map_map]
  have e : ((fun x : Nat × List Int => x.1) ∘ up) = fun x => x.1 := funext hu
  rw [e, ← List.map_append, List.take_append_drop]
theorem nodup_keys {H : Hp} {kvs : List (Key × V)} {bd : List (Nat × List Int)} (h : BdAt H kvs bd) (hp : (bd.map (·.1)).Pairwise (· < ·)) : (kvs.map (·.1)).Nodup := by
  rw [h.keys]
  have : (bd.map fun x => (Sum.inl (x.1 : Int) : Key)) = (bd.map (·.1)).map fun v : Nat => (Sum.inl (v : Int) : Key) := by rw [List.map_map]; rfl
  rw [this]
  refine List.Pairwise.map _ (fun a b hab z => ?_) hp
  have := Sum.inl.inj z
  (first | lia | omega)
def RedI (H0 : Hp) (a db : Addr) (n m : Nat) (rs : List (List Int)) (t : Nat) (σ : St) (H' : Hp) : Prop :=
  ∃ (d : Int) (bd : List (Nat × List Int)) (rest : List (List Int)) (kvs : List (Key × V)) (lr : Addr) (cs : List Addr) (x5 x6 x7 x8 : Option V), σ = [some (.int n), some (.ref a), some (.int d), some (.ref db), some (.ref lr), x5, x6, x7, x8] ∧
    Same H0 H' ∧ H' db = some (.dK kvs) ∧ BdAt H' kvs bd ∧ H' lr = some (.lst (cs.map V.ref)) ∧ RowsL H' cs rest ∧ RInv n rs t d bd rest ∧ Sizes (bz t m) d bd rest ∧ rest.length ≤ rs.length ∧ bd.length ≤ t
def spRed (K : PySem.W.Frag) (C R : Addr) : Sp := fun vs H Q E => ∃ (n : Nat) (a : Addr) (ps : List Addr) (rs : List (List Int)) (m : Nat), vs = [.int n, .ref a] ∧ SqL K H a (ps.map V.ref) ∧ RowsL H ps rs ∧ rs.length ≤ 400 ∧ n ≤ 400 ∧ (∀ r ∈ rs, Bdd m r) ∧ (∀ r ∈ rs, r.length ≤ 500) ∧ 1 ≤ m ∧ bz n m ≤ 20000000 ∧
  ((∃ r ∈ rs, r.length ≠ n + 1) → ∀ H', Same H H' → E (.ref C) none H') ∧
  ((∀ r ∈ rs, r.length = n + 1) → ∀ (x : Addr) (d : Int) (bd : List (Nat × List Int)) (rest : List (List Int)) (H' : Hp), H x = none → RedAt R H' x d bd rest → Fin n rs d bd rest → Sizes (bz n m) d bd rest → rest.length ≤ rs.length → bd.length ≤ n → Same H H' → Q (.ref x) H')
theorem scRed : FnScope ["count", "rows", "divisor", "bound", "rest", "unknown", "place", "pivot", "earlier"] ["count", "rows"] (defScope sRed) := ⟨rfl, rfl, rfl, by decide +kernel, rfl, by decide +kernel, by decide +kernel⟩
theorem ok_red {f fk fl fo ff fr fi C R : Addr} {fd fdk fdl fdo fdf fdr fdi : FuncData} (D : Def K mg "reduced" sRed ["count", "rows"] f fd) (B : Blt mg) (hP : P.given.tree = none) (be : mg "enumerate" = none) (EC : ExcC K mg "BadRow" C) (T : TxtR K mg R) (M : Mk K R fi) (FI : Fun K "__init__" "Reduction.__init__" sRInit fi fdi) (bI : Binds K fdi ["self", "divisor", "bound", "rest"] [])
    (Dk : Def K mg "check_rows" sCheck ["count", "rows"] fk fdk) (Dl : Def K mg "lines_of" sLines ["rows"] fl fdl) (Do : Def K mg "one_among_noughts" sOne ["place", "length"] fo fdo) (Df : Def K mg "first_place_with" sFirst ["lines", "unknown"] ff fdf)
    (Dr : Def K mg "cleared" sClr ["line", "pivot", "unknown", "divisor"] fr fdr) : FnOk P w K mg base (CXF P w) 3 f fd ["count", "rows"] (spRed K C R) := by
  have GC : FnOk P w K mg base (CXF P w) 2 fk fdk ["count", "rows"] (spCheck K C) := (ok_check Dk B be EC).mono (by decide)
  have GL : FnOk P w K mg base CX0 2 fl fdl ["rows"] (spLines K) := ok_lines Dl B be Do
  have GF : FnOk P w K mg base CX0 2 ff fdf ["lines", "unknown"] (spFirst K) := (ok_first Df be).mono (by decide)
  have GR : FnOk P w K mg base CX0 2 fr fdr ["line", "pivot", "unknown", "divisor"] (spClr K) := (ok_clr Dr B hP).mono (by decide)
  have GI : FnOk P w K mg base CX0 1 fi fdi ["self", "divisor", "bound", "rest"] (spRInit R) := ok_rinit FI T
  refine D.fn.okF scRed (fun vs H Q E h => ?_) (fun cdv A outer s H vs Q E hr h => ?_)
  · obtain ⟨n, a, ps, rs, m, rfl, _⟩ := h
    rfl
  · obtain ⟨n, a, ps, rs, m, rfl, ha, hR, hl, hn, hbd, hrl, hm, hB, kE, kQ⟩ := h
    have hu := hu_of hr
    refine ⟨_, pss_cons (ps_expr (pe_call GC hr (by rfl) Dk.mg Dk.fn.kp Dk.bd .nil passes_cxOf (pa_cons (pv 0) (pa_cons (pv 1) pa_nil))))
      (pss_cons (ps_set (i := 2) scRed.nd rfl (Or.inr rfl) pe_int)
      (pss_cons (ps_set (i := 3) scRed.nd rfl (Or.inl rfl) pe_dnewK)
      (pss_cons (ps_set (i := 4) scRed.nd rfl (Or.inl rfl) (pe_call GL hr (by rfl) Dl.mg Dl.fn.kp Dl.bd .nil pass0 (pa_cons (pv 1) pa_nil)))
      (pss_cons (ps_for PassesOwn.leaving rfl (pi_range1 (by rfl) B.range (pa_cons (pv 0) pa_nil)) (pg_name (i := 5) scRed.nd rfl (Or.inr rfl))
        (pss_cons (ps_set (i := 6) scRed.nd rfl (Or.inl rfl) (pe_call GF hr (by rfl) Df.mg Df.fn.kp Df.bd .nil pass0 (pa_cons (pv 4) (pa_cons (pv 5) pa_nil))))
        (pss_one (ps_if (pt_cmpR op_notN (pv 6) pe_non (nomark _))
          (pss_cons (ps_set (i := 7) scRed.nd rfl (Or.inr rfl) (pe_ix ix_list (pv 4) (pv 6) plainN))
          (pss_cons (ps_for PassesOwn.leaving rfl (pi_list (pe_callTy (call_list_dict rfl) (by rfl) B.list bt_list (pa_cons (pv 3) pa_nil))) (pg_name (i := 8) scRed.nd rfl (Or.inl rfl))
            (pss_one (ps_dput hu (pv 3) (pv 8) (pe_call GR hr (by rfl) Dr.mg Dr.fn.kp Dr.bd .nil pass0 (pa_cons (pe_dget hu (pv 3) (pv 8) (fun _ _ => rfl)) (pa_cons (pv 7) (pa_cons (pv 5) (pa_cons (pv 2) pa_nil))))) rfl)))
          (pss_cons (ps_dput hu (pv 3) (pv 5) (pv 7) rfl)
          (pss_cons (ps_comp (i := 4) ["line"] [("pivot", 7), ("unknown", 5), ("divisor", 2)] scRed.nd rfl (Or.inl rfl) (by rfl) rfl (compSc_mk (by rfl) (by rfl) (by rfl))
             (pi_list (pe_op op_cat (pe_slice sl_list (pv 4) po_none (po_some (pv 6))) (pe_slice sl_list (pv 4) (po_some (pe_op op_add (pv 6) pe_int)) po_none))) (gk_name (i := 0) (by decide))
             (fun cl C s H fp pins => pg_name (i := 0) (by show (["line", "pivot", "unknown", "divisor"] : List Str).Nodup; decide +kernel) rfl (Or.inl rfl) (Or.inr rfl))
             (fun cl C s H fp pins => pe_call GR hr (by rfl) Dr.mg Dr.fn.kp Dr.bd .nil pass0 (pa_cons (pv 0) (pa_cons (pv 1) (pa_cons (pv 2) (pa_cons (pv 3) pa_nil))))))
          (pss_one (ps_set (i := 2) scRed.nd rfl (Or.inr rfl) (pe_ix ix_list (pv 7) (pv 5) plainN)))))))
          pss_nil))))
      (pss_one (ps_ret (pe_frz (pe_make M GI hr (by rfl) T.mgC bI .nil pass0 (pa_cons (pv 2) (pa_cons (pv 3) (pa_cons (pv 4) pa_nil))))))))))), ?_⟩
    ((try dsimp only [cxOf_K, gName, tNext, gTup, gCons, gNil]); refine seqB fun _ _ hs hs' => ?_)
    refine ⟨n, a, ps, rs, rfl, ha, hR.at, (by (first | lia | omega)), kE, fun hall H1 s1 => ?_⟩
    ((try dsimp only [gName, tNext, gTup, gCons, gNil]); subst hs hs')
    refine fun db hdb => ?_
    have s2 : Same H1 (upd H1 db (.dK [])) := Same.upd hdb
    ((try dsimp only [cxOf_K, gName, tNext, gTup, gCons, gNil]); refine seqB fun _ _ hs hs' => ?_)
    refine ⟨a, ps, rs, rfl, (s1.trans s2).seq ha, hR.same (s1.trans s2), (by (first | lia | omega)), hrl, fun lr cs H2 nlr elr hcs s3 => ?_⟩
    ((try dsimp only [gName, tNext, gTup, gCons, gNil]); subst hs hs'; refine seqB fun _ _ hs hs' => ?_)
    refine ⟨_, rfl, (by (first | lia | omega)), (by (first | lia | omega)), ?_⟩
    have en : ((n : Int)).toNat = n := by (first | lia | omega)
    rw [en]
    refine for_range (RedI H1 a db n m rs) ⟨1, [], linesOf rs, [], lr, cs, none, none, none, none, rfl, s2.trans s3, s3 _ _ upd_same, .nil, elr, hcs, RInv.init hall, Sizes.init hbd hm, (by unfold linesOf; simp), Nat.le_refl _⟩ ?_ ?_
    · rintro t σ H' ht ⟨d, bd, rest, kvs, lr', cs', x5, x6, x7, x8, rfl, sm, edb, hBd, elr', hcs', I, Z, lrr, lbb⟩
      have et : (0 : Int) + (t : Int) = (t : Int) := Int.zero_add _
      show gName 5 (.int (0 + (t : Int))) _ _ _
      rw [et]
      have bt : bz t m ≤ bz n m := bz_mono (by (first | lia | omega))
      ((try dsimp only [cxOf_K, gName, tNext, gTup, gCons, gNil]); refine seqB fun _ _ h2 h2' => ?_)
      refine ⟨lr', cs', rest, t, rfl, SqL.of elr', hcs', (fun l hl' => by rw [I.lenR l hl']; (first | lia | omega)), fun i l H3 el hz s4 => ?_, fun hz H3 s4 => ?_⟩
      · ((try dsimp only [gName, tNext, gTup, gCons, gNil]); subst h2 h2')
        refine ⟨rfl, _, rfl, iteT' rfl ?_⟩
        ((try dsimp only [cxOf_K, gName, tNext, gTup, gCons, gNil]); refine seqB fun _ _ h3 h3' => ?_)
        obtain ⟨p, ep, hp⟩ : ∃ p, cs'[i]? = some p ∧ H' p = some (.lst (l.map V.int)) := by
          have hi : i < rest.length := (List.getElem?_eq_some_iff.mp el).1
          have hc : cs'[i]? = some (cs'[i]'(by have := Paired.length hcs'; (first | lia | omega))) := List.getElem?_eq_getElem _
          obtain ⟨r, er, hr'⟩ := hcs'.get hc
          rw [el] at er; cases er
          exact ⟨_, hc, hr'⟩
        have hlm : l ∈ rest := List.mem_of_getElem? el
        have ll := I.lenR l hlm
        have bl := Z.rest l hlm
        refine ⟨_, _, SqL.of (s4 _ _ elr'), at_mapR ep, ?_⟩
        ((try dsimp only [gName, tNext, gTup, gCons, gNil]); subst h3 h3'; refine seqB fun _ _ h3 h3' => ?_)
        refine ⟨db, kvs, rfl, .inl (s4 _ _ edb), fun q nq => ?_⟩
        have s5 := s4.trans (Same.upd (o := .lst (kvs.map fun kv => kV kv.1)) nq)
        have elq : (upd H3 q (.lst (kvs.map fun kv => kV kv.1))) q = some (.lst (kvs.map fun kv => kV kv.1)) := upd_same
        generalize hH4 : upd H3 q (.lst (kvs.map fun kv => kV kv.1)) = H4 at s5 elq
        have nqd : q ≠ db := fun z => by rw [z, s4 _ _ edb] at nq; cases nq
        refine ⟨q, rfl, ⟨_, SqL.of elq⟩, ?_⟩
        refine for_list (xs := kvs.map fun kv => kV kv.1) (fun j σ H5 => ∃ (kvs' : List (Key × V)) (x8 : Option V), σ = [some (.int n), some (.ref a), some (.int d), some (.ref db), some (.ref lr'), some (.int t), some (.int i), some (.ref p), x8] ∧ SameX db H4 H5 ∧ H5 db = some (.dK kvs') ∧ BdAt H5 kvs' ((bd.take j).map (fun x => (x.1, clr x.2 l t d)) ++ bd.drop j))
          ⟨kvs, x8, rfl, fun _ _ _ e => e, s5 _ _ edb, by simpa using hBd.same s5⟩ (fun j σ H5 _ ⟨_, _, _, sx, _, _⟩ => SqL.of (sx _ _ nqd elq)) ?_ ?_
        · rintro j x σ H5 hx ⟨kvs', x8', rfl, sx, ed5, hB5⟩
          rw [List.getElem?_map] at hx
          cases ek : kvs[j]? with
          | none => rw [ek] at hx; cases hx
          | some kv =>
            rw [ek] at hx
            obtain ⟨xb, pb, eb, rfl, _⟩ := hBd.get' ek
            have hx' : x = V.int (xb.1 : Int) := (Option.some.inj hx).symm
            subst hx'
            have hxm : xb ∈ bd := List.mem_of_getElem? eb
            have lb := I.lenB xb hxm
            have bb := Z.bd xb hxm
            obtain ⟨pb', ek', hpb⟩ := hB5.get (mix_at (fun x : Nat × List Int => (x.1, clr x.2 l t d)) eb)
            have kn : (kvs'.map (·.1)).Nodup := nodup_keys hB5 (by rw [mix_keys (up := fun x : Nat × List Int => (x.1, clr x.2 l t d)) (fun _ => rfl)]; exact I.keys)
            have dg : DGet H5 db (.int (xb.1 : Int)) (some (.ref pb')) := by
              have := DGet.k (k := Sum.inl (xb.1 : Int)) ed5
              rw [valV_at kn ek'] at this
              exact this
            have lk : kvs'.length = bd.length := by
              have := Paired.length hB5
              rw [List.length_append, List.length_map, ← List.length_append, List.take_append_drop] at this
              exact this
            refine ⟨db, _, rfl, dg, ?_⟩
            refine ⟨pb', p, xb.2, l, t, bz t m, d, rfl, SqL.of hpb, SqL.of (sx _ _ (ne_of hp edb (by simp)) (s5 _ _ hp)), (by (first | lia | omega)), (by (first | lia | omega)), (by (first | lia | omega)), I.dne, bb, bl, (by (first | lia | omega)), fun c H6 nc ec s6 => ?_⟩
            refine ⟨db, _, rfl, DPut.k (k := Sum.inl (xb.1 : Int)) (s6 _ _ ed5) (small1000 (by (first | lia | omega))), ?_⟩
            have cd : c ≠ db := fun z => by rw [z, ed5] at nc; cases nc
            rw [putK_at _ kn ek']
            refine ⟨_, _, rfl, (sx.trans (s6.x db)).upd, upd_same, ?_⟩
            have b1 : BdAt (upd H6 db (.dK (kvs'.set j (Sum.inl (xb.1 : Int), V.ref c)))) kvs' ((bd.take j).map (fun x => (x.1, clr x.2 l t d)) ++ bd.drop j) := (hB5.same s6).upd (fun xs z => by rw [s6 _ _ ed5] at z; cases z)
            have b2 := b1.set (i := j) (u := xb.1) (p := c) (l := clr xb.2 l t d) (by rw [upd_ne cd]; exact ec)
            rw [mix_set (fun x : Nat × List Int => (x.1, clr x.2 l t d)) bd j xb eb] at b2
            exact b2
        · rintro σ H5 ⟨kvs', x8', rfl, sx, ed5, hB5⟩
          have lkb : kvs.length = bd.length := Paired.length hBd
          rw [List.length_map, lkb, List.take_length, List.drop_length, List.append_nil] at hB5
          have lk : kvs'.length = bd.length := by
            have := Paired.length hB5
            rw [List.length_map] at this
            exact this
          have hp5 : H5 p = some (.lst (l.map V.int)) := sx _ _ (ne_of hp edb (by simp)) (s5 _ _ hp)
          ((try dsimp only [gName, tNext, gTup, gCons, gNil]); subst h3 h3'; refine seqB fun _ _ h3 h3' => ?_)
          refine ⟨db, _, rfl, DPut.k (k := Sum.inl (t : Int)) ed5 (small1000 (by (first | lia | omega))), ?_⟩
          have vn : valV kvs' (Sum.inl (t : Int) : Key) = none := by
            have := hB5.val (v := t)
            rw [lkB_none.mpr ?_] at this
            · cases q2 : valV kvs' (Sum.inl (t : Int) : Key) with
              | none => rfl
              | some _ => rw [q2] at this; cases this
            · intro y hy
              obtain ⟨x, hx, rfl⟩ := List.mem_map.mp hy
              have := I.below x hx
              show x.1 ≠ t
              (first | lia | omega)
          rw [putK_new _ vn]
          have hp6 : (upd H5 db (.dK (kvs' ++ [(Sum.inl (t : Int), V.ref p)]))) p = some (.lst (l.map V.int)) := by rw [upd_ne (ne_of hp5 ed5 (by simp))]; exact hp5
          have hB6 : BdAt (upd H5 db (.dK (kvs' ++ [(Sum.inl (t : Int), V.ref p)]))) (kvs' ++ [(Sum.inl (t : Int), V.ref p)]) ((bd.map fun x => (x.1, clr x.2 l t d)) ++ [(t, l)]) :=
            BdAt.snoc hp6 (hB5.upd (fun xs z => by rw [ed5] at z; cases z))
          have sx6 : SameX db H' (upd H5 db (.dK (kvs' ++ [(Sum.inl (t : Int), V.ref p)]))) := ((s5.x db).trans sx).upd
          have ed6 : (upd H5 db (.dK (kvs' ++ [(Sum.inl (t : Int), V.ref p)]))) db = some (.dK (kvs' ++ [(Sum.inl (t : Int), V.ref p)])) := upd_same
          generalize upd H5 db (.dK (kvs' ++ [(Sum.inl (t : Int), V.ref p)])) = H6 at hp6 hB6 sx6 ed6
          have elr6 : H6 lr' = some (.lst (cs'.map V.ref)) := sx6 _ _ (ne_of elr' edb (by simp)) elr'
          have hcs6 : RowsL H6 cs' rest := hcs'.sameX sx6 edb
          have sm6 : Same H1 H6 := sx6.same sm hdb
          have lc := Paired.length hcs'
          have hi : i < rest.length := (List.getElem?_eq_some_iff.mp el).1
          ((try dsimp only [gName, tNext, gTup, gCons, gNil]); subst h3 h3'; refine seqB fun _ _ h3 h3' => ?_)
          refine ⟨_, rfl, lr', _, rfl, SqL.of elr6, fun q1 n1 => ?_⟩
          have t1 : Same H6 (upd H6 q1 (.lst (cutV (cs'.map V.ref) none (some (i : Int))))) := Same.upd n1
          refine ⟨_, rfl, lr', _, rfl, SqL.of (t1 _ _ elr6), fun q2 n2 => ?_⟩
          have ei : (i : Int) + 1 = ((i + 1 : Nat) : Int) := by (first | lia | omega)
          rw [ei, cut_drop, cut_take _ _ (by simp; (first | lia | omega))] at *
          have t2 := t1.trans (Same.upd (o := .lst ((cs'.map V.ref).drop (i + 1))) n2)
          refine ⟨q1, q2, _, _, rfl, rfl, (Same.upd n2) _ _ upd_same, upd_same, ?_, fun q3 n3 => ?_⟩
          · rw [List.length_take, List.length_drop]; simp; exact Nat.le_of_lt (small1000 (by (first | lia | omega)))
          have t3 := t2.trans (Same.upd (o := .lst ((cs'.map V.ref).take i ++ (cs'.map V.ref).drop (i + 1))) n3)
          have eq3 : (upd (upd (upd H6 q1 (.lst ((cs'.map V.ref).take i))) q2 (.lst ((cs'.map V.ref).drop (i + 1)))) q3 (.lst ((cs'.map V.ref).take i ++ (cs'.map V.ref).drop (i + 1)))) q3 = some (.lst ((cs'.map V.ref).take i ++ (cs'.map V.ref).drop (i + 1))) := upd_same
          generalize upd (upd (upd H6 q1 (.lst ((cs'.map V.ref).take i))) q2 (.lst ((cs'.map V.ref).drop (i + 1)))) q3 (.lst ((cs'.map V.ref).take i ++ (cs'.map V.ref).drop (i + 1))) = H7 at t3 eq3
          have ecs : (cs'.map V.ref).take i ++ (cs'.map V.ref).drop (i + 1) = (cs'.take i ++ cs'.drop (i + 1)).map V.ref := by rw [List.map_append, List.map_take, List.map_drop]
          rw [ecs] at eq3
          have hcs7 : RowsL H7 (cs'.take i ++ cs'.drop (i + 1)) (rest.take i ++ rest.drop (i + 1)) := (hcs6.same t3).cut i
          refine ⟨q3, rfl, ⟨_, SqL.of eq3⟩, fun Da hD => ?_⟩
          have hs' : ∀ l' ∈ rest.take i ++ rest.drop (i + 1), l' ∈ rest := fun l' hl' => by
            rcases List.mem_append.mp hl' with z | z
            · exact List.mem_of_mem_take z
            · exact List.mem_of_mem_drop z
          refine comp_list (K := K) (xs := (cs'.take i ++ cs'.drop (i + 1)).map V.ref) (Q := fun x H1 => gName 4 x _ H1 _) (fun j ys H8 => Same H7 H8 ∧ H8 Da = some (.lst ys) ∧ ∃ ds : List Addr, ys = ds.map V.ref ∧ (∀ c ∈ ds, c ≠ Da) ∧ RowsL H8 ds (((rest.take i ++ rest.drop (i + 1)).take j).map (clr · l t d)))
            ⟨Same.upd hD, upd_same, [], rfl, (fun _ z => nomatch z), .nil⟩ ?_ ?_ ?_
          · rintro j ys H8 hj ⟨s8, e8, ds, rfl, hne, hT⟩
            have := Paired.length hT
            refine ⟨e8, ?_, SqL.of (s8 _ _ eq3)⟩
            rw [List.length_map, this, List.length_map, List.length_take, List.length_append, List.length_take, List.length_drop]
            exact small1000 (by (first | lia | omega))
          · rintro j x ys H8 hx ⟨s8, e8, ds, rfl, hne, hT⟩
            rw [List.getElem?_map] at hx
            cases ec : (cs'.take i ++ cs'.drop (i + 1))[j]? with
            | none => rw [ec] at hx; cases hx
            | some c =>
              rw [ec] at hx
              have hx' : x = V.ref c := (Option.some.inj hx).symm
              subst hx'
              obtain ⟨l', el', hc'⟩ := hcs7.get ec
              have hm' := hs' l' (List.mem_of_getElem? el')
              have ll' := I.lenR l' hm'
              refine ⟨c, p, l', l, t, bz t m, d, rfl, SqL.of (s8 _ _ hc'), SqL.of ((t3.trans s8) _ _ hp6), (by (first | lia | omega)), (by (first | lia | omega)), (by (first | lia | omega)), I.dne, Z.rest l' hm', bl, (by (first | lia | omega)), fun c2 H9 n2 e9 s9 => ?_⟩
              have eD := s9 _ _ e8
              have hne2 : c2 ≠ Da := fun z => by rw [z, e8] at n2; cases n2
              refine ⟨eD, (s8.trans s9).updn hD, upd_same, ds ++ [c2], by simp, ?_, ?_⟩
              · intro c' hc''
                rcases List.mem_append.mp hc'' with z | z
                · exact hne c' z
                · rw [List.mem_singleton.mp z]; exact hne2
              · rw [List.take_add_one, el', List.map_append]
                refine RowsL.snoc (by rw [upd_ne hne2]; exact e9) (RowsL.upd (hT.same s9) hne)
          · rintro ys H8 ⟨s8, e8, ds, rfl, hne, hT⟩
            have l7 : ((cs'.take i ++ cs'.drop (i + 1)).map V.ref).length = (rest.take i ++ rest.drop (i + 1)).length := by rw [List.length_map]; exact Paired.length hcs7
            rw [l7, List.take_length] at hT
            have sA := t3.trans s8
            ((try dsimp only [gName, tNext, gTup, gCons, gNil]); subst h3 h3')
            refine ⟨_, _, SqL.of (sA _ _ hp6), at_map (by (first | lia | omega)), ?_⟩
            refine ⟨g l t, _, _, _, Da, ds, _, _, _, _, rfl, sm6.trans sA, sA _ _ ed6, hB6.same sA, e8, hT, I.step ht el hz, Z.step hlm hs', ?_, ?_⟩
            · rw [List.length_map, List.length_append, List.length_take, List.length_drop]; (first | lia | omega)
            · rw [List.length_append, List.length_map]; show bd.length + 1 ≤ t + 1; (first | lia | omega)
      · ((try dsimp only [gName, tNext, gTup, gCons, gNil]); subst h2 h2')
        refine ⟨rfl, _, rfl, iteF' rfl ?_⟩
        exact ⟨d, bd, rest, kvs, lr', cs', _, _, _, _, rfl, sm.trans s4, s4 _ _ edb, hBd.same s4, s4 _ _ elr', hcs'.same s4, I.skip hz, Z.mono (bz_mono (Nat.le_succ t)), lrr, Nat.le_succ_of_le lbb⟩
    · rintro σ H' ⟨d, bd, rest, kvs, lr', cs', x5, x6, x7, x8, rfl, sm, edb, hBd, elr', hcs', I, Z, lrr, lbb⟩
      ((try dsimp only [gName, tNext, gTup, gCons, gNil]); subst hs hs')
      refine (fun x dx nv ndx hne => ?_)
      have s7 : Same H' (upd H' dx (.own x)) := Same.upd ndx
      have nv' : upd H' dx (.own x) x = none := by rw [upd_ne (Ne.symm hne)]; exact nv
      have s8 := s7.trans (Same.upd (o := .ins R dx []) nv')
      refine ⟨x, dx, _, _, _, rfl, upd_same, rfl, db, kvs, ?_, fun ob => ?_⟩
      · rw [upd_ne (ne_of_none edb nv), upd_ne (ne_of_none edb nv), upd_ne (ne_of_none edb ndx)]; exact edb
      rw [upd_upd]
      have ed9 : upd (upd H' dx (.own x)) x (.ins R dx (fldR (.int d) (.ref db) (.ref lr'))) db = some (.dK kvs) := by rw [upd_ne (ne_of_none edb nv), upd_ne (ne_of_none edb ndx)]; exact edb
      have s9 : Same H' (upd (upd H' dx (.own x)) x (.ins R dx (fldR (.int d) (.ref db) (.ref lr')))) := s7.trans (Same.upd nv')
      have ex9 : upd (upd H' dx (.own x)) x (.ins R dx (fldR (.int d) (.ref db) (.ref lr'))) x = some (.ins R dx (fldR (.int d) (.ref db) (.ref lr'))) := upd_same
      generalize upd (upd H' dx (.own x)) x (.ins R dx (fldR (.int d) (.ref db) (.ref lr'))) = H9 at ed9 s9 ex9
      have sxx : SameX db H9 (upd H9 db (.frz ob (.dK kvs))) := SameX.upd fun _ _ _ e => e
      have lx : ∀ {b o}, H9 b = some o → o ≠ .dK kvs → upd H9 db (.frz ob (.dK kvs)) b = some o := fun {b o} e ne => sxx b o (ne_of e ed9 ne) e
      refine kQ hall x d bd rest _ ((s1.trans sm).free nv) ⟨dx, db, ob, kvs, lr', cs', lx ex9 (by simp), upd_same, (hBd.same s9).sameX sxx ed9, lx (s9 _ _ elr') (by simp), (hcs'.same s9).sameX sxx ed9⟩ I.fin Z lrr lbb ?_
      exact sxx.same (s1.trans (sm.trans s9)) (s1.free hdb)
theorem DGetf {H : Hp} {a : Addr} {kvs : List (Key × V)} {k : Key} {ob : Obj} (e : H a = some (.frz ob (.dK kvs))) : DGet H a (kV k) (valV kvs k) := .inl ⟨kvs, k, .inr ⟨ob, e⟩, rfl, rfl⟩
theorem TupsAt.set {H : Hp} : ∀ {cs : List Addr} {qs : List Rat} {i : Nat} {c : Addr} {q : Rat}, TupsAt H cs qs → H c = some (.tup (FrT q)) → TupsAt H (cs.set i c) (qs.set i q)
  | _, _, _, _, _, .nil, _ => .nil
  | _, _, 0, _, _, .cons _ t, h => .cons h t
  | _, _, i + 1, _, _, .cons a t, h => .cons a (TupsAt.set t h)
theorem TupsAt.rep {H : Hp} {c : Addr} {q : Rat} (h : H c = some (.tup (FrT q))) : ∀ n, TupsAt H (List.replicate n c) (List.replicate n q)
  | 0 => .nil
  | n + 1 => .cons h (TupsAt.rep h n)
theorem map_set {n u : Nat} {F F' : Nat → Rat} (h : ∀ v, v ≠ u → F' v = F v) : (List.range n).map F' = ((List.range n).map F).set u (F' u) := by
  refine List.ext_getElem? fun j => ?_
  rw [List.getElem?_set, List.getElem?_map, List.getElem?_map, List.length_map, List.length_range]
  by_cases hj : j < n
  · rw [List.getElem?_range hj]
    by_cases e : u = j
    · subst e; rw [if_pos rfl, if_pos hj]; rfl
    · rw [if_neg e]; show some (F' j) = some (F j); rw [h j (fun z => e z.symm)]
  · have : (List.range n)[j]? = none := List.getElem?_eq_none (by simp; (first | lia | omega))
    rw [this]
    by_cases e : u = j
    · rw [if_pos e, if_neg (by (first | lia | omega))]; rfl
    · rw [if_neg e]; rfl
theorem lkB_snoc (x : Nat × List Int) (v : Nat) : ∀ bd : List (Nat × List Int), (∀ y ∈ bd, y.1 ≠ x.1) → lkB (bd ++ [x]) v = if v = x.1 then some x.2 else lkB bd v
  | [], _ => by
    rw [List.nil_append, lkB_cons]
    by_cases e : x.1 = v
    · rw [if_pos e, if_pos e.symm]
    · rw [if_neg e, if_neg (fun z => e z.symm)]
  | y :: bd, h => by
    have ih := lkB_snoc x v bd fun z hz => h z (by simp [hz])
    have hy := h y (by simp)
    rw [List.cons_append, lkB_cons, lkB_cons, ih]
    by_cases e : y.1 = v
    · rw [if_pos e, if_pos e, if_neg (by (first | lia | omega))]
    · rw [if_neg e, if_neg e]
theorem take_snoc {α : Type} {l : List α} {i : Nat} {x : α} (e : l[i]? = some x) : l.take (i + 1) = l.take i ++ [x] := by rw [List.take_add_one, e]; rfl
theorem keys_take {bd : List (Nat × List Int)} {i : Nat} {x : Nat × List Int} (hp : (bd.map (·.1)).Pairwise (· < ·)) (e : bd[i]? = some x) : ∀ y ∈ bd.take i, y.1 ≠ x.1 := by
  intro y hy
  have h2 := hp.sublist (List.Sublist.map (·.1) (List.take_sublist (i + 1) bd))
  rw [take_snoc e, List.map_append, List.pairwise_append] at h2
  have := h2.2.2 y.1 (List.mem_map.mpr ⟨y, hy, rfl⟩) x.1 (by simp)
  (first | lia | omega)
theorem pt_step {n : Nat} {d : Int} {bd : List (Nat × List Int)} {i : Nat} {x : Nat × List Int} (hp : (bd.map (·.1)).Pairwise (· < ·)) (e : bd[i]? = some x) : ptQ n d (bd.take (i + 1)) = (ptQ n d (bd.take i)).set x.1 (Rat.divInt (g x.2 n) d) := by
  have hk := keys_take hp e
  have lk : ∀ v, lkB (bd.take (i + 1)) v = if v = x.1 then some x.2 else lkB (bd.take i) v := fun v => by rw [take_snoc e]; exact lkB_snoc x v _ hk
  unfold ptQ
  rw [map_set (u := x.1) (F := ptF n d (bd.take i)) fun v hv => by unfold ptF; rw [lk v, if_neg hv]]
  congr 1
  unfold ptF
  rw [lk x.1, if_pos rfl]
  rfl
theorem wy_step {n f : Nat} {d : Int} {bd : List (Nat × List Int)} {i : Nat} {x : Nat × List Int} (hp : (bd.map (·.1)).Pairwise (· < ·)) (e : bd[i]? = some x) (hf : x.1 ≠ f) : wyQ n d (bd.take (i + 1)) f = (wyQ n d (bd.take i) f).set x.1 (Rat.divInt (-(g x.2 f)) d) := by
  have hk := keys_take hp e
  have lk : ∀ v, lkB (bd.take (i + 1)) v = if v = x.1 then some x.2 else lkB (bd.take i) v := fun v => by rw [take_snoc e]; exact lkB_snoc x v _ hk
  unfold wyQ
  rw [map_set (u := x.1) (F := wyF d (bd.take i) f) fun v hv => by unfold wyF; rw [lk v, if_neg hv]]
  congr 1
  unfold wyF
  rw [if_neg hf, lk x.1, if_pos rfl]
  rfl
theorem FrT0 : ([.int 0, .int 1] : List V) = FrT 0 := rfl
theorem FrT1 : ([.int 1, .int 1] : List V) = FrT 1 := rfl
theorem map_const_range (n : Nat) (q : Rat) : (List.range n).map (fun _ => q) = List.replicate n q := by
  rw [List.map_const', List.length_range]
theorem pt_nil (n : Nat) (d : Int) : ptQ n d [] = List.replicate n 0 := by
  unfold ptQ
  rw [show ptF n d [] = fun _ => 0 from rfl, map_const_range]
theorem wy_nil {n f : Nat} (d : Int) : wyQ n d [] f = (List.replicate n 0).set f 1 := by
  unfold wyQ
  rw [map_set (u := f) (F := fun _ => 0) fun v hv => by unfold wyF; rw [if_neg hv]; rfl, wyF_self, map_const_range]
def spPoint (R : Addr) : Sp := fun vs H Q _ => ∃ (n : Nat) (x : Addr) (d : Int) (bd : List (Nat × List Int)) (rest : List (List Int)), vs = [.int n, .ref x] ∧ RedAt R H x d bd rest ∧ d ≠ 0 ∧ (bd.map (·.1)).Pairwise (· < ·) ∧ (∀ y ∈ bd, y.1 < n) ∧ (∀ y ∈ bd, n < y.2.length) ∧ n ≤ 400 ∧
  ∀ (c : Addr) (cs : List Addr) (H' : Hp), H c = none → H' c = some (.lst (cs.map V.ref)) → TupsAt H' cs (ptQ n d bd) → Same H H' → Q (.ref c) H'
theorem scPoint : FnScope ["count", "reduction", "point", "unknown", "line"] ["count", "reduction"] (defScope sPoint) := ⟨rfl, rfl, rfl, by decide +kernel, rfl, by decide +kernel, by decide +kernel⟩
theorem ok_point {f ff fg R : Addr} {fd fdf fdg : FuncData} (D : Def K mg "point_of" sPoint ["count", "reduction"] f fd) (B : Blt mg) (hP : P.given.tree = none) (T : TxtR K mg R) (Df : Def K mg "fraction" sFrac ["top", "bottom"] ff fdf) (Dg : Def K mg "greatest_divisor" sGd ["one", "two"] fg fdg) : FnOk P w K mg base CX0 3 f fd ["count", "reduction"] (spPoint R) := by
  have GF : FnOk P w K mg base CX0 2 ff fdf ["top", "bottom"] spFracX := ok_fracX Df B hP Dg
  refine D.fn.ok scPoint (fun vs H Q E h => ?_) (fun cdv A outer s H vs Q E hr h => ?_)
  · obtain ⟨n, x, d, bd, rest, rfl, _⟩ := h
    rfl
  · obtain ⟨n, x, d, bd, rest, rfl, ⟨dx, db, ob, kvs, lr, ls, hx, hdb, hBd, hlr, hls⟩, hd, hk, hkn, hln, hn, k⟩ := h
    refine ⟨_, pss_cons (ps_set (i := 2) scPoint.nd rfl (Or.inl rfl) (pe_op op_rep (pe_lst (pa_cons (pe_tup (pa_cons pe_int (pa_cons pe_int pa_nil))) pa_nil)) (pv 0)))
      (pss_cons (ps_for PassesOwn.never rfl (pi_items (pe_fld (pv 1) rfl)) (pg_tup rfl (pgs_cons (pg_name (i := 3) scPoint.nd rfl (Or.inl rfl)) (pgs_cons (pg_name (i := 4) scPoint.nd rfl (Or.inl rfl)) pgs_nil)))
        (pss_one (ps_asg (pe_call GF hr (by rfl) Df.mg Df.fn.kp Df.bd .nil pass0 (pa_cons (pe_ix ix_list (pv 4) (pv 0) plainN) (pa_cons (pe_fld (pv 1) rfl) pa_nil))) (pg_sub (pv 2) (pv 3) set_list))))
      (pss_one (ps_ret (pv 2)))), ?_⟩
    refine ⟨(by show 2 ≤ sizeLine; decide), fun z hz => ⟨(by show 1 ≤ sizeLine; decide), fun l1 h1 => ⟨l1, n, [.ref z], rfl, rfl, upd_same, (by (first | lia | omega)), (by (first | lia | omega)), ?_, fun c hc => ?_⟩⟩⟩
    · show 1 * (n : Int).toNat ≤ sizeLine
      exact Nat.le_of_lt (small1000 (by (first | lia | omega)))
    have ei : ((n : Int)).toNat = n := by (first | lia | omega)
    rw [ei, rep_one]
    have s1 : Same H (upd H z (.tup [.int 0, .int 1])) := Same.upd hz
    have s2 := s1.trans (Same.upd (o := .lst [.ref z]) h1)
    have s3 := s2.trans (Same.upd (o := .lst (List.replicate n (.ref z))) hc)
    have nc := s2.free hc
    have ez : (upd (upd (upd H z (.tup [.int 0, .int 1])) l1 (.lst [.ref z])) c (.lst (List.replicate n (.ref z)))) z = some (.tup [.int 0, .int 1]) := (Same.upd hc) _ _ ((Same.upd h1) _ _ upd_same)
    have ec : (upd (upd (upd H z (.tup [.int 0, .int 1])) l1 (.lst [.ref z])) c (.lst (List.replicate n (.ref z)))) c = some (.lst (List.replicate n (.ref z))) := upd_same
    generalize upd (upd (upd H z (.tup [.int 0, .int 1])) l1 (.lst [.ref z])) c (.lst (List.replicate n (.ref z))) = H1 at s3 ez ec
    refine ⟨x, R, dx, _, _, rfl, s3 _ _ hx, T.cl, T.nB, fldR_b _ _ _, db, ob, kvs, rfl, s3 _ _ hdb, ?_⟩
    refine for_items (kvs := kvs) (fun i σ H' => ∃ (cs : List Addr) (x3 x4 : Option V), σ = [some (.int n), some (.ref x), some (.ref c), x3, x4] ∧ Same H H' ∧ H' c = some (.lst (cs.map V.ref)) ∧ TupsAt H' cs (ptQ n d (bd.take i)))
      ⟨List.replicate n z, none, none, rfl, s3, by rw [List.map_replicate]; exact ec, by rw [List.take_zero, pt_nil]; exact TupsAt.rep (by rw [ez, FrT0]) n⟩ (fun i σ H' _ ⟨_, _, _, _, sm, _, _⟩ => sm _ _ hdb) ?_ ?_
    · rintro i kv σ H' Tt ek ⟨cs, x3, x4, rfl, sm, ec', hT⟩ nT
      obtain ⟨y, p, ey, rfl, hp⟩ := hBd.get' ek
      have hym := List.mem_of_getElem? ey
      have sT : Same H' (upd H' Tt (.tup [kV (Sum.inl (y.1 : Int) : Key), V.ref p])) := Same.upd nT
      have s4 := sm.trans sT
      have lcs : cs.length = n := by have := Paired.length hT; unfold ptQ at this; simpa using this
      refine ⟨Tt, _, rfl, SqT.of upd_same, rfl, _, _, rfl, _, _, rfl, rfl, ?_⟩
      refine ⟨_, _, SqL.of (s4 _ _ hp), at_map (hln y hym), x, R, dx, _, _, rfl, s4 _ _ hx, T.cl, T.nD, fldR_d _ _ _, ?_⟩
      refine ⟨_, d, rfl, hd, fun q H5 nq eq s5 => ?_⟩
      have e5 : H5 c = some (.lst (cs.map V.ref)) := s5 _ _ (sT _ _ ec')
      have hyn := hkn y hym
      refine ⟨cs.map V.ref, y.1, e5, ?_, ?_⟩
      · rw [List.length_map, lcs]
        unfold ixN
        simp
        (first | lia | omega)
      refine ⟨cs.set y.1 q, _, _, rfl, (s4.trans s5).updn nc, ?_, ?_⟩
      · rw [upd_same, List.map_set]
      · rw [pt_step hk ey]
        exact (TupsAt.set (hT.same (sT.trans s5)) eq).upd fun xs z => by rw [e5] at z; cases z
    · rintro σ H' ⟨cs, x3, x4, rfl, sm, ec', hT⟩
      have lk : kvs.length = bd.length := Paired.length hBd
      rw [lk, List.take_length] at hT
      exact (k c cs H' nc ec' hT sm)
def spWay (R : Addr) : Sp := fun vs H Q _ => ∃ (n f : Nat) (x : Addr) (d : Int) (bd : List (Nat × List Int)) (rest : List (List Int)), vs = [.int n, .ref x, .int f] ∧ RedAt R H x d bd rest ∧ d ≠ 0 ∧ (bd.map (·.1)).Pairwise (· < ·) ∧ (∀ y ∈ bd, y.1 < n) ∧ (∀ y ∈ bd, n < y.2.length) ∧ n ≤ 400 ∧ f < n ∧ lkB bd f = none ∧
  ∀ (c : Addr) (cs : List Addr) (H' : Hp), H c = none → H' c = some (.lst (cs.map V.ref)) → TupsAt H' cs (wyQ n d bd f) → Same H H' → Q (.ref c) H'
theorem scWay : FnScope ["count", "reduction", "free", "way", "unknown", "line"] ["count", "reduction", "free"] (defScope sWay) := ⟨rfl, rfl, rfl, by decide +kernel, rfl, by decide +kernel, by decide +kernel⟩
theorem ixN_nat {m u : Nat} (h : u < m) : ixN m (u : Int) = some u := by
  unfold ixN
  simp
  (first | lia | omega)
theorem ok_way {f ff fg R : Addr} {fd fdf fdg : FuncData} (D : Def K mg "way_of" sWay ["count", "reduction", "free"] f fd) (B : Blt mg) (hP : P.given.tree = none) (T : TxtR K mg R) (Df : Def K mg "fraction" sFrac ["top", "bottom"] ff fdf) (Dg : Def K mg "greatest_divisor" sGd ["one", "two"] fg fdg) : FnOk P w K mg base CX0 3 f fd ["count", "reduction", "free"] (spWay R) := by
  have GF : FnOk P w K mg base CX0 2 ff fdf ["top", "bottom"] spFracX := ok_fracX Df B hP Dg
  refine D.fn.ok scWay (fun vs H Q E h => ?_) (fun cdv A outer s H vs Q E hr h => ?_)
  · obtain ⟨n, fr, x, d, bd, rest, rfl, _⟩ := h
    rfl
  · obtain ⟨n, fr, x, d, bd, rest, rfl, ⟨dx, db, ob, kvs, lr, ls, hx, hdb, hBd, hlr, hls⟩, hd, hk, hkn, hln, hn, hfn, hfb, k⟩ := h
    refine ⟨_, pss_cons (ps_set (i := 3) scWay.nd rfl (Or.inl rfl) (pe_op op_rep (pe_lst (pa_cons (pe_tup (pa_cons pe_int (pa_cons pe_int pa_nil))) pa_nil)) (pv 0)))
      (pss_cons (ps_asg (pe_tup (pa_cons pe_int (pa_cons pe_int pa_nil))) (pg_sub (pv 3) (pv 2) set_list))
      (pss_cons (ps_for PassesOwn.never rfl (pi_items (pe_fld (pv 1) rfl)) (pg_tup rfl (pgs_cons (pg_name (i := 4) scWay.nd rfl (Or.inl rfl)) (pgs_cons (pg_name (i := 5) scWay.nd rfl (Or.inl rfl)) pgs_nil)))
        (pss_one (ps_asg (pe_call GF hr (by rfl) Df.mg Df.fn.kp Df.bd .nil pass0 (pa_cons (pe_un un_neg (pe_ix ix_list (pv 5) (pv 2) plainN)) (pa_cons (pe_fld (pv 1) rfl) pa_nil))) (pg_sub (pv 3) (pv 4) set_list))))
      (pss_one (ps_ret (pv 3))))), ?_⟩
    refine ⟨(by show 2 ≤ sizeLine; decide), fun z hz => ⟨(by show 1 ≤ sizeLine; decide), fun l1 h1 => ⟨l1, n, [.ref z], rfl, rfl, upd_same, (by (first | lia | omega)), (by (first | lia | omega)), ?_, fun c hc => ?_⟩⟩⟩
    · show 1 * (n : Int).toNat ≤ sizeLine
      exact Nat.le_of_lt (small1000 (by (first | lia | omega)))
    have ei : ((n : Int)).toNat = n := by (first | lia | omega)
    rw [ei, rep_one]
    have s1 : Same H (upd H z (.tup [.int 0, .int 1])) := Same.upd hz
    have s2 := s1.trans (Same.upd (o := .lst [.ref z]) h1)
    have s3 := s2.trans (Same.upd (o := .lst (List.replicate n (.ref z))) hc)
    have nc := s2.free hc
    have ez : (upd (upd (upd H z (.tup [.int 0, .int 1])) l1 (.lst [.ref z])) c (.lst (List.replicate n (.ref z)))) z = some (.tup [.int 0, .int 1]) := (Same.upd hc) _ _ ((Same.upd h1) _ _ upd_same)
    have ec : (upd (upd (upd H z (.tup [.int 0, .int 1])) l1 (.lst [.ref z])) c (.lst (List.replicate n (.ref z)))) c = some (.lst (List.replicate n (.ref z))) := upd_same
    generalize upd (upd (upd H z (.tup [.int 0, .int 1])) l1 (.lst [.ref z])) c (.lst (List.replicate n (.ref z))) = H1 at s3 ez ec
    refine ⟨(by show 2 ≤ sizeLine; decide), fun o ho => ?_⟩
    have so : Same H1 (upd H1 o (.tup [.int 1, .int 1])) := Same.upd ho
    refine ⟨List.replicate n (.ref z), fr, so _ _ ec, (by rw [List.length_replicate]; exact ixN_nat hfn), ?_⟩
    have eo : (upd (upd H1 o (.tup [.int 1, .int 1])) c (.lst ((List.replicate n (V.ref z)).set fr (V.ref o)))) o = some (.tup [.int 1, .int 1]) := by rw [upd_ne (fun q => by rw [q, ec] at ho; cases ho), upd_same]
    have ez2 : (upd (upd H1 o (.tup [.int 1, .int 1])) c (.lst ((List.replicate n (V.ref z)).set fr (V.ref o)))) z = some (.tup [.int 0, .int 1]) := by rw [upd_ne (fun q => by rw [← q, ez] at ec; cases ec)]; exact so _ _ ez
    have ec2 : (upd (upd H1 o (.tup [.int 1, .int 1])) c (.lst ((List.replicate n (V.ref z)).set fr (V.ref o)))) c = some (.lst ((List.replicate n (V.ref z)).set fr (V.ref o))) := upd_same
    have s4 : Same H (upd (upd H1 o (.tup [.int 1, .int 1])) c (.lst ((List.replicate n (V.ref z)).set fr (V.ref o)))) := (s3.trans so).updn nc
    generalize upd (upd H1 o (.tup [.int 1, .int 1])) c (.lst ((List.replicate n (V.ref z)).set fr (V.ref o))) = H2 at eo ez2 ec2 s4
    refine ⟨x, R, dx, _, _, rfl, s4 _ _ hx, T.cl, T.nB, fldR_b _ _ _, db, ob, kvs, rfl, s4 _ _ hdb, ?_⟩
    refine for_items (kvs := kvs) (fun i σ H' => ∃ (cs : List Addr) (x3 x4 : Option V), σ = [some (.int n), some (.ref x), some (.int fr), some (.ref c), x3, x4] ∧ Same H H' ∧ H' c = some (.lst (cs.map V.ref)) ∧ TupsAt H' cs (wyQ n d (bd.take i) fr))
      ⟨(List.replicate n z).set fr o, none, none, rfl, s4, by rw [List.map_set, List.map_replicate]; exact ec2, by rw [List.take_zero, wy_nil]; exact TupsAt.set (TupsAt.rep (by rw [ez2, FrT0]) n) (by rw [eo, FrT1])⟩ (fun i σ H' _ ⟨_, _, _, _, sm, _, _⟩ => sm _ _ hdb) ?_ ?_
    · rintro i kv σ H' Tt ek ⟨cs, x3, x4, rfl, sm, ec', hT⟩ nT
      obtain ⟨y, p, ey, rfl, hp⟩ := hBd.get' ek
      have hym := List.mem_of_getElem? ey
      have sT : Same H' (upd H' Tt (.tup [kV (Sum.inl (y.1 : Int) : Key), V.ref p])) := Same.upd nT
      have s4 := sm.trans sT
      have lcs : cs.length = n := by have := Paired.length hT; unfold wyQ at this; simpa using this
      have hyl := hln y hym
      refine ⟨Tt, _, rfl, SqT.of upd_same, rfl, _, _, rfl, _, _, rfl, rfl, ?_⟩
      refine ⟨_, _, SqL.of (s4 _ _ hp), at_map (by (first | lia | omega)), x, R, dx, _, _, rfl, s4 _ _ hx, T.cl, T.nD, fldR_d _ _ _, ?_⟩
      refine ⟨_, d, rfl, hd, fun q H5 nq eq s5 => ?_⟩
      have e5 : H5 c = some (.lst (cs.map V.ref)) := s5 _ _ (sT _ _ ec')
      have hyn := hkn y hym
      refine ⟨cs.map V.ref, y.1, e5, (by rw [List.length_map, lcs]; exact ixN_nat hyn), ?_⟩
      refine ⟨cs.set y.1 q, _, _, rfl, (s4.trans s5).updn nc, ?_, ?_⟩
      · rw [upd_same, List.map_set]
      · rw [wy_step hk ey (lkB_none.mp hfb y hym)]
        exact (TupsAt.set (hT.same (sT.trans s5)) eq).upd fun xs z => by rw [e5] at z; cases z
    · rintro σ H' ⟨cs, x3, x4, rfl, sm, ec', hT⟩
      have lk : kvs.length = bd.length := Paired.length hBd
      rw [lk, List.take_length] at hT
      exact (k c cs H' nc ec' hT sm)
def WayAt (H : Hp) (w : Addr) (f : Nat) (qs : List Rat) : Prop := ∃ (l : Addr) (cs : List Addr), H w = some (.tup [.int f, .ref l]) ∧ H l = some (.lst (cs.map V.ref)) ∧ TupsAt H cs qs
theorem WayAt.same {H H' : Hp} {w : Addr} {f : Nat} {qs : List Rat} (h : WayAt H w f qs) (s : Same H H') : WayAt H' w f qs := let ⟨l, cs, a, b, c⟩ := h; ⟨l, cs, s _ _ a, s _ _ b, c.same s⟩
def WaysAt (H : Hp) (ws : List Addr) (fs : List Nat) (F : Nat → List Rat) : Prop := Paired (fun w f => WayAt H w f (F f)) ws fs
theorem WaysAt.same {H H' : Hp} {ws : List Addr} {fs : List Nat} {F : Nat → List Rat} (h : WaysAt H ws fs F) (s : Same H H') : WaysAt H' ws fs F := Paired.mapP h fun _ _ z => z.same s
def frees (n : Nat) (bd : List (Nat × List Int)) : List Nat := (List.range n).filter fun v => (lkB bd v).isNone
def facQ (n : Nat) (l : List Int) : List Rat := (l.drop (n + 1)).map fun x => Rat.divInt x (g l n)
def NevAt (H : Hp) (y : Addr) (qs : List Rat) : Prop := ∃ (l : Addr) (cs : List Addr), H y = some (.tup [.str "never", .ref l]) ∧ H l = some (.lst (cs.map V.ref)) ∧ TupsAt H cs qs
def SolAt (H : Hp) (y : Addr) (pt : List Rat) (fs : List Nat) (F : Nat → List Rat) : Prop := ∃ (l wl : Addr) (cs ws : List Addr), H y = some (.tup [.str "solved", .ref l, .ref wl]) ∧ H l = some (.lst (cs.map V.ref)) ∧ TupsAt H cs pt ∧ H wl = some (.lst (ws.map V.ref)) ∧ WaysAt H ws fs F
theorem NevAt.same {H H' : Hp} {y : Addr} {qs : List Rat} (h : NevAt H y qs) (s : Same H H') : NevAt H' y qs := let ⟨l, cs, a, b, c⟩ := h; ⟨l, cs, s _ _ a, s _ _ b, c.same s⟩
theorem SolAt.same {H H' : Hp} {y : Addr} {pt : List Rat} {fs : List Nat} {F : Nat → List Rat} (h : SolAt H y pt fs F) (s : Same H H') : SolAt H' y pt fs F := let ⟨l, wl, cs, ws, a, b, c, d, e⟩ := h; ⟨l, wl, cs, ws, s _ _ a, s _ _ b, c.same s, s _ _ d, e.same s⟩
def AnsOf (n : Nat) (d : Int) (bd : List (Nat × List Int)) (rest : List (List Int)) (H : Hp) (y : Addr) : Prop :=
  (∃ l ∈ rest, g l n ≠ 0 ∧ NevAt H y (facQ n l)) ∨ ((∀ l ∈ rest, g l n = 0) ∧ SolAt H y (ptQ n d bd) (frees n bd) (wyQ n d bd))
def spWays (R : Addr) : Sp := fun vs H Q _ => ∃ (n : Nat) (x : Addr) (d : Int) (bd : List (Nat × List Int)) (rest : List (List Int)), vs = [.int n, .ref x] ∧ RedAt R H x d bd rest ∧ d ≠ 0 ∧ (bd.map (·.1)).Pairwise (· < ·) ∧ (∀ y ∈ bd, y.1 < n) ∧ (∀ y ∈ bd, n < y.2.length) ∧ n ≤ 400 ∧
  ∀ (c : Addr) (ws : List Addr) (H' : Hp), H c = none → H' c = some (.lst (ws.map V.ref)) → WaysAt H' ws (frees n bd) (wyQ n d bd) → Same H H' → Q (.ref c) H'
theorem scWays : FnScope ["count", "reduction", "free_ones"] ["count", "reduction"] (defScope sWays) := ⟨rfl, rfl, rfl, by decide +kernel, rfl, by decide +kernel, by decide +kernel⟩
theorem TupsAt.updl {H : Hp} {p : Addr} {o : HO} {cs : List Addr} {qs : List Rat} {xs : List V} (h : TupsAt H cs qs) (hp : H p = some (.lst xs)) : TupsAt (L2.upd H p o) cs qs := h.upd fun ys z => by rw [hp] at z; cases z
theorem WaysAt.upd {H : Hp} {p : Addr} {o : HO} {ws : List Addr} {fs : List Nat} {F : Nat → List Rat} (h : WaysAt H ws fs F) (hp : ∀ w ∈ ws, ∀ (f : Nat) (l : Addr), H w = some (.tup [.int f, .ref l]) → l ≠ p) (hp2 : ∃ xs, H p = some (.lst xs)) : WaysAt (L2.upd H p o) ws fs F := by
  obtain ⟨xs, hp2⟩ := hp2
  unfold WaysAt at h ⊢
  induction h with
  | nil => exact .nil
  | @cons w f ws fs h t ih =>
    refine .cons ?_ (ih fun w' hw => hp w' (by simp [hw]))
    obtain ⟨l, cs, a, b, c⟩ := h
    exact ⟨l, cs, by rw [upd_ne (ne_of a hp2 (by simp))]; exact a, by rw [upd_ne (hp w (by simp) f l a)]; exact b, c.updl hp2⟩
theorem pairedGet {α β : Type} {F : α → β → Prop} : ∀ {as : List α} {bs : List β} {i : Nat} {a : α}, Paired F as bs → as[i]? = some a → ∃ b, F a b
  | _, _, _, _, .nil, e => by simp at e
  | _, _, 0, _, .cons r _, e => by simp at e; subst e; exact ⟨_, r⟩
  | _, _, i + 1, _, .cons _ t, e => pairedGet (i := i) t (by simpa using e)
theorem WaysAt.snoc {H : Hp} {w : Addr} {f : Nat} {F : Nat → List Rat} (hw : WayAt H w f (F f)) : ∀ {ws : List Addr} {fs : List Nat}, WaysAt H ws fs F → WaysAt H (ws ++ [w]) (fs ++ [f]) F
  | _, _, .nil => .cons hw .nil
  | _, _, .cons a t => .cons a (WaysAt.snoc hw t)
theorem ok_ways {f fw ff fg R : Addr} {fd fdw fdf fdg : FuncData} (D : Def K mg "ways_of" sWays ["count", "reduction"] f fd) (B : Blt mg) (hP : P.given.tree = none) (T : TxtR K mg R) (Dw : Def K mg "way_of" sWay ["count", "reduction", "free"] fw fdw) (Df : Def K mg "fraction" sFrac ["top", "bottom"] ff fdf) (Dg : Def K mg "greatest_divisor" sGd ["one", "two"] fg fdg) : FnOk P w K mg base CX0 4 f fd ["count", "reduction"] (spWays R) := by
  have GW : FnOk P w K mg base CX0 3 fw fdw ["count", "reduction", "free"] (spWay R) := ok_way Dw B hP T Df Dg
  refine D.fn.ok scWays (fun vs H Q E h => ?_) (fun cdv A outer s H vs Q E hr h => ?_)
  · obtain ⟨n, x, d, bd, rest, rfl, _⟩ := h
    rfl
  · obtain ⟨n, x, d, bd, rest, rfl, hRed, hd, hk, hkn, hln, hn, k⟩ := h
    obtain ⟨dx, db, ob, kvs, lr, ls, hx, hdb, hBd, hlr, hls⟩ := id hRed
    have hu := hu_of hr
    refine ⟨_, pss_cons (ps_compF (i := 2) ["unknown"] [("reduction", 1)] scWays.nd rfl (Or.inl rfl) (by rfl) rfl (compSc_mk (by rfl) (by rfl) (by rfl)) (pi_range1 (by rfl) B.range (pa_cons (pv 0) pa_nil)) (gk_name (i := 0) (by decide))
        (fun cl C s H fp pins => pg_name (i := 0) (by show (["unknown", "reduction"] : List Str).Nodup; decide +kernel) rfl (Or.inl rfl) (Or.inr rfl))
        (fun cl C s H fp pins => pt_cmp (pc_dnotin hu (pv 0) (peC_fld (pv 1) rfl))) (fun cl C s H fp pins => pv 0))
      (pss_one (ps_ret (pe_comp ["free"] [("count", 0), ("reduction", 1)] rfl (compSc_mk (by rfl) (by rfl) (by rfl)) (pi_list (pv 2)) (gk_name (i := 0) (by decide))
        (fun cl C s H fp pins => pg_name (i := 0) (by show (["free", "count", "reduction"] : List Str).Nodup; decide +kernel) rfl (Or.inl rfl) (Or.inr rfl))
        (fun cl C s H fp pins => pe_tup (pa_cons (pv 0) (pa_cons (pe_call GW hr (by rfl) Dw.mg Dw.fn.kp Dw.bd .nil pass0 (pa_cons (pv 1) (pa_cons (pv 2) (pa_cons (pv 0) pa_nil)))) pa_nil)))))), ?_⟩
    refine ⟨_, rfl, (by (first | lia | omega)), (by (first | lia | omega)), fun Da hD => ?_⟩
    have en : ((n : Int)).toNat = n := by (first | lia | omega)
    rw [en]
    refine comp_rangeF (Q := fun x H1 => gName 2 x _ H1 _) (fun i ys H' => Same H H' ∧ H' Da = some (.lst ys) ∧ ys = (((List.range i).filter fun v => (lkB bd v).isNone).map fun v : Nat => V.int (v : Int))) ⟨Same.upd hD, upd_same, rfl⟩ ?_ ?_ ?_
    · rintro i ys H' hi ⟨sm, e, rfl⟩
      refine ⟨e, ?_⟩
      rw [List.length_map]
      have := List.length_filter_le (fun v => (lkB bd v).isNone) (List.range i)
      rw [List.length_range] at this
      exact small1000 (by (first | lia | omega))
    · rintro i ys H' hi ⟨sm, e, rfl⟩
      have e0 : (0 : Int) + (i : Int) = (i : Int) := Int.zero_add _
      show gName 0 (.int (0 + (i : Int))) _ _ _
      rw [e0]
      refine ⟨x, R, dx, _, _, rfl, sm _ _ hx, T.cl, T.nB, fldR_b _ _ _, db, _, rfl, DGetf (k := Sum.inl (i : Int)) (sm _ _ hdb), _, rfl, ?_⟩
      have ev := hBd.val (v := i)
      rw [List.range_succ, List.filter_append]
      cases eb : lkB bd i with
      | none =>
        rw [eb] at ev
        refine iteT' (by rw [ev]; rfl) ⟨e, (sm).updn hD, upd_same, ?_⟩
        simp [eb]
      | some b =>
        rw [eb] at ev
        refine iteF' (by rw [ev]; rfl) ⟨sm, ?_, ?_⟩
        · exact e
        · simp [eb]
    · rintro ys H' ⟨sm, e, rfl⟩
      have hRed' := hRed.same sm
      refine ⟨Da, rfl, ⟨_, SqL.of e⟩, fun Db hDb => ?_⟩
      have len0 : ((List.range n).filter fun v => (lkB bd v).isNone).length ≤ n := by have := List.length_filter_le (fun v => (lkB bd v).isNone) (List.range n); simpa using this
      refine comp_list (K := K) (xs := ((List.range n).filter fun v => (lkB bd v).isNone).map fun v : Nat => V.int (v : Int)) (fun i ys H2 => Same H' H2 ∧ H2 Db = some (.lst ys) ∧ ∃ ws : List Addr, ys = ws.map V.ref ∧ (∀ w ∈ ws, ∀ (f : Nat) (l : Addr), H2 w = some (.tup [.int f, .ref l]) → l ≠ Db) ∧ WaysAt H2 ws ((frees n bd).take i) (wyQ n d bd))
        ⟨Same.upd hDb, upd_same, [], rfl, (fun _ z => nomatch z), .nil⟩ ?_ ?_ ?_
      · rintro i ys H2 hi ⟨s2, e2, ws, rfl, hne, hW⟩
        have lw : ws.length = ((frees n bd).take i).length := Paired.length hW
        refine ⟨e2, ?_, SqL.of (s2 _ _ e)⟩
        rw [List.length_map, lw, List.length_take]
        unfold frees
        exact small1000 (by (first | lia | omega))
      · rintro i y ys H2 hy ⟨s2, e2, ws, rfl, hne, hW⟩
        rw [List.getElem?_map] at hy
        cases ef : ((List.range n).filter fun v => (lkB bd v).isNone)[i]? with
        | none => rw [ef] at hy; cases hy
        | some fr =>
          rw [ef] at hy
          have hy' : y = V.int (fr : Int) := (Option.some.inj hy).symm
          subst hy'
          have hm := List.mem_filter.mp (List.mem_of_getElem? ef)
          have hfn : fr < n := by simpa using hm.1
          have hfb : lkB bd fr = none := by have := hm.2; simpa using this
          refine ⟨n, fr, x, d, bd, rest, rfl, hRed'.same s2, hd, hk, hkn, hln, hn, hfn, hfb, fun c cs H3 nc ec hT s3 => ?_⟩
          have eD : H3 Db = some (.lst (ws.map V.ref)) := s3 _ _ e2
          have cne : c ≠ Db := fun z => by rw [z, e2] at nc; cases nc
          refine ⟨(by show 2 ≤ sizeLine; decide), fun t nt => ?_⟩
          have st : Same H3 (upd H3 t (.tup [.int (fr : Int), .ref c])) := Same.upd nt
          have eD' := st _ _ eD
          have tne : t ≠ Db := fun z => by rw [z, eD] at nt; cases nt
          have hne4 : ∀ w ∈ ws ++ [t], ∀ (f : Nat) (l : Addr), upd H3 t (.tup [.int (fr : Int), .ref c]) w = some (.tup [.int f, .ref l]) → l ≠ Db := by
            intro w hw f l hwl
            rcases List.mem_append.mp hw with z | z
            · obtain ⟨j, ej⟩ := List.mem_iff_getElem?.mp z
              obtain ⟨f', h1⟩ := pairedGet hW ej
              obtain ⟨l', cs', a1, _⟩ := h1
              have := (s3.trans st) _ _ a1
              rw [hwl] at this
              cases this
              exact hne w z _ l a1
            · rw [List.mem_singleton.mp z, upd_same] at hwl
              cases hwl
              exact cne
          refine ⟨eD', (s2.trans (s3.trans st)).updn hDb, upd_same, ws ++ [t], by simp, ?_, ?_⟩
          · intro w hw f l hwl
            by_cases q : w = Db
            · rw [q, upd_same] at hwl; cases hwl
            · rw [upd_ne q] at hwl
              exact hne4 w hw f l hwl
          · have ef' : (frees n bd)[i]? = some fr := ef
            rw [take_snoc ef']
            have w1 : WaysAt (upd H3 t (.tup [.int (fr : Int), .ref c])) (ws ++ [t]) ((frees n bd).take i ++ [fr]) (wyQ n d bd) :=
              WaysAt.snoc ⟨c, cs, upd_same, st _ _ ec, hT.same st⟩ (hW.same (s3.trans st))
            exact w1.upd hne4 ⟨_, eD'⟩
      · rintro ys H2 ⟨s2, e2, ws, rfl, hne, hW⟩
        rw [List.length_map] at hW
        rw [show (List.filter (fun v => (lkB bd v).isNone) (List.range n)).length = (frees n bd).length from rfl, List.take_length] at hW
        exact k Db ws H2 (sm.free hDb) e2 hW (sm.trans s2)
def spAns (R : Addr) : Sp := fun vs H Q _ => ∃ (n : Nat) (x : Addr) (d : Int) (bd : List (Nat × List Int)) (rest rows : List (List Int)), vs = [.int n, .ref x] ∧ RedAt R H x d bd rest ∧ Fin n rows d bd rest ∧ n ≤ 400 ∧ rows.length ≤ 400 ∧
  ∀ (y : Addr) (H' : Hp), H y = none → Same H H' → AnsOf n d bd rest H' y → Q (.ref y) H'
theorem scAns : FnScope ["count", "reduction", "line"] ["count", "reduction"] (defScope sAns) := ⟨rfl, rfl, rfl, by decide +kernel, rfl, by decide +kernel, by decide +kernel⟩
theorem ok_ans {f fp fv fw ff fg R : Addr} {fd fdp fdv fdw fdf fdg : FuncData} (D : Def K mg "answer_of" sAns ["count", "reduction"] f fd) (B : Blt mg) (hP : P.given.tree = none) (T : TxtR K mg R) (Dp : Def K mg "point_of" sPoint ["count", "reduction"] fp fdp) (Dv : Def K mg "ways_of" sWays ["count", "reduction"] fv fdv)
    (Dw : Def K mg "way_of" sWay ["count", "reduction", "free"] fw fdw) (Df : Def K mg "fraction" sFrac ["top", "bottom"] ff fdf) (Dg : Def K mg "greatest_divisor" sGd ["one", "two"] fg fdg) : FnOk P w K mg base CX0 5 f fd ["count", "reduction"] (spAns R) := by
  have GF : FnOk P w K mg base CX0 4 ff fdf ["top", "bottom"] spFracX := (ok_fracX Df B hP Dg).mono (by decide)
  have GP : FnOk P w K mg base CX0 4 fp fdp ["count", "reduction"] (spPoint R) := (ok_point Dp B hP T Df Dg).mono (by decide)
  have GV : FnOk P w K mg base CX0 4 fv fdv ["count", "reduction"] (spWays R) := ok_ways Dv B hP T Dw Df Dg
  refine D.fn.ok scAns (fun vs H Q E h => ?_) (fun cdv A outer s H vs Q E hr h => ?_)
  · obtain ⟨n, x, d, bd, rest, rows, rfl, _⟩ := h
    rfl
  · obtain ⟨n, x, d, bd, rest, rows, rfl, hRed, I, hn, hrows, k⟩ := h
    obtain ⟨dx, db, ob, kvs, lr, ls, hx, hdb, hBd, hlr, hls⟩ := id hRed
    refine ⟨_, pss_cons (ps_for PassesOwn.never rfl (pi_list (pe_fld (pv 1) rfl)) (pg_name (i := 2) scAns.nd rfl (Or.inr rfl))
        (pss_one (ps_if (pt_cmpR op_ne (pe_ix ix_list (pv 2) (pv 0) plainN) pe_int (nomark _))
          (pss_one (ps_ret (pe_tup (pa_cons pe_str (pa_cons (pe_comp ["factor"] [("line", 2), ("count", 0)] rfl (compSc_mk (by rfl) (by rfl) (by rfl)) (pi_list (pe_slice sl_list (pv 2) (po_some (pe_op op_add (pv 0) pe_int)) po_none)) (gk_name (i := 0) (by decide))
            (fun cl C s H fp pins => pg_name (i := 0) (by show (["factor", "line", "count"] : List Str).Nodup; decide +kernel) rfl (Or.inl rfl) (Or.inr rfl))
            (fun cl C s H fp pins => pe_call GF hr (by rfl) Df.mg Df.fn.kp Df.bd .nil pass0 (pa_cons (pv 0) (pa_cons (pe_ix ixC_list (pv 1) (pv 2) plainN) pa_nil)))) pa_nil))))) pss_nil)))
      (pss_one (ps_ret (pe_tup (pa_cons pe_str (pa_cons (pe_call GP hr (by rfl) Dp.mg Dp.fn.kp Dp.bd .nil pass0 (pa_cons (pv 0) (pa_cons (pv 1) pa_nil))) (pa_cons (pe_call GV hr (by rfl) Dv.mg Dv.fn.kp Dv.bd .nil pass0 (pa_cons (pv 0) (pa_cons (pv 1) pa_nil))) pa_nil)))))), ?_⟩
    dsimp only [cxOf_K]
    have lr' := Paired.length hls
    refine ⟨x, R, dx, _, _, rfl, hx, T.cl, T.nR, fldR_r _ _ _, lr, rfl, ⟨_, SqL.of hlr⟩, ?_⟩
    refine for_list (xs := ls.map V.ref) (fun i σ H' => ∃ x2 : Option V, σ = [some (.int n), some (.ref x), x2] ∧ H' = H ∧ ∀ j l, j < i → rest[j]? = some l → g l n = 0) ⟨none, rfl, rfl, fun j _ h => absurd h (Nat.not_lt_zero j)⟩ (fun i σ H' _ ⟨_, _, e, _⟩ => by rw [e]; exact SqL.of hlr) ?_ ?_
    · rintro i y σ H' hy ⟨x2, rfl, rfl, hj⟩
      rw [List.getElem?_map] at hy
      cases ep : ls[i]? with
      | none => rw [ep] at hy; cases hy
      | some p =>
        rw [ep] at hy
        have hy' : y = V.ref p := (Option.some.inj hy).symm
        subst hy'
        obtain ⟨l, el, hp⟩ := hls.get ep
        have hlm : l ∈ rest := List.mem_of_getElem? el
        have ll := I.lenR l hlm
        refine ⟨_, .int (g l n), SqL.of hp, at_map (by (first | lia | omega)), _, rfl, ?_⟩
        by_cases hz : g l n = 0
        · refine iteF' (by simp [hz]) ⟨_, rfl, rfl, fun j l' hj' el' => ?_⟩
          by_cases hji : j < i
          · exact hj j l' hji el'
          · have : j = i := by (first | lia | omega)
            subst this
            rw [el] at el'; cases el'
            exact hz
        · refine iteT' (by simp [hz]) ?_
          refine ⟨_, rfl, p, _, rfl, SqL.of hp, fun q nq => ?_⟩
          have en : (n : Int) + 1 = ((n + 1 : Nat) : Int) := by (first | lia | omega)
          rw [en, cut_drop]
          have s1 : Same H' (upd H' q (.lst ((l.map V.int).drop (n + 1)))) := Same.upd nq
          refine ⟨q, rfl, ⟨_, SqL.of upd_same⟩, fun Da hD => ?_⟩
          have eq1 : (upd H' q (.lst ((l.map V.int).drop (n + 1)))) q = some (.lst ((l.map V.int).drop (n + 1))) := upd_same
          generalize upd H' q (.lst ((l.map V.int).drop (n + 1))) = H1 at s1 eq1 hD ⊢
          refine comp_list (K := K) (a := q) (xs := (l.map V.int).drop (n + 1)) (Q := fun x H1 => 2 ≤ sizeLine ∧ ∀ p, H1 p = none → Q (.ref p) (upd H1 p (.tup [.str "never", x]))) (fun j ys H2 => Same H1 H2 ∧ H2 Da = some (.lst ys) ∧ ∃ cs : List Addr, ys = cs.map V.ref ∧ TupsAt H2 cs ((facQ n l).take j)) ⟨Same.upd hD, upd_same, [], rfl, .nil⟩ ?_ ?_ ?_
          · rintro j ys H2 hj' ⟨s2, e2, cs, rfl, hT⟩
            have := Paired.length hT
            refine ⟨e2, ?_, SqL.of (s2 _ _ eq1)⟩
            rw [List.length_map, this, List.length_take]
            unfold facQ
            rw [List.length_map, List.length_drop]
            exact small1000 (by (first | lia | omega))
          · rintro j y ys H2 hy ⟨s2, e2, cs, rfl, hT⟩
            rw [List.getElem?_drop, List.getElem?_map] at hy
            cases ev : l[n + 1 + j]? with
            | none => rw [ev] at hy; cases hy
            | some v =>
              rw [ev] at hy
              have hy' : y = V.int v := (Option.some.inj hy).symm
              subst hy'
              refine ⟨_, _, SqL.of ((s1.trans s2) _ _ hp), at_map (by (first | lia | omega)), ?_⟩
              refine ⟨_, _, rfl, hz, fun c H3 nc ec s3 => ?_⟩
              have eD := s3 _ _ e2
              refine ⟨eD, (s2.trans s3).updn hD, upd_same, cs ++ [c], by simp, ?_⟩
              have ef : (facQ n l)[j]? = some (Rat.divInt v (g l n)) := by unfold facQ; rw [List.getElem?_map, List.getElem?_drop, ev]; rfl
              rw [take_snoc ef]
              exact TupsAt.updl (TupsAt.snoc ec (hT.same s3)) eD
          · rintro ys H2 ⟨s2, e2, cs, rfl, hT⟩
            have lf : ((l.map V.int).drop (n + 1)).length = (facQ n l).length := by unfold facQ; simp
            rw [lf, List.take_length] at hT
            refine ⟨(by show 2 ≤ sizeLine; decide), fun y ny => ?_⟩
            have s3 : Same H2 (upd H2 y (.tup [.str "never", .ref Da])) := Same.upd ny
            exact k y _ ((s1.trans s2).free ny) (s1.trans (s2.trans s3)) (.inl ⟨l, hlm, hz, Da, cs, upd_same, s3 _ _ e2, hT.same s3⟩)
    · rintro σ H' ⟨x2, rfl, rfl, hj⟩
      have hall : ∀ l ∈ rest, g l n = 0 := fun l hl => by
        obtain ⟨j, ej⟩ := List.mem_iff_getElem?.mp hl
        refine hj j l ?_ ej
        rw [List.length_map, lr']
        exact (List.getElem?_eq_some_iff.mp ej).1
      have hln : ∀ y ∈ bd, n < y.2.length := fun y hy => by rw [I.lenB y hy]; (first | lia | omega)
      refine ⟨n, x, d, bd, rest, rfl, hRed, I.dne, I.keys, I.below, hln, hn, fun c cs H1 nc ec hT s1 => ?_⟩
      refine ⟨n, x, d, bd, rest, rfl, hRed.same s1, I.dne, I.keys, I.below, hln, hn, fun wl ws H2 nw ew hW s2 => ?_⟩
      refine ⟨(by show 3 ≤ sizeLine; decide), fun y ny => ?_⟩
      have s3 : Same H2 (upd H2 y (.tup [.str "solved", .ref c, .ref wl])) := Same.upd ny
      exact k y _ ((s1.trans s2).free ny) (s1.trans (s2.trans s3)) (.inr ⟨hall, c, wl, cs, ws, upd_same, (s2.trans s3) _ _ ec, hT.same (s2.trans s3), s3 _ _ ew, hW.same s3⟩)
def spSolved (K : PySem.W.Frag) (C : Addr) : Sp := fun vs H Q E => ∃ (n : Nat) (a : Addr) (ps : List Addr) (rs : List (List Int)) (m : Nat), vs = [.int n, .ref a] ∧ SqL K H a (ps.map V.ref) ∧ RowsL H ps rs ∧ rs.length ≤ 400 ∧ n ≤ 400 ∧ (∀ r ∈ rs, Bdd m r) ∧ (∀ r ∈ rs, r.length ≤ 500) ∧ 1 ≤ m ∧ bz n m ≤ 20000000 ∧
  ((∃ r ∈ rs, r.length ≠ n + 1) → ∀ H', Same H H' → E (.ref C) none H') ∧
  ((∀ r ∈ rs, r.length = n + 1) → ∀ (y : Addr) (d : Int) (bd : List (Nat × List Int)) (rest : List (List Int)) (H' : Hp), H y = none → Same H H' → Fin n rs d bd rest → Sizes (bz n m) d bd rest → AnsOf n d bd rest H' y → Q (.ref y) H')
theorem scSolved : FnScope ["count", "rows"] ["count", "rows"] (defScope sSolved) := ⟨rfl, rfl, rfl, by decide +kernel, rfl, by decide +kernel, by decide +kernel⟩
theorem ok_solved {f fr fa C R : Addr} {fd fdr fda : FuncData} (D : Def K mg "solved" sSolved ["count", "rows"] f fd) (Dr : Def K mg "reduced" sRed ["count", "rows"] fr fdr) (Da : Def K mg "answer_of" sAns ["count", "reduction"] fa fda)
    (GR : FnOk P w K mg base (CXF P w) 5 fr fdr ["count", "rows"] (spRed K C R)) (GA : FnOk P w K mg base CX0 5 fa fda ["count", "reduction"] (spAns R)) : FnOk P w K mg base (CXF P w) 6 f fd ["count", "rows"] (spSolved K C) := by
  refine D.fn.okF scSolved (fun vs H Q E h => ?_) (fun cdv A outer s H vs Q E hr h => ?_)
  · obtain ⟨n, a, ps, rs, m, rfl, _⟩ := h
    rfl
  · obtain ⟨n, a, ps, rs, m, rfl, ha, hR, hl, hn, hbd, hrl, hm, hB, kE, kQ⟩ := h
    refine ⟨_, pss_one (ps_ret (pe_call GA hr (by rfl) Da.mg Da.fn.kp Da.bd .nil pass0 (pa_cons (pv 0) (pa_cons (pe_call GR hr (by rfl) Dr.mg Dr.fn.kp Dr.bd .nil passes_cxOf (pa_cons (pv 0) (pa_cons (pv 1) pa_nil))) pa_nil)))), ?_⟩
    refine ⟨n, a, ps, rs, m, rfl, ha, hR, hl, hn, hbd, hrl, hm, hB, kE, fun hall x d bd rest H1 nx hRed I Z _ _ s1 => ?_⟩
    exact ⟨n, x, d, bd, rest, rs, rfl, hRed, I, hn, hl, fun y H2 ny s2 hA => kQ hall y d bd rest H2 (s1.free ny) (s1.trans s2) I Z hA⟩
theorem cut500 (ns : List Int) (h : ns.length ≤ 63) : cutV (ns.map V.int) none (some 500) = ns.map V.int := by
  unfold cutV
  have e : HT.sIx (ns.map V.int).length 0 none = 0 := rfl
  rw [e]
  have e2 : HT.sIx (ns.map V.int).length (ns.map V.int).length (some 500) = ns.length := by
    simp [HT.sIx]
    (first | lia | omega)
  rw [e2]
  rw [List.drop_zero, Nat.sub_zero, List.take_of_length_le (by simp)]
theorem cutk (ms : List Int) (k : Nat) : cutV (ms.map V.int) (some (k : Int)) none = (ms.drop k).map V.int := by
  unfold cutV
  have e : HT.sIx (ms.map V.int).length 0 (some (k : Int)) = min k ms.length := by
    simp [HT.sIx]
    (first | lia | omega)
  have e2 : HT.sIx (ms.map V.int).length (ms.map V.int).length none = ms.length := by simp [HT.sIx]
  rw [e, e2, List.take_of_length_le (by simp), List.map_drop]
  by_cases h : k ≤ ms.length
  · rw [Nat.min_eq_left h]
  · rw [Nat.min_eq_right (by (first | lia | omega)), List.drop_of_length_le (by simp), List.drop_of_length_le (by rw [List.length_map]; (first | lia | omega))]
theorem mixed_mem (ns : List Int) : ∀ x ∈ mixed ns, 0 ≤ x ∧ x < 1000003 := fun x hx => by
  unfold mixed at hx
  obtain ⟨k, _, rfl⟩ := List.mem_map.mp hx
  exact mixOne_in ns k
theorem getD_in {ms : List Int} (h : ∀ x ∈ ms, 0 ≤ x ∧ x < 1000003) (k : Nat) : 0 ≤ ms.getD k 0 ∧ ms.getD k 0 < 1000003 := by
  rw [List.getD_eq_getElem?_getD]
  cases e : ms[k]? with
  | none => exact ⟨by decide, by decide⟩
  | some x => exact h x (List.mem_of_getElem? e)
theorem int_divInt (r : Int) : (r : Rat) = Rat.divInt r 1 := by have := Rat.num_divInt_den (r : Rat); rw [Rat.num_intCast, Rat.den_intCast] at this; exact this.symm
theorem isW_int {n : Nat} {q : Rat} {x y : Int} (h : IsW n q x y) (r : Int) : decide (x * 1 = r * y) = decide (q = (r : Rat)) := by
  have y0 := h.pos
  rw [decide_eq_decide, ← h.val, int_divInt r, Rat.divInt_eq_divInt_iff (by (first | lia | omega)) (by decide)]
theorem isW_zero {n : Nat} {x y : Int} (h : IsW n 0 x y) : x = 0 := by
  have e := isW_int h 0
  have y0 := h.pos
  have e0 : decide ((0 : Rat) = ((0 : Int) : Rat)) = true := by simp
  rw [e0] at e
  have := of_decide_eq_true e
  (first | lia | omega)
theorem sz_div {t b : Int} {S : Nat} (hb : b ≠ 0) (h1 : t.natAbs < 2 ^ S) (h2 : b.natAbs < 2 ^ S) : Sz S (Rat.divInt t b) := by
  obtain ⟨e1, e2⟩ := frac_ok (t := t) hb
  refine ⟨by rw [← e1]; exact fdiv_lt_pow h1, ?_⟩
  have : ((Rat.divInt t b).den : Int).natAbs < 2 ^ S := by rw [← e2]; exact fdiv_lt_pow h2
  simpa using this
theorem plainCl {f : Expr} {as : List Expr} {ks : List Keyword} {pos} : PlainIx (.Call f as ks pos) := fun _ _ => rfl
theorem row_split {r : List Int} {n : Nat} (h : r.length = n + 1) : r = r.take n ++ [g r n] := by
  have e := List.take_append_drop n r
  have : r.drop n = [g r n] := by
    rw [List.drop_eq_getElem_cons (by (first | lia | omega)), List.drop_of_length_le (by (first | lia | omega))]
    congr 1
    unfold g; rw [List.getD_eq_getElem?_getD, List.getElem?_eq_getElem (by (first | lia | omega))]; rfl
  rw [this] at e; exact e.symm
def spSolves (K : PySem.W.Frag) : Sp := fun vs H Q _ => ∃ (a b : Addr) (r : List Int) (cs : List Addr) (qs : List Rat) (m : Nat), vs = [.ref a, .ref b] ∧ SqL K H a (r.map V.int) ∧ SqL K H b (cs.map V.ref) ∧ FrsAt K H cs qs ∧ r.length = qs.length + 1 ∧
  (∀ n ∈ r, SzI m n) ∧ (∀ q ∈ qs, Sz m q) ∧ 1 ≤ m ∧ m ≤ 1000000 ∧ (qs.length + 1) * (2 * m + 2) ≤ 20000000 ∧
  ∀ H', Same H H' → Q (.bl (decide (dot (r.take qs.length) qs = (g r qs.length : Rat)))) H'
theorem scSolves : FnScope ["_law_row", "_law_point"] ["_law_row", "_law_point"] (defScope sSolves) := ⟨rfl, rfl, rfl, by decide +kernel, rfl, by decide +kernel, by decide +kernel⟩
theorem ok_solves {f fi fw : Addr} {fd fdi fdw : FuncData} (D : Def K mg "_law_solves" sSolves ["_law_row", "_law_point"] f fd) (B : Blt mg) (Di : Def K mg "_law_is" sIs ["_law_one", "_law_two"] fi fdi) (Dw : Def K mg "_law_weight" sWeight ["_law_row", "_law_point"] fw fdw)
    (GI : FnOk P w K mg base CX0 2 fi fdi ["_law_one", "_law_two"] (spIs K)) (GW : FnOk P w K mg base CX0 2 fw fdw ["_law_row", "_law_point"] (spWeight K)) : FnOk P w K mg base CX0 3 f fd ["_law_row", "_law_point"] (spSolves K) := by
  refine D.fn.ok scSolves (fun vs H Q E h => ?_) (fun cdv A outer s H vs Q E hr h => ?_)
  · obtain ⟨a, b, r, cs, qs, m, rfl, _⟩ := h
    rfl
  · obtain ⟨a, b, r, cs, qs, m, rfl, ha, hb, hF, hl, sr, sq, hm1, hm, hsz, k⟩ := h
    refine ⟨_, pss_one (ps_ret (pe_call GI hr (by rfl) Di.mg Di.fn.kp Di.bd .nil pass0 (pa_cons (pe_call GW hr (by rfl) Dw.mg Dw.fn.kp Dw.bd .nil pass0 (pa_cons (pv 0) (pa_cons (pv 1) pa_nil)))
      (pa_cons (pe_tup (pa_cons (pe_ix ix_list (pv 0) (pe_callB call_len_seq (by rfl) B.len bt_len (pa_cons (pv 1) pa_nil)) plainCl) (pa_cons pe_int pa_nil))) pa_nil)))), ?_⟩
    have lc : cs.length = qs.length := hF.len
    have lt : (r.take qs.length).length = qs.length := by rw [List.length_take]; (first | lia | omega)
    refine ⟨a, b, r.take qs.length, [V.int (g r qs.length)], cs, qs, m, rfl, ?_, hb, hF, lt, (fun n hn => sr n (List.mem_of_mem_take hn)), sq, hm1, hm, (by rw [lt]; exact hsz), fun c x y H1 nc ec hW s1 => ?_⟩
    · have := row_split hl
      have e2 : (r.take qs.length).map V.int ++ [V.int (g r qs.length)] = r.map V.int := by
        conv => rhs; rw [this]
        rw [List.map_append]; rfl
      rw [e2]; exact ha
    rw [lt] at hW
    refine ⟨_, .inl (s1.seq hb), _, _, s1.seq ha, (by rw [List.length_map, lc]; exact at_map (by (first | lia | omega))), (by show 2 ≤ sizeLine; decide), fun t ht => ?_⟩
    have st : Same H1 (upd H1 t (.tup [.int (r.getD qs.length 0), .int 1])) := Same.upd ht
    have gb : SzI ((qs.length + 1) * (2 * m + 2)) (r.getD qs.length 0) := by
      have : r.getD qs.length 0 ∈ r := by rw [List.getD_eq_getElem?_getD, List.getElem?_eq_getElem (by (first | lia | omega))]; exact List.getElem_mem _
      refine (sr _ this).mono ?_
      have : 1 * (2 * m + 2) ≤ (qs.length + 1) * (2 * m + 2) := Nat.mul_le_mul_right _ (by (first | lia | omega))
      (first | lia | omega)
    have o1 : SzI ((qs.length + 1) * (2 * m + 2)) 1 := by
      show (1 : Int).natAbs < _
      refine Nat.one_lt_two_pow ?_
      have : 1 * (2 * m + 2) ≤ (qs.length + 1) * (2 * m + 2) := Nat.mul_le_mul_right _ (by (first | lia | omega))
      (first | lia | omega)
    refine ⟨c, t, x, y, _, 1, _, rfl, SqT.of (st _ _ ec), SqT.of upd_same, hW.sx, hW.sy, gb, o1, (by (first | lia | omega)), ?_⟩
    have e := isW_int hW (r.getD qs.length 0)
    rw [e]
    exact k _ (s1.trans st)
structure NevOK (n : Nat) (rs : List (List Int)) (qs : List Rat) : Prop where
  len : qs.length = rs.length
  sum : ∀ j, j ≤ n → dot (colOf rs j) qs = if j = n then 1 else 0
def spNever (K : PySem.W.Frag) : Sp := fun vs H Q _ => ∃ (a b : Addr) (n : Nat) (ps cs : List Addr) (rs : List (List Int)) (qs : List Rat) (m : Nat), vs = [.ref a, .ref b, .int n] ∧ SqL K H a (ps.map V.ref) ∧ RowsAt K H ps rs ∧ H b = some (.lst (cs.map V.ref)) ∧ TupsAt H cs qs ∧ NevOK n rs qs ∧
  (∀ r ∈ rs, n < r.length) ∧ n ≤ 100 ∧ rs.length ≤ 400 ∧ (∀ r ∈ rs, ∀ x ∈ r, SzI m x) ∧ (∀ q ∈ qs, Sz m q) ∧ 1 ≤ m ∧ m ≤ 1000000 ∧ (rs.length + 1) * (2 * m + 2) ≤ 20000000 ∧ ∀ H', Same H H' → Q (.bl true) H'
theorem scNever : FnScope ["_law_rows", "_law_factors", "_law_count", "_law_j", "_law_column"] ["_law_rows", "_law_factors", "_law_count"] (defScope sNever) := ⟨rfl, rfl, rfl, by decide +kernel, rfl, by decide +kernel, by decide +kernel⟩
theorem ok_never {f fi fw fl : Addr} {fd fdi fdw fdl : FuncData} (D : Def K mg "_law_never" sNever ["_law_rows", "_law_factors", "_law_count"] f fd) (B : Blt mg) (Di : Def K mg "_law_is" sIs ["_law_one", "_law_two"] fi fdi) (Dw : Def K mg "_law_weight" sWeight ["_law_row", "_law_point"] fw fdw) (Dl : Def K mg "_law_lows" sLows ["_law_found", "_law_count"] fl fdl)
    (GI : FnOk P w K mg base CX0 3 fi fdi ["_law_one", "_law_two"] (spIs K)) (GW : FnOk P w K mg base CX0 3 fw fdw ["_law_row", "_law_point"] (spWeight K)) (GL : FnOk P w K mg base CX0 3 fl fdl ["_law_found", "_law_count"] spLows) : FnOk P w K mg base CX0 4 f fd ["_law_rows", "_law_factors", "_law_count"] (spNever K) := by
  refine D.fn.ok scNever (fun vs H Q E h => ?_) (fun cdv A outer s H vs Q E hr h => ?_)
  · obtain ⟨a, b, n, ps, cs, rs, qs, m, rfl, _⟩ := h
    rfl
  · obtain ⟨a, b, n, ps, cs, rs, qs, m, rfl, ha, hR, hb, hT, hN, hrn, hn, hrs, sr, sq, hm1, hm, hsz, k⟩ := h
    refine ⟨_, pss_cons (ps_if (pt_not (pt_val (pe_call GL hr (by rfl) Dl.mg Dl.fn.kp Dl.bd .nil pass0 (pa_cons (pv 1) (pa_cons (pe_callB call_len_seq (by rfl) B.len bt_len (pa_cons (pv 0) pa_nil)) pa_nil))))) (pss_one (ps_ret pe_bl)) pss_nil)
      (pss_cons (ps_for PassesOwn.never rfl (pi_range1 (by rfl) B.range (pa_cons (pe_op op_add (pv 2) pe_int) pa_nil)) (pg_name (i := 3) scNever.nd rfl (Or.inr rfl))
        (pss_cons (ps_set (i := 4) scNever.nd rfl (Or.inl rfl) (pe_op op_cat (pe_comp ["_law_row"] [("_law_j", 3)] rfl (compSc_mk (by rfl) (by rfl) (by rfl)) (pi_list (pv 0)) (gk_name (i := 0) (by decide))
            (fun cl C s H fp pins => pg_name (i := 0) (by show (["_law_row", "_law_j"] : List Str).Nodup; decide +kernel) rfl (Or.inl rfl) (Or.inr rfl))
            (fun cl C s H fp pins => pe_ix ixC_list (pv 0) (pv 1) plainN)) (pe_lst (pa_cons pe_int pa_nil))))
        (pss_one (ps_if (pt_not (pt_val (pe_call GI hr (by rfl) Di.mg Di.fn.kp Di.bd .nil pass0 (pa_cons (pe_call GW hr (by rfl) Dw.mg Dw.fn.kp Dw.bd .nil pass0 (pa_cons (pv 4) (pa_cons (pv 1) pa_nil)))
            (pa_cons (pe_tup (pa_cons (pe_callTy call_int1 (by rfl) B.int bt_int (pa_cons (pe_cmpR op_eq (pv 3) (pv 2) (nomark _)) pa_nil)) (pa_cons pe_int pa_nil))) pa_nil))))) (pss_one (ps_ret pe_bl)) pss_nil))))
      (pss_one (ps_ret pe_bl))), ?_⟩
    dsimp only [cxOf_K]
    have lp := hR.len
    have lT := Paired.length hT
    have lN := hN.len
    have hR0 := hR
    refine ⟨_, .inl ha, b, cs, qs, _, rfl, hb, hT, (by rw [List.length_map]; (first | lia | omega)), _, rfl, iteF' rfl ?_⟩
    refine ⟨_, rfl, (by (first | lia | omega)), (by (first | lia | omega)), ?_⟩
    have en : ((n : Int) + 1).toNat = n + 1 := by (first | lia | omega)
    rw [en]
    refine for_range (fun i σ H' => ∃ (x3 x4 : Option V), σ = [some (.ref a), some (.ref b), some (.int n), x3, x4] ∧ Same H H') ⟨none, none, rfl, Same.refl _⟩ ?_ ?_
    · rintro j σ H' hj ⟨x3, x4, rfl, sm⟩
      have ej : (0 : Int) + (j : Int) = (j : Int) := Int.zero_add _
      show gName 3 (.int (0 + (j : Int))) _ _ _
      rw [ej]
      refine ⟨a, rfl, ⟨_, sm.seq ha⟩, fun Da hD => ?_⟩
      refine comp_list (K := K) (a := a) (xs := ps.map V.ref) (Q := fun x H1 => tLst (tCons (tC (V.int 0)) tNil) _ H1 fun y H2 => rCat x y H2 _) (fun i ys H2 => Same H' H2 ∧ H2 Da = some (.lst ys) ∧ ys = ((colOf rs j).take i).map V.int) ⟨Same.upd hD, upd_same, by simp⟩ ?_ ?_ ?_
      · rintro i ys H2 hi ⟨s2, e2, rfl⟩
        refine ⟨e2, ?_, (sm.trans s2).seq ha⟩
        rw [List.length_map, List.length_take]
        unfold colOf
        rw [List.length_map]
        exact small1000 (by (first | lia | omega))
      · rintro i x ys H2 hx ⟨s2, e2, rfl⟩
        rw [List.getElem?_map] at hx
        cases ep : ps[i]? with
        | none => rw [ep] at hx; cases hx
        | some p =>
          rw [ep] at hx
          have hx' : x = V.ref p := (Option.some.inj hx).symm
          subst hx'
          obtain ⟨r, er, hp⟩ := hR.get ep
          have hrm := List.mem_of_getElem? er
          have hr1 := hrn r hrm
          refine ⟨_, _, (sm.trans s2).seq hp, at_map (by (first | lia | omega)), e2, ?_⟩
          refine ⟨s2.updn hD, upd_same, ?_⟩
          have ec : (colOf rs j)[i]? = some (r.getD j 0) := by unfold colOf; rw [List.getElem?_map, er]; rfl
          rw [take_snoc ec, List.map_append]
          rfl
      · rintro ys H2 ⟨s2, e2, rfl⟩
        have lcol : (ps.map V.ref).length = (colOf rs j).length := by unfold colOf; rw [List.length_map, List.length_map]; (first | lia | omega)
        rw [lcol, List.take_length] at e2
        refine ⟨(by show 1 ≤ sizeLine; decide), fun l1 h1 => ⟨Da, l1, _, _, rfl, rfl, (Same.upd h1) _ _ e2, upd_same, ?_, fun c hc => ?_⟩⟩
        · rw [List.length_map]; unfold colOf; rw [List.length_map]; show rs.length + 1 ≤ sizeLine; exact Nat.le_of_lt (small1000 (by (first | lia | omega)))
        have s3 := s2.trans ((Same.upd (o := .lst [.int 0]) h1).trans (Same.upd (o := .lst ((colOf rs j).map V.int ++ [.int 0])) hc))
        have s4 := sm.trans s3
        have ec : (upd (upd H2 l1 (.lst [.int 0])) c (.lst ((colOf rs j).map V.int ++ [V.int 0]))) c = some (.lst ((colOf rs j).map V.int ++ [V.int 0])) := upd_same
        generalize upd (upd H2 l1 (.lst [.int 0])) c (.lst ((colOf rs j).map V.int ++ [V.int 0])) = H3 at s3 s4 ec ⊢
        have lco : (colOf rs j).length = rs.length := by unfold colOf; rw [List.length_map]
        refine ⟨c, b, colOf rs j, [V.int 0], cs, qs, m, rfl, SqL.of ec, SqL.of (s4 _ _ hb), (hT.same s4).frs, (by (first | lia | omega)), ?_, sq, hm1, hm, (by rw [lco]; exact hsz), fun q x y H5 nq eq hW s5 => ?_⟩
        · intro v hv
          unfold colOf at hv
          obtain ⟨r, hr', rfl⟩ := List.mem_map.mp hv
          have hi' : j < r.length := by have := hrn r hr'; (first | lia | omega)
          exact sr r hr' _ (by rw [List.getD_eq_getElem?_getD, List.getElem?_eq_getElem hi']; exact List.getElem_mem hi')
        rw [lco, hN.sum j (by (first | lia | omega))] at hW
        refine (.inr ⟨_, rfl, ?_⟩)
        refine ⟨(by show 2 ≤ sizeLine; decide), fun t ht => ?_⟩
        have big : 1 * (2 * m + 2) ≤ (rs.length + 1) * (2 * m + 2) := Nat.mul_le_mul_right _ (by (first | lia | omega))
        have o1 : SzI ((rs.length + 1) * (2 * m + 2)) 1 := by
          show (1 : Int).natAbs < _
          exact Nat.one_lt_two_pow (by (first | lia | omega))
        have o0 : SzI ((rs.length + 1) * (2 * m + 2)) 0 := Nat.two_pow_pos _
        by_cases hjn : j = n
        · rw [if_pos hjn] at hW
          have eb : decide (V.int (j : Int) = V.int (n : Int)) = true := by simp [hjn]
          refine ⟨q, t, x, y, 1, 1, _, rfl, SqT.of ((Same.upd ht) _ _ eq), ?_, hW.sx, hW.sy, o1, o1, (by (first | lia | omega)), _, rfl, ?_⟩
          · refine SqT.of ?_
            rw [upd_same, eb]
            rfl
          have e := isW_int hW 1
          refine iteF' (by rw [e]; simp) ⟨_, _, rfl, s4.trans (s5.trans (Same.upd ht))⟩
        · rw [if_neg hjn] at hW
          have eb : decide (V.int (j : Int) = V.int (n : Int)) = false := by simp; (first | lia | omega)
          refine ⟨q, t, x, y, 0, 1, _, rfl, SqT.of ((Same.upd ht) _ _ eq), ?_, hW.sx, hW.sy, o0, o1, (by (first | lia | omega)), _, rfl, ?_⟩
          · refine SqT.of ?_
            rw [upd_same, eb]
            rfl
          have e := isW_int hW 0
          refine iteF' (by rw [e]; simp) ⟨_, _, rfl, s4.trans (s5.trans (Same.upd ht))⟩
    · rintro σ H' ⟨x3, x4, rfl, sm⟩
      exact k H' sm
theorem plainS {e i : Expr} {pos} : PlainIx (.Subscript e i pos) := fun _ _ => rfl
def gq (qs : List Rat) (k : Nat) : Rat := qs.getD k 0
theorem TupsAt.gq {H : Hp} {cs : List Addr} {qs : List Rat} {k : Nat} (h : TupsAt H cs qs) (hk : k < qs.length) : ∃ c, cs[k]? = some c ∧ H c = some (.tup (FrT (gq qs k))) := by
  have hl := Paired.length h
  have hc : cs[k]? = some (cs[k]'(by (first | lia | omega))) := List.getElem?_eq_getElem (by (first | lia | omega))
  obtain ⟨q, eq, e⟩ := h.get hc
  refine ⟨_, hc, ?_⟩
  have : Ev.gq qs k = q := by unfold Ev.gq; rw [List.getD_eq_getElem?_getD, eq]; rfl
  rw [this]; exact e
theorem inV_map (k : Nat) : ∀ fs : List Nat, inV (.int (k : Int)) (fs.map fun f : Nat => V.int (f : Int)) = decide (k ∈ fs)
  | [] => rfl
  | f :: fs => by
    have ih := inV_map k fs
    unfold inV at ih ⊢
    rw [List.map_cons, List.any_cons, ih]
    show ((f : Int) == (k : Int) || decide (k ∈ fs)) = decide (k ∈ f :: fs)
    by_cases e : f = k
    · subst e; simp
    · have : ((f : Int) == (k : Int)) = false := by simp; (first | lia | omega)
      rw [this, Bool.false_or, decide_eq_decide]
      rw [List.mem_cons]
      exact ⟨.inr, fun z => z.resolve_left fun q => e q.symm⟩
theorem flat_map (fs : List Nat) : (fs.map fun f : Nat => V.int (f : Int)).all flatV = true := by
  rw [List.all_eq_true]
  intro x hx
  obtain ⟨f, _, rfl⟩ := List.mem_map.mp hx
  rfl
structure WayOK (n : Nat) (rs : List (List Int)) (fs : List Nat) (f : Nat) (qs : List Rat) : Prop where
  len : qs.length = n
  fn : f < n
  one : gq qs f = 1
  nil : ∀ k, k < n → k ≠ f → (k ∈ fs ∨ f < k) → gq qs k = 0
  sum : ∀ r ∈ rs, dot (r.take n) qs = 0
structure SolOK (n : Nat) (rs : List (List Int)) (pt : List Rat) (fs : List Nat) (F : Nat → List Rat) : Prop where
  len : pt.length = n
  up : fs.Pairwise (· < ·)
  fn : ∀ f ∈ fs, f < n
  fz : ∀ f ∈ fs, gq pt f = 0
  sol : ∀ r ∈ rs, dot (r.take n) pt = (g r n : Rat)
  way : ∀ f ∈ fs, WayOK n rs fs f (F f)
structure RowsOK (K : PySem.W.Frag) (H : Hp) (a : Addr) (n : Nat) (rs : List (List Int)) (m : Nat) : Prop where
  at_ : ∃ ps : List Addr, SqL K H a (ps.map V.ref) ∧ RowsAt K H ps rs
  len : ∀ r ∈ rs, r.length = n + 1
  n100 : n ≤ 100
  r400 : rs.length ≤ 400
  sz : ∀ r ∈ rs, ∀ x ∈ r, SzI m x
  m1 : 1 ≤ m
  m2 : m ≤ 1000000
  fit : (n + 1) * (2 * m + 2) ≤ 20000000
  fit2 : (rs.length + 1) * (2 * m + 2) ≤ 20000000
theorem RowsOK.same {H H' : Hp} {a : Addr} {n m : Nat} {rs : List (List Int)} (h : RowsOK K H a n rs m) (s : Same H H') : RowsOK K H' a n rs m :=
  ⟨let ⟨ps, h1, h2⟩ := h.at_; ⟨ps, s.seq h1, h2.same s⟩, h.len, h.n100, h.r400, h.sz, h.m1, h.m2, h.fit, h.fit2⟩
def spWayH (K : PySem.W.Frag) : Sp := fun vs H Q _ => ∃ (w a fl : Addr) (n f m : Nat) (rs : List (List Int)) (fs : List Nat) (qs : List Rat), vs = [.ref w, .ref a, .int n, .ref fl] ∧ WayAt H w f qs ∧ RowsOK K H a n rs m ∧ SqL K H fl (fs.map fun f : Nat => V.int (f : Int)) ∧ WayOK n rs fs f qs ∧ (∀ q ∈ qs, Sz m q) ∧
  ∀ H', Same H H' → Q (.bl true) H'
theorem scWayH : FnScope ["_law_found", "_law_rows", "_law_count", "_law_frees", "_law_way", "_law_k", "_law_row"] ["_law_found", "_law_rows", "_law_count", "_law_frees"] (defScope sWayH) := ⟨rfl, rfl, rfl, by decide +kernel, rfl, by decide +kernel, by decide +kernel⟩
theorem ok_wayH {f fw fl : Addr} {fd fdw fdl : FuncData} (D : Def K mg "_law_way_holds" sWayH ["_law_found", "_law_rows", "_law_count", "_law_frees"] f fd) (B : Blt mg) (Dw : Def K mg "_law_weight" sWeight ["_law_row", "_law_point"] fw fdw) (Dl : Def K mg "_law_lows" sLows ["_law_found", "_law_count"] fl fdl)
    (GW : FnOk P w K mg base CX0 3 fw fdw ["_law_row", "_law_point"] (spWeight K)) (GL : FnOk P w K mg base CX0 3 fl fdl ["_law_found", "_law_count"] spLows) : FnOk P w K mg base CX0 4 f fd ["_law_found", "_law_rows", "_law_count", "_law_frees"] (spWayH K) := by
  refine D.fn.ok scWayH (fun vs H Q E h => ?_) (fun cdv A outer s H vs Q E hr h => ?_)
  · obtain ⟨w, a, fl, n, f, m, rs, fs, qs, rfl, _⟩ := h
    rfl
  · obtain ⟨w, a, fl, n, f, m, rs, fs, qs, rfl, ⟨l, cs, hw, hl, hT⟩, RO, hfl, WO, sq, k⟩ := h
    have hu := Nat.lt_of_succ_lt (hu_of hr)
    obtain ⟨ps, ha, hR⟩ := RO.at_
    refine ⟨_, pss_cons (ps_set (i := 4) scWayH.nd rfl (Or.inl rfl) (pe_ix ix_tup (pv 0) pe_int plainC))
      (pss_cons (ps_if (PW.pt (pw_or (pt_not (pt_val (pe_call GL hr (by rfl) Dl.mg Dl.fn.kp Dl.bd .nil pass0 (pa_cons (pv 4) (pa_cons (pv 2) pa_nil))))) (pw_or1 (pt_cmpR (op_neT hu) (pe_ix ix_list (pv 4) (pe_ix ix_tup (pv 0) pe_int plainC) plainS) (pe_tup (pa_cons pe_int (pa_cons pe_int pa_nil))) (nomark _))))) (pss_one (ps_ret pe_bl)) pss_nil)
      (pss_cons (ps_for PassesOwn.never rfl (pi_range1 (by rfl) B.range (pa_cons (pv 2) pa_nil)) (pg_name (i := 5) scWayH.nd rfl (Or.inl rfl))
        (pss_one (ps_if (PW.pt (pw_and (pt_cmpR op_ne (pv 5) (pe_ix ix_tup (pv 0) pe_int plainC) (nomark _)) (pw_and (PW.pt (pw_or (pt_cmpR op_in_seq (pv 5) (pv 3) (by with_unfolding_all rfl)) (pw_or1 (pt_cmpR op_gt (pv 5) (pe_ix ix_tup (pv 0) pe_int plainC) (nomark _)))))
          (pw_and1 (pt_cmpR (op_neT hu) (pe_ix ix_list (pv 4) (pv 5) plainN) (pe_tup (pa_cons pe_int (pa_cons pe_int pa_nil))) (nomark _)))))) (pss_one (ps_ret pe_bl)) pss_nil)))
      (pss_cons (ps_for PassesOwn.never rfl (pi_list (pv 1)) (pg_name (i := 6) scWayH.nd rfl (Or.inl rfl))
        (pss_one (ps_if (pt_cmpR op_ne (pe_ix ix_tup (pe_call GW hr (by rfl) Dw.mg Dw.fn.kp Dw.bd .nil pass0 (pa_cons (pv 6) (pa_cons (pv 4) pa_nil))) pe_int plainC) pe_int (nomark _)) (pss_one (ps_ret pe_bl)) pss_nil)))
      (pss_one (ps_ret pe_bl))))), ?_⟩
    dsimp only [cxOf_K]
    have hfn := WO.fn
    have n100 := RO.n100
    have hqn := WO.len
    have lcs : cs.length = n := by have := Paired.length hT; (first | lia | omega)
    obtain ⟨cf, ecf, hcf⟩ := hT.gq (k := f) (by (first | lia | omega))
    have hwS : SqT K H w [.int f, .ref l] := SqT.of hw
    refine ⟨_, _, hwS, rfl, ?_⟩
    refine ⟨l, cs, qs, _, rfl, hl, hT, (by (first | lia | omega)), _, rfl, iteF' rfl ?_⟩
    refine ⟨_, _, hwS, rfl, _, _, SqL.of hl, at_mapR ecf, (by show 2 ≤ sizeLine; decide), fun t1 ht1 => ?_⟩
    have s1 : Same H (upd H t1 (.tup [.int 1, .int 1])) := Same.upd ht1
    refine ⟨cf, t1, [(gq qs f).num, ((gq qs f).den : Int)], [1, 1], rfl, rfl, SqT.of (s1 _ _ hcf), SqT.of upd_same, _, rfl, iteF' ?_ ?_⟩
    · rw [WO.one]; rfl
    refine ⟨_, rfl, (by (first | lia | omega)), (by (first | lia | omega)), ?_⟩
    have en : ((n : Int)).toNat = n := by (first | lia | omega)
    rw [en]
    refine for_range (fun i σ H' => ∃ x5 : Option V, σ = [some (.ref w), some (.ref a), some (.int n), some (.ref fl), some (.ref l), x5, none] ∧ Same H H') ⟨none, rfl, s1⟩ ?_ ?_
    · rintro k' σ H' hk' ⟨x5, rfl, sm⟩
      have ek : (0 : Int) + (k' : Int) = (k' : Int) := Int.zero_add _
      show gName 5 (.int (0 + (k' : Int))) _ _ _
      rw [ek]
      have w' := sm.tup hwS
      refine ⟨_, _, w', rfl, _, rfl, ?_⟩
      by_cases hkf : k' = f
      · refine iteF' (by simp [hkf]) (iteF' rfl ⟨_, rfl, sm⟩)
      refine iteT' (by simp; (first | lia | omega)) ?_
      refine ⟨fl, _, rfl, .inl (sm.seq hfl), rfl, flat_map fs, _, rfl, ?_⟩
      have ein : inV (.int (k' : Int)) (fs.map fun f : Nat => V.int (f : Int)) = decide (k' ∈ fs) := inV_map k' fs
      have fin : gq qs k' = 0 → ∃ c, cs[k']? = some c ∧ H' c = some (.tup (FrT 0)) := fun z => by
        obtain ⟨c, ec, hc⟩ := hT.gq (k := k') (by (first | lia | omega))
        rw [z] at hc
        exact ⟨c, ec, sm _ _ hc⟩
      by_cases hin : k' ∈ fs
      · refine iteT' (by show inV _ _ = true; rw [ein, decide_eq_true hin]) (iteT' rfl ?_)
        obtain ⟨c, ec, hc⟩ := fin (WO.nil k' hk' hkf (.inl hin))
        refine ⟨_, _, SqL.of (sm _ _ hl), at_mapR ec, (by show 2 ≤ sizeLine; decide), fun t2 ht2 => ?_⟩
        have s2 : Same H' (upd H' t2 (.tup [.int 0, .int 1])) := Same.upd ht2
        exact ⟨c, t2, [0, 1], [0, 1], rfl, rfl, SqT.of (s2 _ _ hc), SqT.of upd_same, _, rfl, iteF' rfl ⟨_, rfl, sm.trans s2⟩⟩
      · refine iteF' (by show inV _ _ = false; rw [ein, decide_eq_false hin]) ?_
        refine ⟨_, _, w', rfl, _, rfl, ?_⟩
        by_cases hgt : f < k'
        · refine iteT' (by simp; (first | lia | omega)) ?_
          obtain ⟨c, ec, hc⟩ := fin (WO.nil k' hk' hkf (.inr hgt))
          refine ⟨_, _, SqL.of (sm _ _ hl), at_mapR ec, (by show 2 ≤ sizeLine; decide), fun t2 ht2 => ?_⟩
          have s2 : Same H' (upd H' t2 (.tup [.int 0, .int 1])) := Same.upd ht2
          exact ⟨c, t2, [0, 1], [0, 1], rfl, rfl, SqT.of (s2 _ _ hc), SqT.of upd_same, _, rfl, iteF' rfl ⟨_, rfl, sm.trans s2⟩⟩
        · exact iteF' (by simp; (first | lia | omega)) (iteF' rfl ⟨_, rfl, sm⟩)
    · rintro σ H' ⟨x5, rfl, sm⟩
      refine ⟨a, rfl, ⟨_, sm.seq ha⟩, ?_⟩
      refine for_list (xs := ps.map V.ref) (fun i σ H2 => ∃ x6 : Option V, σ = [some (.ref w), some (.ref a), some (.int n), some (.ref fl), some (.ref l), x5, x6] ∧ Same H H2) ⟨none, rfl, sm⟩ (fun i σ H2 _ ⟨_, _, s2⟩ => s2.seq ha) ?_ ?_
      · rintro i x σ H2 hx ⟨x6, rfl, s2⟩
        rw [List.getElem?_map] at hx
        cases ep : ps[i]? with
        | none => rw [ep] at hx; cases hx
        | some p =>
          rw [ep] at hx
          have hx' : x = V.ref p := (Option.some.inj hx).symm
          subst hx'
          obtain ⟨r, er, hp⟩ := hR.get ep
          have hrm := List.mem_of_getElem? er
          have lr := RO.len r hrm
          have lt : (r.take n).length = n := by rw [List.length_take]; (first | lia | omega)
          refine ⟨p, l, r.take n, [V.int (g r n)], cs, qs, m, rfl, ?_, SqL.of (s2 _ _ hl), (hT.same s2).frs, (by (first | lia | omega)), (fun v hv => RO.sz r hrm v (List.mem_of_mem_take hv)), sq, RO.m1, RO.m2, (by rw [lt]; exact RO.fit), fun c x y H3 nc ec hW s3 => ?_⟩
          · have e2 : (r.take n).map V.int ++ [V.int (g r n)] = r.map V.int := by
              conv => rhs; rw [row_split lr]
              rw [List.map_append]; rfl
            rw [e2]; exact s2.seq hp
          rw [WO.sum r hrm] at hW
          have x0 := isW_zero hW
          exact ⟨_, _, SqT.of ec, rfl, _, rfl, iteF' (by simp [x0]) ⟨_, rfl, s2.trans s3⟩⟩
      · rintro σ H2 ⟨x6, rfl, s2⟩
        exact k H2 s2
theorem kit_ss (K : PySem.W.Frag) : PySem.W.kitOne K (.type "str") (.type "str") = some true := by
  show (if (Value.type "str" == Value.type "str") = true then some true else _) = some true
  rw [if_pos (by decide)]
theorem last_of (fs : List Nat) (i : Nat) (f : Nat) (hu : fs.Pairwise (· < ·)) (e : fs[i]? = some f) : ∃ v : Int, atI ([V.int (-1)] ++ (fs.take i).map fun f : Nat => V.int (f : Int)) (-1) = some (.int v) ∧ v < (f : Int) := by
  have hi : i < fs.length := (List.getElem?_eq_some_iff.mp e).1
  have len : ([V.int (-1)] ++ (fs.take i).map fun f : Nat => V.int (f : Int)).length = i + 1 := by simp; (first | lia | omega)
  cases i with
  | zero => exact ⟨-1, rfl, by (first | lia | omega)⟩
  | succ j =>
    have hj : j < fs.length := by (first | lia | omega)
    have ej : fs[j]? = some fs[j] := List.getElem?_eq_getElem hj
    refine ⟨(fs[j] : Int), ?_, ?_⟩
    · refine at_neg (k := 1) (by decide) (by rw [len]; (first | lia | omega)) ?_
      rw [len]
      show ([V.int (-1)] ++ (fs.take (j + 1)).map fun f : Nat => V.int (f : Int))[j + 1]? = _
      rw [List.getElem?_append_right (by simp), List.length_singleton, Nat.add_sub_cancel, List.getElem?_map, List.getElem?_take, if_pos (by (first | lia | omega)), ej]
      rfl
    · have ef : fs[j + 1] = f := (List.getElem?_eq_some_iff.mp e).2
      have := List.pairwise_iff_getElem.mp hu j (j + 1) hj hi (by (first | lia | omega))
      rw [ef] at this
      (first | lia | omega)
theorem len_up : ∀ (fs : List Nat) {n : Nat}, fs.Pairwise (· < ·) → (∀ f ∈ fs, f < n) → fs.length ≤ n := by
  intro fs n hu hn
  have key : ∀ (fs : List Nat) (lo : Nat), fs.Pairwise (· < ·) → (∀ f ∈ fs, lo ≤ f ∧ f < n) → lo ≤ n → fs.length + lo ≤ n := by
    intro fs
    induction fs with
    | nil => intro lo _ _ h; simpa using h
    | cons f fs ih =>
      intro lo hp hb _
      rw [List.pairwise_cons] at hp
      have h0 := hb f (by simp)
      have := ih (f + 1) hp.2 (fun g hg => ⟨hp.1 g hg, (hb g (by simp [hg])).2⟩) (by (first | lia | omega))
      simp only [List.length_cons]
      (first | lia | omega)
  have := key fs 0 hu (fun f hf => ⟨Nat.zero_le _, hn f hf⟩) (Nat.zero_le _)
  (first | lia | omega)
def spAll (K : PySem.W.Frag) : Sp := fun vs H Q _ => ∃ (y a : Addr) (n m : Nat) (rs : List (List Int)) (pt : List Rat) (fs : List Nat) (F : Nat → List Rat), vs = [.ref y, .ref a, .int n] ∧ SolAt H y pt fs F ∧ RowsOK K H a n rs m ∧ SolOK n rs pt fs F ∧ (∀ q ∈ pt, Sz m q) ∧ (∀ f ∈ fs, ∀ q ∈ F f, Sz m q) ∧
  ∀ H', Same H H' → Q (.bl true) H'
theorem scAll : FnScope ["_law_found", "_law_rows", "_law_count", "_law_frees", "_law_pair", "_law_row"] ["_law_found", "_law_rows", "_law_count"] (defScope sAll) := ⟨rfl, rfl, rfl, by decide +kernel, rfl, by decide +kernel, by decide +kernel⟩
theorem WaysAt.get {H : Hp} {ws : List Addr} {fs : List Nat} {F : Nat → List Rat} : ∀ {i : Nat} {w : Addr}, WaysAt H ws fs F → ws[i]? = some w → ∃ f, fs[i]? = some f ∧ WayAt H w f (F f) := by
  intro i w h
  unfold WaysAt at h
  induction h generalizing i with
  | nil => intro e; simp at e
  | cons r t ih =>
    intro e
    cases i with
    | zero => simp at e; subst e; exact ⟨_, rfl, r⟩
    | succ i =>
      obtain ⟨f, h1, h2⟩ := ih (i := i) (by simpa using e)
      exact ⟨f, by simpa using h1, h2⟩
theorem ok_all {f fl fw fh fs' : Addr} {fd fdl fdw fdh fds : FuncData} (D : Def K mg "_law_all" sAll ["_law_found", "_law_rows", "_law_count"] f fd) (B : Blt mg) (Dl : Def K mg "_law_lows" sLows ["_law_found", "_law_count"] fl fdl) (Dw : Def K mg "_law_whole" sWhole ["_law_found"] fw fdw)
    (Dh : Def K mg "_law_way_holds" sWayH ["_law_found", "_law_rows", "_law_count", "_law_frees"] fh fdh) (Ds : Def K mg "_law_solves" sSolves ["_law_row", "_law_point"] fs' fds)
    (GL : FnOk P w K mg base CX0 4 fl fdl ["_law_found", "_law_count"] spLows) (GW : FnOk P w K mg base CX0 4 fw fdw ["_law_found"] spWhole) (GH : FnOk P w K mg base CX0 4 fh fdh ["_law_found", "_law_rows", "_law_count", "_law_frees"] (spWayH K)) (GS : FnOk P w K mg base CX0 4 fs' fds ["_law_row", "_law_point"] (spSolves K)) :
    FnOk P w K mg base CX0 5 f fd ["_law_found", "_law_rows", "_law_count"] (spAll K) := by
  refine D.fn.ok scAll (fun vs H Q E h => ?_) (fun cdv A outer s H vs Q E hr h => ?_)
  · obtain ⟨y, a, n, m, rs, pt, fs, F, rfl, _⟩ := h
    rfl
  · obtain ⟨y, a, n, m, rs, pt, fs, F, rfl, ⟨l, wl, cs, ws, hy, hl, hT, hwl, hW⟩, RO, SO, sp, sF, k⟩ := h
    have hu := Nat.lt_of_succ_lt (hu_of hr)
    obtain ⟨ps, ha, hR⟩ := RO.at_
    refine ⟨_, pss_cons (ps_if (PW.pt (pw_or (pt_cmpR op_ne (pe_callB call_len_seq (by rfl) B.len bt_len (pa_cons (pv 0) pa_nil)) pe_int (nomark _)) (pw_or (pt_not (pt_val (pe_call GL hr (by rfl) Dl.mg Dl.fn.kp Dl.bd .nil pass0 (pa_cons (pe_ix ix_tup (pv 0) pe_int plainC) (pa_cons (pv 2) pa_nil)))))
        (pw_or1 (pt_not (pt_val (pe_callB call_isi (by rfl) B.isi bt_isi (pa_cons (pe_ix ix_tup (pv 0) pe_int plainC) (pa_cons (pe_bltn (v := .ty "list") (by rfl) B.list bt_list rfl) pa_nil))))))))) (pss_one (ps_ret pe_bl)) pss_nil)
      (pss_cons (ps_set (i := 3) scAll.nd rfl (Or.inl rfl) (pe_lst pa_nil))
      (pss_cons (ps_for PassesOwn.never rfl (pi_list (pe_ix ix_tup (pv 0) pe_int plainC)) (pg_name (i := 4) scAll.nd rfl (Or.inl rfl))
        (pss_cons (ps_if (PW.pt (pw_or (pt_not (pt_val (pe_callB call_isi (by rfl) B.isi bt_isi (pa_cons (pv 4) (pa_cons (pe_bltn (v := .ty "tuple") (by rfl) B.tuple bt_tuple rfl) pa_nil))))) (pw_or (pt_cmpR op_ne (pe_callB call_len_seq (by rfl) B.len bt_len (pa_cons (pv 4) pa_nil)) pe_int (nomark _))
            (pw_or1 (pt_not (pt_val (pe_call GW hr (by rfl) Dw.mg Dw.fn.kp Dw.bd .nil pass0 (pa_cons (pe_ix ix_tup (pv 4) pe_int plainC) pa_nil)))))))) (pss_one (ps_ret pe_bl)) pss_nil)
        (pss_cons (ps_if (PW.pt (pw_or (pt_cmpR op_lt (pe_ix ix_tup (pv 4) pe_int plainC) pe_int (nomark _)) (pw_or (pt_cmpR op_ge (pe_ix ix_tup (pv 4) pe_int plainC) (pv 2) (nomark _))
            (pw_or1 (pt_cmpR op_le (pe_ix ix_tup (pv 4) pe_int plainC) (pe_ix ix_list (pe_op op_cat (pe_lst (pa_cons (pe_un un_neg pe_int) pa_nil)) (pv 3)) (pe_un un_neg pe_int) plainU) (nomark _)))))) (pss_one (ps_ret pe_bl)) pss_nil)
        (pss_one (ps_expr (pe_bm PySem.F.plainAttrs_list PySem.F.slot_list_append PySem.F.type_list_append mt_append (pv 3) (pa_cons (pe_ix ix_tup (pv 4) pe_int plainC) pa_nil)))))))
      (pss_cons (ps_for PassesOwn.never rfl (pi_list (pe_ix ix_tup (pv 0) pe_int plainC)) (pg_name (i := 4) scAll.nd rfl (Or.inl rfl))
        (pss_one (ps_if (PW.pt (pw_or (pt_not (pt_val (pe_call GH hr (by rfl) Dh.mg Dh.fn.kp Dh.bd .nil pass0 (pa_cons (pv 4) (pa_cons (pv 1) (pa_cons (pv 2) (pa_cons (pv 3) pa_nil)))))))
          (pw_or1 (pt_cmpR (op_neT hu) (pe_ix ix_list (pe_ix ix_tup (pv 0) pe_int plainC) (pe_ix ix_tup (pv 4) pe_int plainC) plainS) (pe_tup (pa_cons pe_int (pa_cons pe_int pa_nil))) (nomark _))))) (pss_one (ps_ret pe_bl)) pss_nil)))
      (pss_cons (ps_for PassesOwn.never rfl (pi_list (pv 1)) (pg_name (i := 5) scAll.nd rfl (Or.inl rfl))
        (pss_one (ps_if (pt_not (pt_val (pe_call GS hr (by rfl) Ds.mg Ds.fn.kp Ds.bd .nil pass0 (pa_cons (pv 5) (pa_cons (pe_ix ix_tup (pv 0) pe_int plainC) pa_nil))))) (pss_one (ps_ret pe_bl)) pss_nil)))
      (pss_one (ps_ret pe_bl)))))), ?_⟩
    have ySq : SqT K H y [.str "solved", .ref l, .ref wl] := SqT.of hy
    have lcs : cs.length = n := by have := Paired.length hT; have := SO.len; (first | lia | omega)
    have lws : ws.length = fs.length := Paired.length hW
    have lfs : fs.length ≤ n := len_up fs SO.up SO.fn
    have n100 := RO.n100
    refine ⟨_, .inr ySq, _, rfl, iteF' (by simp) ?_⟩
    refine ⟨_, _, ySq, rfl, l, cs, pt, _, rfl, hl, hT, (by (first | lia | omega)), _, rfl, iteF' rfl ?_⟩
    refine ⟨_, _, ySq, rfl, _, _, _, _, rfl, .lst hwl, kit_ll K, _, rfl, iteF' rfl ?_⟩
    refine ⟨(by show 0 ≤ sizeLine; decide), fun fl hfl => ?_⟩
    have s0 : Same H (upd H fl (.lst [])) := Same.upd hfl
    refine ⟨_, _, s0.tup ySq, rfl, wl, rfl, ⟨_, SqL.of (s0 _ _ hwl)⟩, ?_⟩
    refine for_list (xs := ws.map V.ref) (fun i σ H' => ∃ x4 : Option V, σ = [some (.ref y), some (.ref a), some (.int n), some (.ref fl), x4, none] ∧ Same H H' ∧ H' fl = some (.lst ((fs.take i).map fun f : Nat => V.int (f : Int)))) ⟨none, rfl, s0, upd_same⟩ (fun i σ H' _ ⟨_, _, s1, _⟩ => SqL.of (s1 _ _ hwl)) ?_ ?_
    · rintro i x σ H' hx ⟨x4, rfl, sm, ef⟩
      rw [List.getElem?_map] at hx
      cases ep : ws[i]? with
      | none => rw [ep] at hx; cases hx
      | some p =>
        rw [ep] at hx
        have hx' : x = V.ref p := (Option.some.inj hx).symm
        subst hx'
        obtain ⟨fr, efr, l2, cs2, hp, hl2, hT2⟩ := hW.get ep
        have hfm := List.mem_of_getElem? efr
        have hfn := SO.fn fr hfm
        have hp' := sm _ _ hp
        have pSq : SqT K H' p [.int fr, .ref l2] := SqT.of hp'
        have hi : i < fs.length := (List.getElem?_eq_some_iff.mp efr).1
        refine ⟨_, _, _, _, rfl, .tup hp', kit_tt K, _, rfl, iteF' rfl ?_⟩
        refine ⟨_, .inr pSq, _, rfl, iteF' (by simp) ?_⟩
        refine ⟨_, _, pSq, rfl, fr, rfl, _, rfl, iteF' rfl ?_⟩
        refine ⟨_, _, pSq, rfl, _, rfl, iteF' (by simp) ?_⟩
        refine ⟨_, _, pSq, rfl, _, rfl, iteF' (by simp; (first | lia | omega)) ?_⟩
        refine ⟨_, _, pSq, rfl, (by show 1 ≤ sizeLine; decide), fun q1 n1 => ?_⟩
        have s1 : Same H' (upd H' q1 (.lst [.int (-1)])) := Same.upd n1
        refine ⟨q1, fl, _, _, rfl, rfl, upd_same, s1 _ _ ef, ?_, fun q2 n2 => ?_⟩
        · simp; exact Nat.le_of_lt (small1000 (by (first | lia | omega)))
        have s2 := s1.trans (Same.upd (o := .lst ([.int (-1)] ++ (fs.take i).map fun f : Nat => V.int (f : Int))) n2)
        obtain ⟨v, ev, hv⟩ := last_of fs i fr SO.up efr
        refine ⟨_, _, SqL.of upd_same, ev, _, rfl, iteF' (by simp; (first | lia | omega)) ?_⟩
        refine ⟨.inl ⟨rfl, _, SqL.of (s2 _ _ ef)⟩, ?_⟩
        refine ⟨_, _, s2.tup pSq, rfl, ?_⟩
        refine ⟨_, s2 _ _ ef, ?_, ?_⟩
        · simp; exact small1000 (by (first | lia | omega))
        refine ⟨_, rfl, (sm.trans s2).updn hfl, ?_⟩
        rw [upd_same, take_snoc efr, List.map_append]
        rfl
    · rintro σ H' ⟨x4, rfl, sm, ef⟩
      rw [List.length_map, lws, List.take_length] at ef
      refine ⟨_, _, sm.tup ySq, rfl, wl, rfl, ⟨_, SqL.of (sm _ _ hwl)⟩, ?_⟩
      refine for_list (xs := ws.map V.ref) (fun i σ H2 => ∃ x4 : Option V, σ = [some (.ref y), some (.ref a), some (.int n), some (.ref fl), x4, none] ∧ Same H' H2) ⟨x4, rfl, Same.refl _⟩ (fun i σ H2 _ ⟨_, _, s1⟩ => SqL.of (s1 _ _ (sm _ _ hwl))) ?_ ?_
      · rintro i x σ H2 hx ⟨x4, rfl, s2⟩
        rw [List.getElem?_map] at hx
        cases ep : ws[i]? with
        | none => rw [ep] at hx; cases hx
        | some p =>
          rw [ep] at hx
          have hx' : x = V.ref p := (Option.some.inj hx).symm
          subst hx'
          obtain ⟨fr, efr, hWay⟩ := hW.get ep
          have hfm := List.mem_of_getElem? efr
          have hfn := SO.fn fr hfm
          have sA := sm.trans s2
          refine ⟨p, a, fl, n, fr, m, rs, fs, F fr, rfl, hWay.same sA, RO.same sA, SqL.of (s2 _ _ ef), SO.way fr hfm, sF fr hfm, fun H3 s3 => ⟨_, rfl, iteF' rfl ?_⟩⟩
          have sB := sA.trans s3
          obtain ⟨l2, cs2, hp, hl2, hT2⟩ := hWay
          obtain ⟨c, ec, hc⟩ := hT.gq (k := fr) (by have := SO.len; (first | lia | omega))
          rw [SO.fz fr hfm] at hc
          refine ⟨_, _, sB.tup ySq, rfl, _, _, SqT.of (sB _ _ hp), rfl, _, _, SqL.of (sB _ _ hl), at_mapR ec, (by show 2 ≤ sizeLine; decide), fun t1 ht1 => ?_⟩
          have s4 : Same H3 (upd H3 t1 (.tup [.int 0, .int 1])) := Same.upd ht1
          exact ⟨c, t1, [0, 1], [0, 1], rfl, rfl, SqT.of (s4 _ _ (sB _ _ hc)), SqT.of upd_same, _, rfl, iteF' rfl ⟨_, rfl, s2.trans (s3.trans s4)⟩⟩
      · rintro σ H2 ⟨x4, rfl, s2⟩
        have sA := sm.trans s2
        refine ⟨a, rfl, ⟨_, sA.seq ha⟩, ?_⟩
        refine for_list (xs := ps.map V.ref) (fun i σ H3 => ∃ x5 : Option V, σ = [some (.ref y), some (.ref a), some (.int n), some (.ref fl), x4, x5] ∧ Same H H3) ⟨none, rfl, sA⟩ (fun i σ H3 _ ⟨_, _, s3⟩ => s3.seq ha) ?_ ?_
        · rintro i x σ H3 hx ⟨x5, rfl, s3⟩
          rw [List.getElem?_map] at hx
          cases ep : ps[i]? with
          | none => rw [ep] at hx; cases hx
          | some p =>
            rw [ep] at hx
            have hx' : x = V.ref p := (Option.some.inj hx).symm
            subst hx'
            obtain ⟨r, er, hp⟩ := hR.get ep
            have hrm := List.mem_of_getElem? er
            have lr := RO.len r hrm
            have lpt := SO.len
            refine ⟨_, _, s3.tup ySq, rfl, p, l, r, cs, pt, m, rfl, s3.seq hp, SqL.of (s3 _ _ hl), (hT.same s3).frs, (by (first | lia | omega)), RO.sz r hrm, sp, RO.m1, RO.m2, (by rw [lpt]; exact RO.fit), fun H4 s4 => ⟨_, rfl, iteF' ?_ ⟨_, rfl, s3.trans s4⟩⟩⟩
            rw [lpt, SO.sol r hrm]
            simp
        · rintro σ H3 ⟨x5, rfl, s3⟩
          exact k H3 s3
def AnsOK (H : Hp) (y : Addr) (n : Nat) (rs : List (List Int)) (m : Nat) : Prop :=
  (∃ qs, NevAt H y qs ∧ NevOK n rs qs ∧ ∀ q ∈ qs, Sz m q) ∨ ∃ pt fs F, SolAt H y pt fs F ∧ SolOK n rs pt fs F ∧ (∀ q ∈ pt, Sz m q) ∧ ∀ f ∈ fs, ∀ q ∈ F f, Sz m q
def spAnsH (K : PySem.W.Frag) : Sp := fun vs H Q _ => ∃ (y a : Addr) (n m : Nat) (rs : List (List Int)), vs = [.ref y, .ref a, .int n] ∧ RowsOK K H a n rs m ∧ AnsOK H y n rs m ∧ ∀ H', Same H H' → Q (.bl true) H'
theorem scAnsH : FnScope ["_law_found", "_law_rows", "_law_count"] ["_law_found", "_law_rows", "_law_count"] (defScope sAnsH) := ⟨rfl, rfl, rfl, by decide +kernel, rfl, by decide +kernel, by decide +kernel⟩
theorem ok_ansH {f fn fa : Addr} {fd fdn fda : FuncData} (D : Def K mg "_law_answer_holds" sAnsH ["_law_found", "_law_rows", "_law_count"] f fd) (B : Blt mg) (Dn : Def K mg "_law_never" sNever ["_law_rows", "_law_factors", "_law_count"] fn fdn) (Da : Def K mg "_law_all" sAll ["_law_found", "_law_rows", "_law_count"] fa fda)
    (GN : FnOk P w K mg base CX0 5 fn fdn ["_law_rows", "_law_factors", "_law_count"] (spNever K)) (GA : FnOk P w K mg base CX0 5 fa fda ["_law_found", "_law_rows", "_law_count"] (spAll K)) : FnOk P w K mg base CX0 6 f fd ["_law_found", "_law_rows", "_law_count"] (spAnsH K) := by
  refine D.fn.ok scAnsH (fun vs H Q E h => ?_) (fun cdv A outer s H vs Q E hr h => ?_)
  · obtain ⟨y, a, n, m, rs, rfl, _⟩ := h
    rfl
  · obtain ⟨y, a, n, m, rs, rfl, RO, hA, k⟩ := h
    refine ⟨_, pss_cons (ps_if (PW.pt (pw_or (pt_not (pt_val (pe_callB call_isi (by rfl) B.isi bt_isi (pa_cons (pv 0) (pa_cons (pe_bltn (v := .ty "tuple") (by rfl) B.tuple bt_tuple rfl) pa_nil))))) (pw_or (pt_cmpR op_lt (pe_callB call_len_seq (by rfl) B.len bt_len (pa_cons (pv 0) pa_nil)) pe_int (nomark _))
        (pw_or1 (pt_not (pt_val (pe_callB call_isi (by rfl) B.isi bt_isi (pa_cons (pe_ix ix_tup (pv 0) pe_int plainC) (pa_cons (pe_bltn (v := .ty "str") (by rfl) B.str bt_str rfl) pa_nil))))))))) (pss_one (ps_ret pe_bl)) pss_nil)
      (pss_cons (ps_if (pt_cmpR op_eq (pe_ix ix_tup (pv 0) pe_int plainC) pe_str (nomark _)) (pss_one (ps_ret (pe_and (pe_cmpR op_eq (pe_callB call_len_seq (by rfl) B.len bt_len (pa_cons (pv 0) pa_nil)) pe_int (nomark _)) (pe_one (pe_call GN hr (by rfl) Dn.mg Dn.fn.kp Dn.bd .nil pass0 (pa_cons (pv 1) (pa_cons (pe_ix ix_tup (pv 0) pe_int plainC) (pa_cons (pv 2) pa_nil)))))))) pss_nil)
      (pss_one (ps_ret (pe_and (pe_cmpR op_eq (pe_ix ix_tup (pv 0) pe_int plainC) pe_str (nomark _)) (pe_one (pe_call GA hr (by rfl) Da.mg Da.fn.kp Da.bd .nil pass0 (pa_cons (pv 0) (pa_cons (pv 1) (pa_cons (pv 2) pa_nil))))))))), ?_⟩
    have hrn : ∀ r ∈ rs, n < r.length := fun r hr' => by rw [RO.len r hr']; (first | lia | omega)
    obtain ⟨ps, ha, hR⟩ := RO.at_
    rcases hA with ⟨qs, ⟨l, cs, hy, hl, hT⟩, NO, sq⟩ | ⟨pt, fs, F, ⟨l, wl, cs, ws, hy, hrest⟩, SO, sp, sF⟩
    · have ySq : SqT K H y [.str "never", .ref l] := SqT.of hy
      refine ⟨_, _, _, _, rfl, .tup hy, kit_tt K, _, rfl, iteF' rfl ?_⟩
      refine ⟨_, .inr ySq, _, rfl, iteF' (by simp) ?_⟩
      refine ⟨_, _, ySq, rfl, _, _, _, _, rfl, .str _, kit_ss K, _, rfl, iteF' rfl ?_⟩
      refine ⟨_, _, ySq, rfl, _, rfl, iteT' (by simp) ?_⟩
      refine ⟨_, .inr ySq, ?_⟩
      refine ⟨_, rfl, iteT' (by simp) ?_⟩
      exact ⟨_, _, ySq, rfl, a, l, n, ps, cs, rs, qs, m, rfl, ha, hR, hl, hT, NO, hrn, RO.n100, RO.r400, RO.sz, sq, RO.m1, RO.m2, RO.fit2, fun H' s' => k H' s'⟩
    · have ySq : SqT K H y [.str "solved", .ref l, .ref wl] := SqT.of hy
      have ne1 : ¬ (V.str "solved" = V.str "never") := by intro z; injection z with z; exact absurd z (by decide +kernel)
      refine ⟨_, _, _, _, rfl, .tup hy, kit_tt K, _, rfl, iteF' rfl ?_⟩
      refine ⟨_, .inr ySq, _, rfl, iteF' (by simp) ?_⟩
      refine ⟨_, _, ySq, rfl, _, _, _, _, rfl, .str _, kit_ss K, _, rfl, iteF' rfl ?_⟩
      refine ⟨_, _, ySq, rfl, _, rfl, iteF' (decide_eq_false ne1) ?_⟩
      refine ⟨_, _, ySq, rfl, _, rfl, iteT' (by simp) ?_⟩
      exact ⟨y, a, n, m, rs, pt, fs, F, rfl, ⟨l, wl, cs, ws, hy, hrest⟩, RO, SO, sp, sF, fun H' s' => k H' s'⟩
theorem gq_range {n k : Nat} (F : Nat → Rat) (h : k < n) : gq ((List.range n).map F) k = F k := by
  unfold gq
  rw [List.getD_eq_getElem?_getD, List.getElem?_map, List.getElem?_range h]
  rfl
theorem mem_frees {n v : Nat} {bd : List (Nat × List Int)} : v ∈ frees n bd ↔ v < n ∧ lkB bd v = none := by
  unfold frees
  rw [List.mem_filter, List.mem_range]
  simp
theorem up_frees (n : Nat) (bd : List (Nat × List Int)) : (frees n bd).Pairwise (· < ·) := by
  unfold frees
  exact List.Pairwise.filter _ List.pairwise_lt_range
theorem ans_ok {n S : Nat} {rs : List (List Int)} {d : Int} {bd : List (Nat × List Int)} {rest : List (List Int)} {H : Hp} {y : Addr} (I : Fin n rs d bd rest) (Z : Sizes S d bd rest) (hl : ∀ r ∈ rs, r.length = n + 1) (h : AnsOf n d bd rest H y) : AnsOK H y n rs S := by
  have s0 : Sz S 0 := by
    refine ⟨Nat.two_pow_pos S, ?_⟩
    show 1 < 2 ^ S
    have := Z.dv
    have := I.dne
    (first | lia | omega)
  have s1 : Sz S 1 := ⟨s0.2, s0.2⟩
  rcases h with ⟨l, hl', hz, hN⟩ | ⟨hz, hS⟩
  · refine .inl ⟨_, hN, ⟨?_, fun j hj => I.never hl' hz hj⟩, fun q hq => ?_⟩
    · unfold facQ; rw [List.length_map, List.length_drop, I.lenR l hl']; (first | lia | omega)
    · unfold facQ at hq
      obtain ⟨x, hx, rfl⟩ := List.mem_map.mp hq
      exact sz_div hz (Z.rest l hl' x (List.mem_of_mem_drop hx)) ((Z.rest l hl').g n)
  · refine .inr ⟨_, _, _, hS, ⟨?_, up_frees n bd, fun f hf => (mem_frees.mp hf).1, fun f hf => ?_, fun r hr => I.point hz hr (by rw [hl r hr]; (first | lia | omega)), fun f hf => ?_⟩, fun q hq => ?_, fun f hf q hq => ?_⟩
    · unfold ptQ; simp
    · obtain ⟨h1, h2⟩ := mem_frees.mp hf
      unfold ptQ
      rw [gq_range _ h1, ptF_free h2]
    · obtain ⟨h1, h2⟩ := mem_frees.mp hf
      refine ⟨by unfold wyQ; simp, h1, ?_, fun k hk hne o => ?_, fun r hr => I.way hz hr (by rw [hl r hr]; (first | lia | omega)) h1 h2⟩
      · unfold wyQ; rw [gq_range _ h1, wyF_self]
      · unfold wyQ
        rw [gq_range _ hk]
        rcases o with o | o
        · exact wyF_free hne (mem_frees.mp o).2
        · exact I.wyF_more o
    · unfold ptQ at hq
      obtain ⟨v, hv, rfl⟩ := List.mem_map.mp hq
      unfold ptF
      cases e : lkB bd v with
      | none => exact s0
      | some b => exact sz_div I.dne ((Z.bd _ (lkB_some e)).g n) Z.dv
    · unfold wyQ at hq
      obtain ⟨v, hv, rfl⟩ := List.mem_map.mp hq
      unfold wyF
      split
      · exact s1
      · cases e : lkB bd v with
        | none => exact s0
        | some b =>
          refine sz_div I.dne ?_ Z.dv
          rw [Int.natAbs_neg]
          exact (Z.bd _ (lkB_some e)).g f
theorem rs_mul (c : Rat) (F : Nat → Rat) : ∀ n, rs (fun v => c * F v) n = c * rs F n
  | 0 => by simp only [rs]; grind
  | n + 1 => by simp only [rs]; rw [rs_mul c F n]; grind
def fsum (G : Nat → Rat) : List Nat → Rat
  | [] => 0
  | f :: fs => G f + fsum G fs
theorem fsum_app (G : Nat → Rat) : ∀ a b : List Nat, fsum G (a ++ b) = fsum G a + fsum G b
  | [], b => by simp only [List.nil_append, fsum]; grind
  | f :: a, b => by simp only [List.cons_append, fsum]; rw [fsum_app G a b]; grind
theorem fsum_filter (G : Nat → Rat) (p : Nat → Bool) : ∀ n, fsum G ((List.range n).filter p) = rs (fun v => if p v = true then G v else 0) n
  | 0 => rfl
  | n + 1 => by
    rw [List.range_succ, List.filter_append, fsum_app, fsum_filter G p n]
    simp only [rs]
    cases h : p n with
    | true => simp only [List.filter_cons, h, if_true, List.filter_nil, fsum]; grind
    | false => simp only [List.filter_cons, h, List.filter_nil, fsum]; simp only [Bool.false_eq_true, if_false, fsum]
theorem range_map_gq (qs : List Rat) : (List.range qs.length).map (gq qs) = qs := by
  refine List.ext_getElem? fun j => ?_
  rw [List.getElem?_map]
  by_cases h : j < qs.length
  · rw [List.getElem?_range h, List.getElem?_eq_getElem h]
    show some (gq qs j) = _
    unfold gq; rw [List.getD_eq_getElem?_getD, List.getElem?_eq_getElem h]; rfl
  · rw [List.getElem?_eq_none (by simp; (first | lia | omega)), List.getElem?_eq_none (by (first | lia | omega))]; rfl
theorem dot_rs {row : List Int} {qs : List Rat} {n : Nat} (hq : qs.length = n) (hl : n ≤ row.length) : dot (row.take n) qs = rs (fun v => (g row v : Rat) * gq qs v) n := by
  rw [← dot_range row (gq qs) n hl]
  congr 1
  subst hq
  exact (range_map_gq qs).symm
theorem rs_dotc {n : Nat} (c : Rat) (q : Nat → Rat) : ∀ (fs : List Int) (rows : List (List Int)), (∀ r ∈ rows, rs (fun v => (g r v : Rat) * q v) n = c * (g r n : Rat)) → rs (fun v => ((dotc fs rows v : Int) : Rat) * q v) n = c * ((dotc fs rows n : Int) : Rat)
  | [], rows, _ => by
    have e : ∀ v, dotc [] rows v = 0 := fun v => by cases rows <;> rfl
    simp only [e]
    rw [rs_congr (G := fun _ => 0) fun v _ => by simp, rs_zero]; simp
  | x :: fs, [], _ => by
    have e : ∀ v, dotc (x :: fs) [] v = 0 := fun v => rfl
    simp only [e]
    rw [rs_congr (G := fun _ => 0) fun v _ => by simp, rs_zero]; simp
  | x :: fs, r :: rows, h => by
    have ih := rs_dotc c q fs rows fun r' hr => h r' (by simp [hr])
    have h0 := h r (by simp)
    have e : ∀ v, v < n → ((dotc (x :: fs) (r :: rows) v : Int) : Rat) * q v = (x : Rat) * ((g r v : Rat) * q v) + ((dotc fs rows v : Int) : Rat) * q v := fun v _ => by
      show (((x * g r v + dotc fs rows v : Int)) : Rat) * q v = _
      rw [Rat.intCast_add, Rat.intCast_mul]; grind
    rw [rs_congr e, rs_add, rs_mul, ih, h0]
    show _ = c * (((x * g r n + dotc fs rows n : Int)) : Rat)
    rw [Rat.intCast_add, Rat.intCast_mul]; grind
theorem Fin.everyC {n : Nat} {rows : List (List Int)} {d : Int} {bd : List (Nat × List Int)} {rest : List (List Int)} {qs : List Rat} (c : Rat) (I : Fin n rows d bd rest) (hq : qs.length = n) (hl : ∀ r ∈ rows, r.length = n + 1) (h : ∀ r ∈ rows, dot (r.take n) qs = c * (g r n : Rat)) {k : Nat} (hk : k < n) :
    gq qs k = c * ptF n d bd k + fsum (fun f => wyF d bd f k * gq qs f) (frees n bd) := by
  unfold frees
  rw [fsum_filter]
  have hs : ∀ r ∈ rows, rs (fun v => (g r v : Rat) * gq qs v) n = c * (g r n : Rat) := fun r hr => by rw [← dot_rs hq (by rw [hl r hr]; (first | lia | omega))]; exact h r hr
  cases e : lkB bd k with
  | none =>
    rw [ptF_free e]
    have e2 : ∀ v, v < n → (if (lkB bd v).isNone = true then wyF d bd v k * gq qs v else 0) = if v = k then gq qs k else 0 := fun v _ => by
      by_cases q : v = k
      · subst q; rw [if_pos (by rw [e]; rfl), if_pos rfl, wyF_self]; grind
      · rw [if_neg q, wyF_free (fun z => q z.symm) e]
        split <;> grind
    rw [rs_congr e2, rs_one, if_pos hk]; grind
  | some b =>
    have hm := lkB_some e
    have cmb : ∀ j, j ≤ n → g b j = dotc (b.drop (n + 1)) rows j := fun j hj => I.cmbB (k, b) hm j hj
    have tot : rs (fun v => (g b v : Rat) * gq qs v) n = c * (g b n : Rat) := by
      rw [rs_congr (G := fun v => ((dotc (b.drop (n + 1)) rows v : Int) : Rat) * gq qs v) fun v hv => by rw [cmb v (by (first | lia | omega))], rs_dotc c (gq qs) _ rows hs, ← cmb n (Nat.le_refl _)]
    have e3 : ∀ v, v < n → (g b v : Rat) * gq qs v = (if v = k then (d : Rat) * gq qs k else 0) + (-(d : Rat)) * (if (lkB bd v).isNone = true then wyF d bd v k * gq qs v else 0) := fun v hv => by
      by_cases q : v = k
      · subst q
        have := I.diag (v, b) hm (v, b) hm
        have g1 : g b v = d := by
          have t : g b v = d * dl v v := this
          rw [t]; unfold dl; simp
        rw [if_pos rfl, if_neg (by rw [e]; simp), g1]; grind
      · rw [if_neg q]
        cases e4 : lkB bd v with
        | some b' =>
          have t : g b v = d * dl k v := I.diag (k, b) hm (v, b') (lkB_some e4)
          have : g b v = 0 := by rw [t]; unfold dl; rw [if_neg q]; simp
          rw [this, if_neg (by simp)]; simp; grind
        | none =>
          rw [if_pos (show (none : Option (List Int)).isNone = true from rfl)]
          have w : wyF d bd v k = Rat.divInt (-(g b v)) d := by unfold wyF; rw [if_neg (fun z => q z.symm), e]; rfl
          have := divInt_mul (a := -(g b v)) I.dne
          rw [w]
          have c : ((-(g b v) : Int) : Rat) = - (g b v : Rat) := Rat.intCast_neg _
          rw [c] at this
          grind
    rw [rs_congr e3, rs_add, rs_one, if_pos hk, rs_mul] at tot
    have p : ptF n d bd k = Rat.divInt (g b n) d := by unfold ptF; rw [e]; rfl
    have := divInt_mul (a := g b n) I.dne
    rw [p]
    refine rat_cancel (cast_ne I.dne) ?_
    grind
theorem Fin.every {n : Nat} {rows : List (List Int)} {d : Int} {bd : List (Nat × List Int)} {rest : List (List Int)} {qs : List Rat} (I : Fin n rows d bd rest) (hq : qs.length = n) (hl : ∀ r ∈ rows, r.length = n + 1) (h : ∀ r ∈ rows, dot (r.take n) qs = (g r n : Rat)) {k : Nat} (hk : k < n) :
    gq qs k = ptF n d bd k + fsum (fun f => wyF d bd f k * gq qs f) (frees n bd) := by
  rw [I.everyC 1 hq hl (fun r hr => by rw [h r hr]; grind) hk]; grind
theorem Fin.everyH {n : Nat} {rows : List (List Int)} {d : Int} {bd : List (Nat × List Int)} {rest : List (List Int)} {qs : List Rat} (I : Fin n rows d bd rest) (hq : qs.length = n) (hl : ∀ r ∈ rows, r.length = n + 1) (h : ∀ r ∈ rows, dot (r.take n) qs = 0) {k : Nat} (hk : k < n) :
    gq qs k = fsum (fun f => wyF d bd f k * gq qs f) (frees n bd) := by
  rw [I.everyC 0 hq hl (fun r hr => by rw [h r hr]; grind) hk]; grind
def spWeighed (K : PySem.W.Frag) : Sp := fun vs H Q _ => ∃ (a b : Addr) (ns : List Int) (r : Int) (cs : List Addr) (qs : List Rat) (m : Nat), vs = [.ref a, .ref b] ∧ SqL K H a ((ns ++ [r]).map V.int) ∧ SqL K H b (cs.map V.ref) ∧ FrsAt K H cs qs ∧ ns.length = qs.length ∧
  (∀ n ∈ ns, SzI m n) ∧ (∀ q ∈ qs, Sz m q) ∧ m ≤ 1000000 ∧ (ns.length + 1) * (2 * m + 2) ≤ 20000000 ∧
  ∀ (c : Addr) (H' : Hp), H c = none → H' c = some (.tup (FrT (dot ns qs))) → Same H H' → Q (.ref c) H'
theorem scWeighed : FnScope ["row", "point"] ["row", "point"] (defScope sWeighed) := ⟨rfl, rfl, rfl, by decide +kernel, rfl, by decide +kernel, by decide +kernel⟩
theorem cut_last (ns : List Int) (r : Int) : cutV ((ns ++ [r]).map V.int) none (some (-1)) = ns.map V.int := by
  unfold cutV
  have e : HT.sIx ((ns ++ [r]).map V.int).length 0 none = 0 := rfl
  rw [e]
  have e2 : HT.sIx ((ns ++ [r]).map V.int).length ((ns ++ [r]).map V.int).length (some (-1)) = ns.length := by
    simp [HT.sIx]
    (first | lia | omega)
  rw [e2, List.drop_zero, Nat.sub_zero, List.map_append, List.take_left' (by simp)]
theorem ok_weighed {f fs fp ft ff fg : Addr} {fd fds fdp fdt fdf fdg : FuncData} (D : Def K mg "weighed" sWeighed ["row", "point"] f fd) (B : Blt mg) (hP : P.given.tree = none) (bz : mg "zip" = none) (Ds : Def K mg "sum_of_products" sSop ["numbers", "parts"] fs fds) (Dp : Def K mg "plus" sPlus ["one", "two"] fp fdp) (Dt : Def K mg "times" sTimes ["one", "two"] ft fdt)
    (Df : Def K mg "fraction" sFrac ["top", "bottom"] ff fdf) (Dg : Def K mg "greatest_divisor" sGd ["one", "two"] fg fdg) : FnOk P w K mg base CX0 5 f fd ["row", "point"] (spWeighed K) := by
  have G : FnOk P w K mg base CX0 4 fs fds ["numbers", "parts"] (spSop K) := ok_sop Ds B hP bz Dp Dt Df Dg
  refine D.fn.ok scWeighed (fun vs H Q E h => ?_) (fun cdv A outer s H vs Q E hr h => ?_)
  · obtain ⟨a, b, ns, r, cs, qs, m, rfl, _⟩ := h
    rfl
  · obtain ⟨a, b, ns, r, cs, qs, m, rfl, ha, hb, hF, hl, sn, sq, hm, hlen, k⟩ := h
    refine ⟨_, pss_one (ps_ret (pe_call G hr (by rfl) Ds.mg Ds.fn.kp Ds.bd .nil pass0 (pa_cons (pe_slice sl_list (pv 0) po_none (po_some (pe_un un_neg pe_int))) (pa_cons (pv 1) pa_nil)))), ?_⟩
    refine ⟨_, rfl, a, _, rfl, ha, fun p hp => ?_⟩
    have sm := Same.upd (o := .lst (cutV ((ns ++ [r]).map V.int) none (some (-1)))) hp
    refine ⟨p, b, ns, cs, qs, m, rfl, SqL.of (by rw [upd_same]; exact congrArg (fun l => some (HO.lst l)) (cut_last ns r)), sm.seq hb, FrsAt.same sm hF, hl, sn, sq, hm, hlen, fun c H' h1 h2 h3 => k c H' (sm.free h1) h2 (sm.trans h3)⟩
def spFits (K : PySem.W.Frag) : Sp := fun vs H Q _ => ∃ (a b : Addr) (ns : List Int) (r : Int) (cs : List Addr) (qs : List Rat) (m : Nat), vs = [.ref a, .ref b] ∧ SqL K H a ((ns ++ [r]).map V.int) ∧ SqL K H b (cs.map V.ref) ∧ FrsAt K H cs qs ∧ ns.length = qs.length ∧
  (∀ n ∈ ns, SzI m n) ∧ (∀ q ∈ qs, Sz m q) ∧ m ≤ 1000000 ∧ (ns.length + 1) * (2 * m + 2) ≤ 20000000 ∧
  ∀ (H' : Hp), Same H H' → Q (.bl (decide (dot ns qs = (r : Rat)))) H'
theorem scFits : FnScope ["row", "point"] ["row", "point"] (defScope sFits) := ⟨rfl, rfl, rfl, by decide +kernel, rfl, by decide +kernel, by decide +kernel⟩
theorem fr_eq (p : Rat) (r : Int) : decide ([p.num, (p.den : Int)] = [r, 1]) = decide (p = (r : Rat)) := by
  rw [decide_eq_decide]
  constructor
  · intro h
    have h1 : p.num = r := by simpa using (List.cons.inj h).1
    have h2 : (p.den : Int) = 1 := (List.cons.inj (List.cons.inj h).2).1
    refine Rat.ext ?_ ?_
    · rw [Rat.num_intCast]; exact h1
    · rw [Rat.den_intCast]; (first | lia | omega)
  · intro h
    rw [h, Rat.num_intCast, Rat.den_intCast]
    rfl
theorem ok_fits {f fw fs fp ft ff fg : Addr} {fd fdw fds fdp fdt fdf fdg : FuncData} (D : Def K mg "fits" sFits ["row", "point"] f fd) (B : Blt mg) (hP : P.given.tree = none) (bz : mg "zip" = none) (Dw : Def K mg "weighed" sWeighed ["row", "point"] fw fdw) (Ds : Def K mg "sum_of_products" sSop ["numbers", "parts"] fs fds) (Dp : Def K mg "plus" sPlus ["one", "two"] fp fdp) (Dt : Def K mg "times" sTimes ["one", "two"] ft fdt)
    (Df : Def K mg "fraction" sFrac ["top", "bottom"] ff fdf) (Dg : Def K mg "greatest_divisor" sGd ["one", "two"] fg fdg) : FnOk P w K mg base CX0 6 f fd ["row", "point"] (spFits K) := by
  have G : FnOk P w K mg base CX0 5 fw fdw ["row", "point"] (spWeighed K) := ok_weighed Dw B hP bz Ds Dp Dt Df Dg
  refine D.fn.ok scFits (fun vs H Q E h => ?_) (fun cdv A outer s H vs Q E hr h => ?_)
  · obtain ⟨a, b, ns, r, cs, qs, m, rfl, _⟩ := h
    rfl
  · obtain ⟨a, b, ns, r, cs, qs, m, rfl, ha, hb, hF, hl, sn, sq, hm, hlen, k⟩ := h
    refine ⟨_, pss_one (ps_ret (pe_cmpR (op_eqT hr.units0) (pe_call G hr (by rfl) Dw.mg Dw.fn.kp Dw.bd .nil pass0 (pa_cons (pv 0) (pa_cons (pv 1) pa_nil))) (pe_tup (pa_cons (pe_ix ix_list (pv 0) (pe_un un_neg pe_int) plainU) (pa_cons pe_int pa_nil))) (nomark _))), ?_⟩
    refine ⟨a, b, ns, r, cs, qs, m, rfl, ha, hb, hF, hl, sn, sq, hm, hlen, fun c H' h1 h2 h3 => ?_⟩
    refine ⟨_, .int r, h3.seq ha, (by rw [List.map_append]; exact atI_last _ _), (by show 2 ≤ sizeLine; decide), fun p hp => ?_⟩
    have sm := Same.upd (o := .tup [.int r, .int 1]) hp
    refine ⟨c, p, [(dot ns qs).num, ((dot ns qs).den : Int)], [r, 1], rfl, rfl, SqT.of (sm _ _ h2), SqT.of upd_same, ?_⟩
    rw [fr_eq]
    exact k _ (h3.trans sm)
theorem passF {P : Program} {w : World} {X : Cx} : Passes (CXF P w) X E0 := fun _ _ _ _ _ _ _ h => let ⟨_, _, _, _, _, _, _, z⟩ := h; z.elim
theorem no_never {n : Nat} {rows : List (List Int)} {d : Int} {bd : List (Nat × List Int)} {rest : List (List Int)} {qs : List Rat} (I : Fin n rows d bd rest) (hq : qs.length = n) (hl : ∀ r ∈ rows, r.length = n + 1) (h : ∀ r ∈ rows, dot (r.take n) qs = (g r n : Rat)) {l : List Int} (hlr : l ∈ rest) (hz : g l n ≠ 0) : False := by
  have hs : ∀ r ∈ rows, rs (fun v => (g r v : Rat) * gq qs v) n = 1 * (g r n : Rat) := fun r hr => by rw [← dot_rs hq (by rw [hl r hr]; (first | lia | omega)), h r hr]; grind
  have e := rs_dotc 1 (gq qs) (l.drop (n + 1)) rows hs
  rw [← I.cmbR l hlr n (Nat.le_refl _), rs_congr (G := fun _ => 0) fun v hv => by rw [← I.cmbR l hlr v (by (first | lia | omega)), I.zero l hlr v hv]; simp, rs_zero] at e
  exact cast_ne hz (by grind)
theorem ans_sizes {n S : Nat} {rs : List (List Int)} {d : Int} {bd : List (Nat × List Int)} {rest : List (List Int)} (I : Fin n rs d bd rest) (Z : Sizes S d bd rest) : (∀ q ∈ ptQ n d bd, Sz S q) ∧ ∀ f, ∀ q ∈ wyQ n d bd f, Sz S q := by
  have s0 : Sz S 0 := by
    refine ⟨Nat.two_pow_pos S, ?_⟩
    show 1 < 2 ^ S
    have := Z.dv
    have := I.dne
    (first | lia | omega)
  have s1 : Sz S 1 := ⟨s0.2, s0.2⟩
  refine ⟨fun q hq => ?_, fun f q hq => ?_⟩
  · unfold ptQ at hq
    obtain ⟨v, hv, rfl⟩ := List.mem_map.mp hq
    unfold ptF
    cases e : lkB bd v with
    | none => exact s0
    | some b => exact sz_div I.dne ((Z.bd _ (lkB_some e)).g n) Z.dv
  · unfold wyQ at hq
    obtain ⟨v, hv, rfl⟩ := List.mem_map.mp hq
    unfold wyF
    split
    · exact s1
    · cases e : lkB bd v with
      | none => exact s0
      | some b =>
        refine sz_div I.dne ?_ Z.dv
        rw [Int.natAbs_neg]
        exact (Z.bd _ (lkB_some e)).g f
theorem comp_copy {K : PySem.W.Frag} {nm : Str} {c : Addr} {ps : List Addr} {rs : List (List Int)} {i : Nat} {σ : St} {H : Hp} {Q : VK} (hσ : σ[i]? = some (some (.ref c))) (hc : SqL K H c (ps.map V.ref)) (hR : RowsAt K H ps rs) (hl : rs.length ≤ 500)
    (k : ∀ (Dh : Addr) (ds : List Addr) (H' : Hp), H Dh = none → H' Dh = some (.lst (ds.map V.ref)) → RowsL H' ds rs → (∀ q ∈ ds, q ≠ Dh ∧ H q = none) → Same H H' → Q (.ref Dh) H') :
    tComp (iList K (tVar i)) (gName 0) [nm] [] (tCB (rLOf K) (tCons (tVar 0) tNil)) σ H Q := by
  have lp := hR.len
  refine onV.mk hσ ⟨c, rfl, ⟨_, hc⟩, fun Dh hDh => ?_⟩
  refine comp_list (K := K) (a := c) (xs := ps.map V.ref) (Q := Q) (fun i ys H4 => Same H H4 ∧ H4 Dh = some (.lst ys) ∧ ∃ ds : List Addr, ys = ds.map V.ref ∧ (∀ q ∈ ds, q ≠ Dh ∧ H q = none) ∧ RowsL H4 ds (rs.take i)) ⟨Same.upd hDh, upd_same, [], rfl, (fun _ z => nomatch z), .nil⟩ ?_ ?_ ?_
  · rintro i ys H4 hi ⟨s4, e4, ds, rfl, hne, hT⟩
    have := Paired.length hT
    refine ⟨e4, ?_, s4.seq hc⟩
    rw [List.length_map, this, List.length_take]
    exact small1000 (by (first | lia | omega))
  · rintro i x ys H4 hx ⟨s4, e4, ds, rfl, hne, hT⟩
    rw [List.getElem?_map] at hx
    cases ep : ps[i]? with
    | none => rw [ep] at hx; cases hx
    | some p =>
      rw [ep] at hx
      have hx' : x = V.ref p := (Option.some.inj hx).symm
      subst hx'
      obtain ⟨r, er, hp⟩ := hR.get ep
      refine ⟨_, .inl (s4.seq hp), fun l nl => ?_⟩
      have s5 : Same H4 (upd H4 l (.lst (r.map V.int))) := Same.upd nl
      have eD := s5 _ _ e4
      have hne2 : l ≠ Dh := fun z => by rw [z, e4] at nl; cases nl
      refine ⟨eD, (s4.trans s5).updn hDh, upd_same, ds ++ [l], by simp, ?_, ?_⟩
      · intro q hq
        rcases List.mem_append.mp hq with z | z
        · exact hne q z
        · rw [List.mem_singleton.mp z]; exact ⟨hne2, s4.free nl⟩
      · rw [take_snoc er]
        exact RowsL.snoc (by rw [upd_ne hne2, upd_same]) (RowsL.upd (hT.same s5) fun q hq => (hne q hq).1)
  · rintro ys H4 ⟨s4, e4, ds, rfl, hne, hT4⟩
    rw [List.length_map, lp, List.take_length] at hT4
    exact k Dh ds H4 hDh e4 hT4 hne s4
theorem fsum_zero {G : Nat → Rat} : ∀ {fs : List Nat}, (∀ f ∈ fs, G f = 0) → fsum G fs = 0
  | [], _ => rfl
  | f :: fs, h => by
    have ih := fsum_zero (G := G) (fs := fs) fun x hx => h x (by simp [hx])
    simp only [fsum]
    rw [ih, h f (by simp)]; grind
theorem fsum_one {G : Nat → Rat} {u : Nat} : ∀ {fs : List Nat}, fs.Pairwise (· < ·) → u ∈ fs → (∀ f ∈ fs, f ≠ u → G f = 0) → fsum G fs = G u
  | [], _, h, _ => nomatch h
  | f :: fs, hp, hu, h => by
    rw [List.pairwise_cons] at hp
    simp only [fsum]
    rcases List.mem_cons.mp hu with e | e
    · subst e
      rw [fsum_zero fun x hx => h x (by simp [hx]) (by have := hp.1 x hx; (first | lia | omega))]; grind
    · have := hp.1 u e
      rw [h f (by simp) (by (first | lia | omega)), fsum_one hp.2 e fun x hx => h x (by simp [hx])]; grind
structure Holds2 (n : Nat) (rs : List (List Int)) (d : Int) (bd : List (Nat × List Int)) : Prop where
  pt : ∀ r ∈ rs, dot (r.take n) (ptQ n d bd) = (g r n : Rat)
  wy : ∀ f ∈ frees n bd, ∀ r ∈ rs, dot (r.take n) (wyQ n d bd f) = 0
theorem len_wyQ (n : Nat) (d : Int) (bd : List (Nat × List Int)) (f : Nat) : (wyQ n d bd f).length = n := by unfold wyQ; simp
theorem len_ptQ (n : Nat) (d : Int) (bd : List (Nat × List Int)) : (ptQ n d bd).length = n := by unfold ptQ; simp
theorem gq_wyQ {n k : Nat} (d : Int) (bd : List (Nat × List Int)) (f : Nat) (h : k < n) : gq (wyQ n d bd f) k = wyF d bd f k := by unfold wyQ; exact gq_range _ h
theorem gq_ptQ {n k : Nat} (d : Int) (bd : List (Nat × List Int)) (h : k < n) : gq (ptQ n d bd) k = ptF n d bd k := by unfold ptQ; exact gq_range _ h
theorem free_sub {n : Nat} {rs1 rs2 : List (List Int)} {d1 d2 : Int} {bd1 bd2 : List (Nat × List Int)} {rest1 rest2 : List (List Int)} (I1 : Fin n rs1 d1 bd1 rest1) (I2 : Fin n rs2 d2 bd2 rest2) (hl2 : ∀ r ∈ rs2, r.length = n + 1) (h : Holds2 n rs2 d1 bd1) {f : Nat} (hf : f ∈ frees n bd1) : f ∈ frees n bd2 := by
  obtain ⟨hn, hb⟩ := mem_frees.mp hf
  refine Decidable.byContradiction fun hno => ?_
  have e := I2.everyH (len_wyQ n d1 bd1 f) hl2 (h.wy f hf) hn
  rw [gq_wyQ _ _ _ hn, wyF_self, fsum_zero fun f' hf' => ?_] at e
  · exact absurd e (by decide)
  · obtain ⟨hn', _⟩ := mem_frees.mp hf'
    rw [gq_wyQ _ _ _ hn']
    by_cases lt : f' < f
    · rw [I2.wyF_more lt]; grind
    · have : f < f' := by
        have : f' ≠ f := fun z => hno (z ▸ hf')
        (first | lia | omega)
      rw [I1.wyF_more this]; grind
theorem uniq {n : Nat} {rs1 rs2 : List (List Int)} {d1 d2 : Int} {bd1 bd2 : List (Nat × List Int)} {rest1 rest2 : List (List Int)} (I1 : Fin n rs1 d1 bd1 rest1) (I2 : Fin n rs2 d2 bd2 rest2) (hl1 : ∀ r ∈ rs1, r.length = n + 1) (hl2 : ∀ r ∈ rs2, r.length = n + 1) (h1 : Holds2 n rs2 d1 bd1) (h2 : Holds2 n rs1 d2 bd2) :
    ptQ n d1 bd1 = ptQ n d2 bd2 ∧ frees n bd1 = frees n bd2 ∧ ∀ f ∈ frees n bd1, wyQ n d1 bd1 f = wyQ n d2 bd2 f := by
  have hf : ∀ f, f ∈ frees n bd1 ↔ f ∈ frees n bd2 := fun f => ⟨free_sub I1 I2 hl2 h1, free_sub I2 I1 hl1 h2⟩
  have ef : frees n bd1 = frees n bd2 := by
    unfold frees
    refine List.filter_congr fun v hv => ?_
    have hv' : v < n := by simpa using hv
    have := hf v
    rw [mem_frees, mem_frees] at this
    cases a : lkB bd1 v with
    | none =>
      have := (this.mp ⟨hv', a⟩).2
      rw [this]
    | some x =>
      cases b : lkB bd2 v with
      | none =>
        have := (this.mpr ⟨hv', b⟩).2
        rw [this] at a; cases a
      | some y => rfl
  refine ⟨?_, ef, fun f hff => ?_⟩
  · unfold ptQ
    refine List.map_congr_left fun k hk => ?_
    have hk' : k < n := by simpa using hk
    have e := I2.every (len_ptQ n d1 bd1) hl2 h1.pt hk'
    rw [gq_ptQ _ _ hk', fsum_zero fun f hf' => ?_] at e
    · rw [e]; grind
    · rw [← ef] at hf'
      obtain ⟨a, b⟩ := mem_frees.mp hf'
      rw [gq_ptQ _ _ a, ptF_free b]; grind
  · unfold wyQ
    refine List.map_congr_left fun k hk => ?_
    have hk' : k < n := by simpa using hk
    have e := I2.everyH (len_wyQ n d1 bd1 f) hl2 (h1.wy f hff) hk'
    obtain ⟨hfn, hfb⟩ := mem_frees.mp hff
    rw [gq_wyQ _ _ _ hk', fsum_one (u := f) (up_frees n bd2) (ef ▸ hff) fun f' hf' hne => ?_, gq_wyQ _ _ _ hfn, wyF_self] at e
    · rw [e]; grind
    · rw [← ef] at hf'
      obtain ⟨a, b⟩ := mem_frees.mp hf'
      rw [gq_wyQ _ _ _ a, wyF_free hne b]; grind
def frD (q : Rat) : PyData := .tuple [.int q.num, .int (q.den : Int)]
def wyD (p : Nat × List Rat) : PyData := .tuple [.int (p.1 : Int), .list (p.2.map frD)]
def ansD (pt : List Rat) (wys : List (Nat × List Rat)) : PyData := .tuple [.str "solved", .list (pt.map frD), .list (wys.map wyD)]
theorem eqv_frD (p q : Rat) : PyData.eqv (frD p) (frD q) = decide (p = q) := by
  show ((p.num == q.num) && (((p.den : Int) == (q.den : Int)) && true)) = decide (p = q)
  by_cases h : p = q
  · subst h; simp
  · rw [decide_eq_false h, Bool.and_true]
    by_cases hn : p.num = q.num
    · have hd : p.den ≠ q.den := fun e => h (Rat.ext hn e)
      have : ((p.den : Int) == (q.den : Int)) = false := by simp; (first | lia | omega)
      rw [this, Bool.and_false]
    · have : (p.num == q.num) = false := by simpa using hn
      rw [this, Bool.false_and]
theorem eqvAll_map {α : Type} [DecidableEq α] (f : α → PyData) (hf : ∀ a b, PyData.eqv (f a) (f b) = decide (a = b)) : ∀ l1 l2 : List α, PyData.eqvAll (l1.map f) (l2.map f) = decide (l1 = l2)
  | [], [] => rfl
  | [], _ :: _ => by rfl
  | _ :: _, [] => by rfl
  | a :: l1, b :: l2 => by
    have ih := eqvAll_map f hf l1 l2
    show (PyData.eqv (f a) (f b) && PyData.eqvAll (l1.map f) (l2.map f)) = _
    rw [hf, ih, ← Bool.decide_and, decide_eq_decide]
    simp
theorem eqv_wyD (p q : Nat × List Rat) : PyData.eqv (wyD p) (wyD q) = decide (p = q) := by
  show (((p.1 : Int) == (q.1 : Int)) && (PyData.eqvAll (p.2.map frD) (q.2.map frD) && true)) = decide (p = q)
  rw [eqvAll_map frD eqv_frD, Bool.and_true]
  have e : ((p.1 : Int) == (q.1 : Int)) = decide (p.1 = q.1) := by
    by_cases h : p.1 = q.1
    · simp [h]
    · have : ¬ ((p.1 : Int) = (q.1 : Int)) := by (first | lia | omega)
      rw [decide_eq_false h]; simpa using this
  rw [e, ← Bool.decide_and, decide_eq_decide]
  exact ⟨fun h => Prod.ext h.1 h.2, fun h => by rw [h]; exact ⟨rfl, rfl⟩⟩
theorem eqv_ansD (pt1 pt2 : List Rat) (w1 w2 : List (Nat × List Rat)) : PyData.eqv (ansD pt1 w1) (ansD pt2 w2) = decide (pt1 = pt2 ∧ w1 = w2) := by
  show ((("solved" : Str) == ("solved" : Str)) && (PyData.eqvAll (pt1.map frD) (pt2.map frD) && (PyData.eqvAll (w1.map wyD) (w2.map wyD) && true))) = _
  rw [eqvAll_map frD eqv_frD, eqvAll_map wyD eqv_wyD, Bool.and_true, beq_self_eq_true, Bool.true_and, ← Bool.decide_and]
theorem depthAll_map {α : Type} (f : α → PyData) (k : Nat) (hf : ∀ a, PyData.depth (f a) ≤ k) : ∀ l : List α, PyData.depthAll (l.map f) ≤ k
  | [] => Nat.zero_le _
  | a :: l => by
    have ih := depthAll_map f k hf l
    show max (PyData.depth (f a)) (PyData.depthAll (l.map f)) ≤ k
    exact Nat.max_le.mpr ⟨hf a, ih⟩
theorem canLay_map {α : Type} (f : α → PyData) (hf : ∀ a, PyData.canLay0 (f a) = true) : ∀ l : List α, PyData.canLayAll0 (l.map f) = true
  | [] => rfl
  | a :: l => by
    show (PyData.canLay0 (f a) && PyData.canLayAll0 (l.map f)) = true
    rw [hf a, canLay_map f hf l]; rfl
theorem canLay_frD (q : Rat) : PyData.canLay0 (frD q) = true := rfl
theorem canLay_frs (qs : List Rat) : PyData.canLay0 (.list (qs.map frD)) = true := canLay_map frD canLay_frD qs
theorem canLay_wyD (p : Nat × List Rat) : PyData.canLay0 (wyD p) = true := by
  show (true && (PyData.canLay0 (.list (p.2.map frD)) && true)) = true
  rw [canLay_frs]; rfl
theorem canLay_ansD (pt : List Rat) (w : List (Nat × List Rat)) : PyData.canLay0 (ansD pt w) = true := by
  show (PySem.PyData.strOk "solved" && (PyData.canLay0 (.list (pt.map frD)) && (PyData.canLayAll0 (w.map wyD) && true))) = true
  rw [canLay_frs, canLay_map wyD canLay_wyD]
  decide +kernel
theorem depth_frD (q : Rat) : PyData.depth (frD q) ≤ 1 := by
  show max 0 (max 0 0) + 1 ≤ 1
  decide
theorem depth_wyD (p : Nat × List Rat) : PyData.depth (wyD p) ≤ 4 := by
  have := depthAll_map frD 1 depth_frD p.2
  show max 0 (max (PyData.depthAll (p.2.map frD) + 1) 0) + 1 ≤ 4
  (first | lia | omega)
theorem depth_ansD (pt : List Rat) (w : List (Nat × List Rat)) : PyData.depth (ansD pt w) ≤ 10 := by
  have h1 := depthAll_map frD 1 depth_frD pt
  have h2 := depthAll_map wyD 4 depth_wyD w
  show max 0 (max (PyData.depthAll (pt.map frD) + 1) (max (PyData.depthAll (w.map wyD) + 1) 0)) + 1 ≤ 10
  (first | lia | omega)
section
variable {X : Cx} {pins : List (Addr × Obj)} {σ : St} {H : Hp} {s : Shared}
theorem reads_tup {c : Addr} {xs : List V} {ds : List PyData} (I : Inv X pins σ H s) (e : H c = some (.tup xs)) (h : ∀ its, Vals xs its → ∃ as, ReadsAll s.heap its ds as) : ∃ as, Reads s.heap (.ref c) (.tuple ds) as := by
  obtain ⟨_, its, rv, o, h1, h2, n, h3⟩ := (show ObjOk X.prog X.w H s.heap c (.tup xs) from I.hok c _ e)
  obtain ⟨as, ra⟩ := h its rv
  exact ⟨as, .tuple h1 h2 h3 (by simpa using ra)⟩
theorem reads_lst {c : Addr} {xs : List V} {ds : List PyData} (I : Inv X pins σ H s) (e : H c = some (.lst xs)) (h : ∀ its, Vals xs its → ∃ as, ReadsAll s.heap its ds as) : ∃ as, Reads s.heap (.ref c) (.list ds) as := by
  obtain ⟨_, its, n, rv, h1⟩ := (show ObjOk X.prog X.w H s.heap c (.lst xs) from I.hok c _ e)
  obtain ⟨as, ra⟩ := h its rv
  exact ⟨_, .list h1 rfl rfl (by simpa using ra)⟩
theorem reads_fr {c : Addr} {q : Rat} (I : Inv X pins σ H s) (e : H c = some (.tup (FrT q))) : ∃ as, Reads s.heap (.ref c) (frD q) as := by
  refine reads_tup I e fun its rv => ?_
  obtain ⟨u1, u2, rfl, ⟨t1, rfl⟩, ⟨t2, rfl⟩⟩ := vals2 rv
  exact ⟨_, .cons (.int _ _) (.cons (.int _ _) .nil)⟩
theorem readsAll_frs (I : Inv X pins σ H s) : ∀ {cs : List Addr} {qs : List Rat}, TupsAt H cs qs → ∀ its, Vals (cs.map V.ref) its → ∃ as, ReadsAll s.heap its (qs.map frD) as
  | _, _, .nil, _, rv => by cases rv; exact ⟨_, .nil⟩
  | _, _, .cons r t, _, rv => by
    cases rv with
    | cons h tl =>
      cases h
      obtain ⟨a1, r1⟩ := reads_fr I r
      obtain ⟨a2, r2⟩ := readsAll_frs I t _ tl
      exact ⟨_, .cons r1 r2⟩
theorem readsAll_wys (I : Inv X pins σ H s) {F : Nat → List Rat} : ∀ {ws : List Addr} {fs : List Nat}, WaysAt H ws fs F → ∀ its, Vals (ws.map V.ref) its → ∃ as, ReadsAll s.heap its ((fs.map fun f => (f, F f)).map wyD) as
  | _, _, .nil, _, rv => by cases rv; exact ⟨_, .nil⟩
  | _, _, .cons r t, _, rv => by
    cases rv with
    | cons h tl =>
      cases h
      obtain ⟨l, cs, h1, h2, h3⟩ := r
      obtain ⟨a1, r1⟩ := reads_tup (ds := [.int _, .list ((F _).map frD)]) I h1 fun its rv => by
        obtain ⟨u1, u2, rfl, ⟨t1, rfl⟩, e2⟩ := vals2 rv
        cases e2
        obtain ⟨a, ra⟩ := reads_lst I h2 (readsAll_frs I h3)
        exact ⟨_, .cons (.int _ _) (.cons ra .nil)⟩
      obtain ⟨a2, r2⟩ := readsAll_wys I t _ tl
      exact ⟨_, .cons r1 r2⟩
theorem reads_ans {y : Addr} {pt : List Rat} {fs : List Nat} {F : Nat → List Rat} (I : Inv X pins σ H s) (h : SolAt H y pt fs F) : ∃ as, Reads s.heap (.ref y) (ansD pt (fs.map fun f => (f, F f))) as := by
  obtain ⟨l, wl, cs, ws, hy, hl, hT, hwl, hW⟩ := h
  refine reads_tup I hy fun its rv => ?_
  cases rv with
  | cons h1 t1 =>
    cases t1 with
    | cons h2 t2 =>
      cases t2 with
      | cons h3 t3 =>
        cases t3
        obtain ⟨t, rfl⟩ := h1
        cases h2
        cases h3
        obtain ⟨a1, r1⟩ := reads_lst I hl (readsAll_frs I hT)
        obtain ⟨a2, r2⟩ := reads_lst I hwl (readsAll_wys I hW)
        exact ⟨_, .cons (.str _ _) (.cons r1 (.cons r2 .nil))⟩
end
section
variable {X : Cx}
theorem op_eqAns (hu : X.A.units + 64 < cLine) : OpR X (compareOp .Eq) (fun x y H Q => ∃ (a b : Addr) (pt1 pt2 : List Rat) (fs1 fs2 : List Nat) (F1 F2 : Nat → List Rat), x = .ref a ∧ y = .ref b ∧ SolAt H a pt1 fs1 F1 ∧ SolAt H b pt2 fs2 F2 ∧
    Q (.bl (decide (pt1 = pt2 ∧ (fs1.map fun f => (f, F1 f)) = fs2.map fun f => (f, F2 f)))) H) := by
  intro pins s σ H x y v u Q I rx ry h
  obtain ⟨a, b, pt1, pt2, fs1, fs2, F1, F2, rfl, rfl, h1, h2, q⟩ := h
  cases rx
  cases ry
  obtain ⟨a1, r1⟩ := reads_ans I h1
  obtain ⟨a2, r2⟩ := reads_ans I h2
  refine SeqAt.compareEq_reads r1 r2 (canLay_ansD _ _) (canLay_ansD _ _) ?_ ⟨.bl _, H, I, rfl, by rw [eqv_ansD]; exact q⟩
  have := depth_ansD pt1 (fs1.map fun f => (f, F1 f))
  have := Nat.min_le_left (PyData.depth (ansD pt1 (fs1.map fun f => (f, F1 f)))) (PyData.depth (ansD pt2 (fs2.map fun f => (f, F2 f))))
  (first | lia | omega)
end
theorem RowsL.set {H : Hp} {p : Addr} {r : List Int} (hp : H p = some (.lst (r.map V.int))) : ∀ {ps : List Addr} {rs : List (List Int)} {j : Nat}, RowsL H ps rs → RowsL H (ps.set j p) (rs.set j r)
  | _, _, _, .nil => .nil
  | _, _, 0, .cons _ t => .cons hp t
  | _, _, j + 1, .cons a t => .cons a (RowsL.set hp t)
theorem sq_ne {ps : List Addr} {ms : List Int} (h : ps ≠ []) : ¬ (some (HO.lst (ps.map V.ref)) = some (HO.lst (ms.map V.int))) := by
  cases ps with
  | nil => exact absurd rfl h
  | cons p ps => cases ms with
    | nil => simp
    | cons m ms => simp
def spSameS (K : PySem.W.Frag) (C : Addr) : Sp := fun vs H Q E => ∃ (n : Nat) (a b : Addr) (ps qs : List Addr) (rs ss : List (List Int)) (m : Nat), vs = [.int n, .ref a, .ref b] ∧ SqL K H a (ps.map V.ref) ∧ RowsL H ps rs ∧ SqL K H b (qs.map V.ref) ∧ RowsL H qs ss ∧ rs.length ≤ 400 ∧ ss.length ≤ 400 ∧ n ≤ 400 ∧
  (∀ r ∈ rs, Bdd m r) ∧ (∀ r ∈ ss, Bdd m r) ∧ (∀ r ∈ rs, r.length ≤ 500) ∧ (∀ r ∈ ss, r.length ≤ 500) ∧ 1 ≤ m ∧ bz n m ≤ 20000000 ∧
  (((∃ r ∈ rs, r.length ≠ n + 1) ∨ ∃ r ∈ ss, r.length ≠ n + 1) → ∀ H', Same H H' → E (.ref C) none H') ∧
  ((∀ r ∈ rs, r.length = n + 1) → (∀ r ∈ ss, r.length = n + 1) → ∀ (d1 d2 : Int) (bd1 bd2 : List (Nat × List Int)) (rest1 rest2 : List (List Int)) (bv : Bool) (H' : Hp), Same H H' → Fin n rs d1 bd1 rest1 → Fin n ss d2 bd2 rest2 →
    (bv = true ↔ (((∃ l ∈ rest1, g l n ≠ 0) ∧ ∃ l ∈ rest2, g l n ≠ 0) ∨ ((∀ l ∈ rest1, g l n = 0) ∧ (∀ l ∈ rest2, g l n = 0) ∧ ptQ n d1 bd1 = ptQ n d2 bd2 ∧ ((frees n bd1).map fun f => (f, wyQ n d1 bd1 f)) = (frees n bd2).map fun f => (f, wyQ n d2 bd2 f)))) → Q (.bl bv) H')
theorem scSameS : FnScope ["count", "rows", "others", "one", "two"] ["count", "rows", "others"] (defScope sSameS) := ⟨rfl, rfl, rfl, by decide +kernel, rfl, by decide +kernel, by decide +kernel⟩
theorem ne_sn : ¬ (V.str "solved" = V.str "never") := by intro z; injection z with z; exact absurd z (by decide +kernel)
theorem ne_ns : ¬ (V.str "never" = V.str "solved") := fun z => ne_sn z.symm
theorem ok_sameS {f fs C : Addr} {fd fds : FuncData} (D : Def K mg "same_solutions" sSameS ["count", "rows", "others"] f fd) (Ds : Def K mg "solved" sSolved ["count", "rows"] fs fds) (GS : FnOk P w K mg base (CXF P w) 6 fs fds ["count", "rows"] (spSolved K C)) : FnOk P w K mg base (CXF P w) 7 f fd ["count", "rows", "others"] (spSameS K C) := by
  refine D.fn.okF scSameS (fun vs H Q E h => ?_) (fun cdv A outer s H vs Q E hr h => ?_)
  · obtain ⟨n, a, b, ps, qs, rs, ss, m, rfl, _⟩ := h
    rfl
  · obtain ⟨n, a, b, ps, qs, rs, ss, m, rfl, ha, hR, hb, hS, l1, l2, hn, b1, b2, e1, e2, hm, hB, kE, kQ⟩ := h
    refine ⟨_, pss_cons (ps_set (i := 3) scSameS.nd rfl (Or.inl rfl) (pe_call GS hr (by rfl) Ds.mg Ds.fn.kp Ds.bd .nil passes_cxOf (pa_cons (pv 0) (pa_cons (pv 1) pa_nil))))
      (pss_cons (ps_set (i := 4) scSameS.nd rfl (Or.inl rfl) (pe_call GS hr (by rfl) Ds.mg Ds.fn.kp Ds.bd .nil passes_cxOf (pa_cons (pv 0) (pa_cons (pv 2) pa_nil))))
      (pss_cons (ps_if (PW.pt (pw_or (pt_cmpR op_eq (pe_ix ix_tup (pv 3) pe_int plainC) pe_str (nomark _)) (pw_or1 (pt_cmpR op_eq (pe_ix ix_tup (pv 4) pe_int plainC) pe_str (nomark _))))) (pss_one (ps_ret (pe_cmpR op_eq (pe_ix ix_tup (pv 3) pe_int plainC) (pe_ix ix_tup (pv 4) pe_int plainC) (nomark _)))) pss_nil)
      (pss_one (ps_ret (pe_cmpR (op_eqAns hr.units) (pv 3) (pv 4) (nomark _)))))), ?_⟩
    dsimp only [cxOf_K]
    refine ⟨n, a, ps, rs, m, rfl, ha, hR, l1, hn, b1, e1, hm, hB, (fun z => kE (.inl z)), fun all1 y1 d1 bd1 rest1 H1 ny1 s1 I1 Z1 A1 => ?_⟩
    refine ⟨n, b, qs, ss, m, rfl, s1.seq hb, hS.same s1, l2, hn, b2, e2, hm, hB, (fun z H' s' => kE (.inr z) H' (s1.trans s')), fun all2 y2 d2 bd2 rest2 H2 ny2 s2 I2 Z2 A2 => ?_⟩
    have kk := fun bv h => kQ all1 all2 d1 d2 bd1 bd2 rest1 rest2 bv H2 (s1.trans s2) I1 I2 h
    rcases A1 with ⟨l1', hl1, hz1, f1, cs1, hy1, _⟩ | ⟨hz1, S1⟩
    · have yq1 : SqT K H2 y1 [.str "never", .ref f1] := SqT.of (s2 _ _ hy1)
      rcases A2 with ⟨l2', hl2, hz2, f2, cs2, hy2, _⟩ | ⟨hz2, S2⟩
      · have yq2 : SqT K H2 y2 [.str "never", .ref f2] := SqT.of hy2
        refine ⟨_, _, yq1, rfl, _, rfl, iteT' (by simp) (iteT' rfl ?_)⟩
        refine ⟨_, _, yq1, rfl, _, _, yq2, rfl, ?_⟩
        have e : decide (V.str "never" = V.str "never") = true := by simp
        show Q (.bl (decide (V.str "never" = V.str "never"))) _
        rw [e]
        exact kk true ⟨fun _ => .inl ⟨⟨l1', hl1, hz1⟩, l2', hl2, hz2⟩, fun _ => rfl⟩
      · obtain ⟨q1, q2, q3, q4, hy2, _⟩ := id S2
        have yq2 : SqT K H2 y2 [.str "solved", .ref q1, .ref q2] := SqT.of hy2
        refine ⟨_, _, yq1, rfl, _, rfl, iteT' (by simp) (iteT' rfl ?_)⟩
        refine ⟨_, _, yq1, rfl, _, _, yq2, rfl, ?_⟩
        show Q (.bl (decide (V.str "never" = V.str "solved"))) _
        rw [decide_eq_false ne_ns]
        refine kk false ⟨(fun z => nomatch z), fun z => ?_⟩
        rcases z with ⟨_, l, hl, hz⟩ | ⟨z, _⟩
        · exact absurd (hz2 l hl) hz
        · exact absurd (z l1' hl1) hz1
    · obtain ⟨q1, q2, q3, q4, hy1, _⟩ := id S1
      have yq1 : SqT K H2 y1 [.str "solved", .ref q1, .ref q2] := SqT.of (s2 _ _ hy1)
      rcases A2 with ⟨l2', hl2, hz2, f2, cs2, hy2, _⟩ | ⟨hz2, S2⟩
      · have yq2 : SqT K H2 y2 [.str "never", .ref f2] := SqT.of hy2
        refine ⟨_, _, yq1, rfl, _, rfl, iteF' (decide_eq_false ne_sn) ?_⟩
        refine ⟨_, _, yq2, rfl, _, rfl, iteT' (by simp) ?_⟩
        refine ⟨_, _, yq1, rfl, _, _, yq2, rfl, ?_⟩
        show Q (.bl (decide (V.str "solved" = V.str "never"))) _
        rw [decide_eq_false ne_sn]
        refine kk false ⟨(fun z => nomatch z), fun z => ?_⟩
        rcases z with ⟨⟨l, hl, hz⟩, _⟩ | ⟨_, z, _⟩
        · exact absurd (hz1 l hl) hz
        · exact absurd (z l2' hl2) hz2
      · obtain ⟨q1', q2', q3', q4', hy2, _⟩ := id S2
        have yq2 : SqT K H2 y2 [.str "solved", .ref q1', .ref q2'] := SqT.of hy2
        refine ⟨_, _, yq1, rfl, _, rfl, iteF' (decide_eq_false ne_sn) ?_⟩
        refine ⟨_, _, yq2, rfl, _, rfl, iteF' (decide_eq_false ne_sn) ?_⟩
        refine ⟨y1, y2, _, _, _, _, _, _, rfl, rfl, S1.same s2, S2, ?_⟩
        refine kk _ ⟨fun z => .inr ⟨hz1, hz2, (of_decide_eq_true z).1, (of_decide_eq_true z).2⟩, fun z => ?_⟩
        rcases z with ⟨⟨l, hl, hz⟩, _⟩ | ⟨_, _, z⟩
        · exact absurd (hz1 l hl) hz
        · exact decide_eq_true z
theorem same_fin {n : Nat} {rs : List (List Int)} {d1 d2 : Int} {bd1 bd2 : List (Nat × List Int)} {rest1 rest2 : List (List Int)} (I1 : Fin n rs d1 bd1 rest1) (I2 : Fin n rs d2 bd2 rest2) (hl : ∀ r ∈ rs, r.length = n + 1) :
    ((∀ l ∈ rest1, g l n = 0) → ∀ l ∈ rest2, g l n = 0) ∧ ((∀ l ∈ rest1, g l n = 0) → (∀ l ∈ rest2, g l n = 0) → ptQ n d1 bd1 = ptQ n d2 bd2 ∧ frees n bd1 = frees n bd2 ∧ ∀ f ∈ frees n bd1, wyQ n d1 bd1 f = wyQ n d2 bd2 f) := by
  refine ⟨fun h l hl' => Decidable.byContradiction fun hz => no_never I2 (len_ptQ n d1 bd1) hl (fun r hr => I1.point h hr (by rw [hl r hr]; (first | lia | omega))) hl' hz, fun h1 h2 => ?_⟩
  exact uniq I1 I2 hl hl ⟨fun r hr => I1.point h1 hr (by rw [hl r hr]; (first | lia | omega)), fun f hf r hr => I1.way h1 hr (by rw [hl r hr]; (first | lia | omega)) (mem_frees.mp hf).1 (mem_frees.mp hf).2⟩
    ⟨fun r hr => I2.point h2 hr (by rw [hl r hr]; (first | lia | omega)), fun f hf r hr => I2.way h2 hr (by rw [hl r hr]; (first | lia | omega)) (mem_frees.mp hf).1 (mem_frees.mp hf).2⟩
section
variable {X : Cx}
theorem ints_items : ∀ {ns : List Int} {its : List Value}, Vals (ns.map V.int) its → ∃ xs : List (Int × Tok), its = xs.map (fun p => Value.int p.1 p.2) ∧ xs.map (·.1) = ns
  | [], _, .nil => ⟨[], rfl, rfl⟩
  | n :: ns, _, .cons h t => by
    obtain ⟨tk, rfl⟩ := h
    obtain ⟨xs, rfl, e⟩ := ints_items t
    exact ⟨(n, tk) :: xs, rfl, by rw [List.map_cons, e]⟩
theorem preSum_list (xs : List (Int × Tok)) : ∀ j, j ≤ xs.length → preSum (numAt xs.toArray) j = ((xs.map (·.1)).take j).sum
  | 0, _ => by simp [preSum]
  | j + 1, h => by
    have ih := preSum_list xs j (by (first | lia | omega))
    have hj : j < xs.length := h
    show preSum (numAt xs.toArray) j + numAt xs.toArray j = _
    rw [ih, List.take_add_one, List.sum_append, List.getElem?_map, List.getElem?_eq_getElem hj]
    unfold numAt
    simp [hj]
theorem call_sum_ints (hc : X.calm = true) : CallR X (.builtin "sum") (fun xs H Q => ∃ (p : Addr) (ns : List Int), xs = [.ref p] ∧ SqL X.K H p (ns.map V.int) ∧ Q (.int ns.sum) H) := by
  intro pins s σ H xs us Q I r h
  obtain ⟨p, ns, rfl, hq, q⟩ := h
  obtain ⟨u, rfl, rx⟩ := vals1 r
  cases rx
  obtain ⟨its, rv, pl, _⟩ := I.list hq
  obtain ⟨zs, rfl, e⟩ := ints_items rv
  refine sum_intListG (xs := zs.toArray) (I.ok.hd hc) ?_ fun h' tk t' hk => ⟨.int ns.sum, H, I.kept (t' := tk) hk, ⟨t', ?_⟩, q⟩
  · have := pl.isList
    unfold intItems
    simpa using this
  · rw [show zs.toArray.size = zs.length from by simp, preSum_list zs _ (Nat.le_refl _), ← List.length_map (f := (·.1)) (as := zs), List.take_length, e]
end
theorem bt_sum : bootBuiltins "sum" = some (.builtin "sum") := by decide +kernel
def mvQ (ps ws : List Rat) (q : Rat) : List Rat := List.zipWith (fun p w => p + q * w) ps ws
theorem mv_take {ps ws : List Rat} {q x y : Rat} {i : Nat} (hx : ps[i]? = some x) (hy : ws[i]? = some y) : (mvQ ps ws q).take (i + 1) = (mvQ ps ws q).take i ++ [x + q * y] := by
  refine take_snoc ?_
  unfold mvQ
  rw [List.getElem?_zipWith, hx, hy]
def spMoved (K : PySem.W.Frag) : Sp := fun vs H Q _ => ∃ (a b v : Addr) (cs ds : List Addr) (ps ws : List Rat) (q : Rat) (S : Nat), vs = [.ref a, .ref b, .ref v] ∧ SqL K H a (cs.map V.ref) ∧ FrsAt K H cs ps ∧ SqL K H b (ds.map V.ref) ∧ FrsAt K H ds ws ∧ FrAt K H v q ∧ ps.length = ws.length ∧ ps.length ≤ 400 ∧ (∀ p ∈ ps, Sz S p) ∧ (∀ p ∈ ws, Sz S p) ∧ Sz S q ∧ S ≤ 10000000 ∧
  ∀ (c : Addr) (es : List Addr) (H' : Hp), H c = none → H' c = some (.lst (es.map V.ref)) → TupsAt H' es (mvQ ps ws q) → Same H H' → Q (.ref c) H'
theorem scMoved : FnScope ["point", "way", "value"] ["point", "way", "value"] (defScope sMoved) := ⟨rfl, rfl, rfl, by decide +kernel, rfl, by decide +kernel, by decide +kernel⟩
theorem ok_moved {f fp ft ff fg : Addr} {fd fdp fdt fdf fdg : FuncData} (D : Def K mg "moved" sMoved ["point", "way", "value"] f fd) (B : Blt mg) (hP : P.given.tree = none) (Dp : Def K mg "plus" sPlus ["one", "two"] fp fdp) (Dt : Def K mg "times" sTimes ["one", "two"] ft fdt) (Df : Def K mg "fraction" sFrac ["top", "bottom"] ff fdf) (Dg : Def K mg "greatest_divisor" sGd ["one", "two"] fg fdg) :
    FnOk P w K mg base CX0 4 f fd ["point", "way", "value"] (spMoved K) := by
  have GP : FnOk P w K mg base CX0 3 fp fdp ["one", "two"] (spPlusX K) := (ok_plusX Dp B hP Dg).mono (by decide)
  have GT : FnOk P w K mg base CX0 3 ft fdt ["one", "two"] (spTimesX K) := ok_timesX Dt B hP Df Dg
  refine D.fn.ok scMoved (fun vs H Q E h => ?_) (fun cdv A outer s H vs Q E hr h => ?_)
  · obtain ⟨a, b, v, cs, ds, ps, ws, q, S, rfl, _⟩ := h
    rfl
  · obtain ⟨a, b, v, cs, ds, ps, ws, q, S, rfl, ha, hF, hb, hG, hv, hl, hl2, sp, sw, sq, hS, k⟩ := h
    refine ⟨_, pss_one (ps_ret (pe_comp ["own", "step"] [("value", 2)] rfl (compSc_mk (by rfl) (by rfl) (by rfl)) (pi_zip (by rfl) B.zip (pa_cons (pv 0) (pa_cons (pv 1) pa_nil))) (gk_tup2 (i := 0) (j := 1) (by decide) (by decide))
      (fun cl C s H fp pins => pg_tup rfl (pgs_cons (pg_name (i := 0) (by show (["own", "step", "value"] : List Str).Nodup; decide +kernel) rfl (Or.inl rfl) (Or.inr rfl)) (pgs_cons (pg_name (i := 1) (by show (["own", "step", "value"] : List Str).Nodup; decide +kernel) rfl (Or.inl rfl) (Or.inr rfl)) pgs_nil)))
      (fun cl C s H fp pins => pe_call GP hr (by rfl) Dp.mg Dp.fn.kp Dp.bd .nil pass0 (pa_cons (pv 0) (pa_cons (pe_call GT hr (by rfl) Dt.mg Dt.fn.kp Dt.bd .nil pass0 (pa_cons (pv 2) (pa_cons (pv 1) pa_nil))) pa_nil))))), ?_⟩
    have lc : cs.length = ps.length := hF.len
    have ld : ds.length = ws.length := hG.len
    have lz : (mvQ ps ws q).length = ps.length := by unfold mvQ; rw [List.length_zipWith]; (first | lia | omega)
    refine ⟨a, b, rfl, ⟨_, ha⟩, ⟨_, hb⟩, fun Da hD => ?_⟩
    refine comp_zip (xs := cs.map V.ref) (ys' := ds.map V.ref) (fun i ys H' => Same H H' ∧ H' Da = some (.lst ys) ∧ ∃ es : List Addr, ys = es.map V.ref ∧ TupsAt H' es ((mvQ ps ws q).take i)) ⟨Same.upd hD, upd_same, [], rfl, .nil⟩ ?_ ?_ ?_
    · rintro i ys H' hi ⟨sm, e, es, rfl, hT⟩
      have := Paired.length hT
      refine ⟨e, ?_, sm.seq ha, sm.seq hb⟩
      rw [List.length_map, this, List.length_take]
      exact small1000 (by (first | lia | omega))
    · rintro i x y ys H' T hx hy ⟨sm, e, es, rfl, hT⟩ nT
      rw [List.getElem?_map] at hx hy
      cases ex : cs[i]? with
      | none => rw [ex] at hx; cases hx
      | some c1 =>
        cases ey : ds[i]? with
        | none => rw [ey] at hy; cases hy
        | some c2 =>
          rw [ex] at hx; rw [ey] at hy
          have hx' : x = V.ref c1 := (Option.some.inj hx).symm
          have hy' : y = V.ref c2 := (Option.some.inj hy).symm
          subst hx'; subst hy'
          obtain ⟨p1, e1, h1⟩ := hF.get ex
          obtain ⟨p2, e2, h2⟩ := hG.get ey
          have sT : Same H' (upd H' T (.tup [.ref c1, .ref c2])) := Same.upd nT
          have s2 := sm.trans sT
          have z1 := sp p1 (List.mem_of_getElem? e1)
          have z2 := sw p2 (List.mem_of_getElem? e2)
          refine ⟨T, _, rfl, SqT.of upd_same, rfl, _, _, rfl, _, _, rfl, rfl, ?_⟩
          refine ⟨v, c2, q, p2, S, rfl, s2.fr hv, s2.fr h2, sq, z2, (by (first | lia | omega)), fun c3 H3 n3 e3 s3 => ?_⟩
          refine ⟨c1, c3, p1, q * p2, S + S, rfl, s3.fr (s2.fr h1), frAt_new e3, z1.mono (by (first | lia | omega)), sz_times sq z2, (by (first | lia | omega)), fun c4 H4 n4 e4 s4 => ?_⟩
          have s34 := sT.trans (s3.trans s4)
          have eD := s34 _ _ e
          refine ⟨eD, (sm.trans s34).updn hD, upd_same, es ++ [c4], by simp, ?_⟩
          rw [mv_take e1 e2]
          exact TupsAt.updl (TupsAt.snoc e4 (hT.same s34)) eD
    · rintro ys H' ⟨sm, e, es, rfl, hT⟩
      have em : min (cs.map V.ref).length (ds.map V.ref).length = (mvQ ps ws q).length := by rw [List.length_map, List.length_map, lz]; (first | lia | omega)
      rw [em, List.take_length] at hT
      exact k Da es H' hD e hT sm
theorem sz_mv {ps ws : List Rat} {q : Rat} {S : Nat} (h1 : ∀ p ∈ ps, Sz S p) (h2 : ∀ p ∈ ws, Sz S p) (h3 : Sz S q) : ∀ p ∈ mvQ ps ws q, Sz (3 * S + 1) p := by
  intro x hx
  unfold mvQ at hx
  obtain ⟨i, hi⟩ := List.mem_iff_getElem?.mp hx
  rw [List.getElem?_zipWith] at hi
  cases e1 : ps[i]? with
  | none => rw [e1] at hi; simp at hi
  | some p =>
    cases e2 : ws[i]? with
    | none => rw [e1, e2] at hi; simp at hi
    | some w' =>
      rw [e1, e2] at hi
      have hi' : x = p + q * w' := (Option.some.inj hi).symm
      rw [hi']
      have := sz_plus (h1 p (List.mem_of_getElem? e1)) (sz_times h3 (h2 w' (List.mem_of_getElem? e2)))
      exact this.mono (by (first | lia | omega))
def PtAt (H : Hp) (a : Addr) (qs : List Rat) : Prop := ∃ cs : List Addr, H a = some (.lst (cs.map V.ref)) ∧ TupsAt H cs qs
theorem PtAt.same {H H' : Hp} {a : Addr} {qs : List Rat} (h : PtAt H a qs) (s : Same H H') : PtAt H' a qs := let ⟨cs, a, b⟩ := h; ⟨cs, s _ _ a, b.same s⟩
def PtsAt (H : Hp) (as : List Addr) (pts : List (List Rat)) : Prop := Paired (fun a qs => PtAt H a qs) as pts
theorem PtsAt.same {H H' : Hp} {as : List Addr} {pts : List (List Rat)} (h : PtsAt H as pts) (s : Same H H') : PtsAt H' as pts := Paired.mapP h fun _ _ z => z.same s
theorem PtsAt.snoc {H : Hp} {a : Addr} {qs : List Rat} (ha : PtAt H a qs) : ∀ {as : List Addr} {pts : List (List Rat)}, PtsAt H as pts → PtsAt H (as ++ [a]) (pts ++ [qs])
  | _, _, .nil => .cons ha .nil
  | _, _, .cons a t => .cons a (PtsAt.snoc ha t)
theorem PtsAt.get {H : Hp} : ∀ {as : List Addr} {pts : List (List Rat)} {i : Nat} {a : Addr}, PtsAt H as pts → as[i]? = some a → ∃ qs, pts[i]? = some qs ∧ PtAt H a qs
  | _, _, _, _, .nil, e => by simp at e
  | _, _, 0, _, .cons r _, e => by simp at e; subst e; exact ⟨_, rfl, r⟩
  | _, _, i + 1, c, .cons _ t, e => by
    obtain ⟨q, h1, h2⟩ := PtsAt.get (i := i) (a := c) t (by simpa using e)
    exact ⟨q, by simpa using h1, h2⟩
theorem PtsAt.upd {H : Hp} {p : Addr} {o : HO} {xs : List V} {as : List Addr} {pts : List (List Rat)} (h : PtsAt H as pts) (ha : ∀ a ∈ as, a ≠ p) (hp : H p = some (.lst xs)) : PtsAt (L2.upd H p o) as pts := by
  unfold PtsAt at h ⊢
  induction h with
  | nil => exact .nil
  | @cons a qs as pts r t ih =>
    obtain ⟨cs, h1, h2⟩ := r
    exact .cons ⟨cs, by rw [upd_ne (ha a (by simp))]; exact h1, h2.updl hp⟩ (ih fun b hb => ha b (by simp [hb]))
def tellQ (pt : List Rat) (fs : List Nat) (F : Nat → List Rat) : List (List Rat) := pt :: fs.map fun f => mvQ pt (F f) 1
def spTell (K : PySem.W.Frag) : Sp := fun vs H Q _ => ∃ (l wl : Addr) (cs ws : List Addr) (pt : List Rat) (fs : List Nat) (F : Nat → List Rat) (S : Nat), vs = [.ref l, .ref wl] ∧ H l = some (.lst (cs.map V.ref)) ∧ TupsAt H cs pt ∧ H wl = some (.lst (ws.map V.ref)) ∧ WaysAt H ws fs F ∧ (∀ f ∈ fs, (F f).length = pt.length) ∧ pt.length ≤ 400 ∧ fs.length ≤ 400 ∧ (∀ q ∈ pt, Sz S q) ∧ (∀ f ∈ fs, ∀ q ∈ F f, Sz S q) ∧ 1 ≤ S ∧ S ≤ 10000000 ∧
  ∀ (c : Addr) (as : List Addr) (H' : Hp), H c = none → H' c = some (.lst (as.map V.ref)) → PtsAt H' as (tellQ pt fs F) → Same H H' → Q (.ref c) H'
theorem scTell : FnScope ["point", "ways"] ["point", "ways"] (defScope sTell) := ⟨rfl, rfl, rfl, by decide +kernel, rfl, by decide +kernel, by decide +kernel⟩
theorem ok_tell {f fm : Addr} {fd fdm : FuncData} (D : Def K mg "telling_points" sTell ["point", "ways"] f fd) (Dm : Def K mg "moved" sMoved ["point", "way", "value"] fm fdm) (GM : FnOk P w K mg base CX0 4 fm fdm ["point", "way", "value"] (spMoved K)) : FnOk P w K mg base CX0 5 f fd ["point", "ways"] (spTell K) := by
  refine D.fn.ok scTell (fun vs H Q E h => ?_) (fun cdv A outer s H vs Q E hr h => ?_)
  · obtain ⟨l, wl, cs, ws, pt, fs, F, S, rfl, _⟩ := h
    rfl
  · obtain ⟨l, wl, cs, ws, pt, fs, F, S, rfl, hl, hT, hwl, hW, lF, lpt, lfs, sp, sF, hS1, hS, k⟩ := h
    refine ⟨_, pss_one (ps_ret (pe_op op_cat (pe_lst (pa_cons (pv 0) pa_nil)) (pe_comp ["pair"] [("point", 0)] rfl (compSc_mk (by rfl) (by rfl) (by rfl)) (pi_list (pv 1)) (gk_name (i := 0) (by decide))
      (fun cl C s H fp pins => pg_name (i := 0) (by show (["pair", "point"] : List Str).Nodup; decide +kernel) rfl (Or.inl rfl) (Or.inr rfl))
      (fun cl C s H fp pins => pe_call GM hr (by rfl) Dm.mg Dm.fn.kp Dm.bd .nil pass0 (pa_cons (pv 1) (pa_cons (pe_ix ixC_tup (pv 0) pe_int plainC) (pa_cons (pe_tup (pa_cons pe_int (pa_cons pe_int pa_nil))) pa_nil))))))), ?_⟩
    have lws : ws.length = fs.length := Paired.length hW
    refine ⟨(by show 1 ≤ sizeLine; decide), fun l1 h1 => ?_⟩
    have s1 : Same H (upd H l1 (.lst [.ref l])) := Same.upd h1
    have el1 : (upd H l1 (.lst [.ref l])) l1 = some (.lst [.ref l]) := upd_same
    generalize upd H l1 (.lst [.ref l]) = H1 at s1 el1
    refine ⟨wl, rfl, ⟨_, SqL.of (s1 _ _ hwl)⟩, fun Da hD => ?_⟩
    refine comp_list (K := K) (a := wl) (xs := ws.map V.ref) (Q := fun x H1 => rCat (.ref l1) x H1 Q) (fun i ys H' => Same H1 H' ∧ H' Da = some (.lst ys) ∧ ∃ as : List Addr, ys = as.map V.ref ∧ (∀ a ∈ as, a ≠ Da) ∧ PtsAt H' as ((fs.take i).map fun f => mvQ pt (F f) 1)) ⟨Same.upd hD, upd_same, [], rfl, (fun _ z => nomatch z), .nil⟩ ?_ ?_ ?_
    · rintro i ys H' hi ⟨sm, e, as, rfl, hne, hP⟩
      have := Paired.length hP
      refine ⟨e, ?_, SqL.of (sm _ _ (s1 _ _ hwl))⟩
      rw [List.length_map, this, List.length_map, List.length_take]
      exact small1000 (by (first | lia | omega))
    · rintro i x ys H' hx ⟨sm, e, as, rfl, hne, hP⟩
      rw [List.getElem?_map] at hx
      cases ep : ws[i]? with
      | none => rw [ep] at hx; cases hx
      | some p =>
        rw [ep] at hx
        have hx' : x = V.ref p := (Option.some.inj hx).symm
        subst hx'
        obtain ⟨fr, efr, l2, cs2, hp, hl2, hT2⟩ := hW.get ep
        have hfm := List.mem_of_getElem? efr
        have sA := s1.trans sm
        refine ⟨_, _, SqT.of (sA _ _ hp), rfl, (by show 2 ≤ sizeLine; decide), fun t ht => ?_⟩
        have st : Same H' (upd H' t (.tup [.int 1, .int 1])) := Same.upd ht
        have sB := sA.trans st
        have one : Sz S 1 := ⟨Nat.one_lt_two_pow (by (first | lia | omega)), Nat.one_lt_two_pow (by (first | lia | omega))⟩
        refine ⟨l, l2, t, cs, cs2, pt, F fr, 1, S, rfl, SqL.of (sB _ _ hl), (hT.same sB).frs, SqL.of (sB _ _ hl2), (hT2.same sB).frs, ?_, (lF fr hfm).symm, lpt, sp, sF fr hfm, one, hS, fun c es H3 nc ec hTc s3 => ?_⟩
        · refine SqT.of ?_
          rw [upd_same, FrT1]
        have s23 := st.trans s3
        have eD := s23 _ _ e
        have cne : c ≠ Da := fun z => by rw [z, st _ _ e] at nc; cases nc
        refine ⟨eD, (sm.trans s23).updn hD, upd_same, as ++ [c], by simp, ?_, ?_⟩
        · intro a ha
          rcases List.mem_append.mp ha with z | z
          · exact hne a z
          · rw [List.mem_singleton.mp z]; exact cne
        · rw [take_snoc efr, List.map_append]
          refine PtsAt.upd (PtsAt.snoc ⟨es, ec, hTc⟩ (hP.same s23)) ?_ eD
          intro a ha
          rcases List.mem_append.mp ha with z | z
          · exact hne a z
          · rw [List.mem_singleton.mp z]; exact cne
    · rintro ys H' ⟨sm, e, as, rfl, hne, hP⟩
      rw [List.length_map, lws, List.take_length] at hP
      refine ⟨l1, Da, _, _, rfl, rfl, sm _ _ el1, e, ?_, fun c hc => ?_⟩
      · have := Paired.length hP
        rw [List.length_map, this, List.length_map]; show 1 + fs.length ≤ sizeLine; exact Nat.le_of_lt (small1000 (by (first | lia | omega)))
      have sA := s1.trans (sm.trans (Same.upd (o := .lst ([.ref l] ++ as.map V.ref)) hc))
      exact k c (l :: as) _ ((s1.trans sm).free hc) upd_same (.cons ⟨cs, sA _ _ hl, hT.same sA⟩ (hP.same (Same.upd hc))) sA
def facsQ (n m : Nat) (d : Int) (bd : List (Nat × List Int)) (row : List Int) : List Rat := (List.range m).map fun t => Rat.divInt (bsum bd row (n + 1 + t)) d
def spFacs (K : PySem.W.Frag) (R : Addr) : Sp := fun vs H Q _ => ∃ (n m : Nat) (x a : Addr) (d : Int) (bd : List (Nat × List Int)) (rest : List (List Int)) (row : List Int) (S : Nat), vs = [.int n, .ref x, .int m, .ref a] ∧ RedAt R H x d bd rest ∧ SqL K H a (row.map V.int) ∧ d ≠ 0 ∧ (∀ y ∈ bd, y.1 < row.length) ∧ (∀ y ∈ bd, y.2.length = n + 1 + m) ∧ n ≤ 400 ∧ m ≤ 400 ∧ bd.length ≤ 400 ∧ Bdd S row ∧ (∀ y ∈ bd, Bdd S y.2) ∧ S ≤ 10000000 ∧
  ∀ (c : Addr) (cs : List Addr) (H' : Hp), H c = none → H' c = some (.lst (cs.map V.ref)) → TupsAt H' cs (facsQ n m d bd row) → Same H H' → Q (.ref c) H'
theorem scFacs : FnScope ["count", "reduction", "length", "row", "factors", "place", "top"] ["count", "reduction", "length", "row"] (defScope sFacs) := ⟨rfl, rfl, rfl, by decide +kernel, rfl, by decide +kernel, by decide +kernel⟩
theorem bsum_sum (row : List Int) (j : Nat) : ∀ bd : List (Nat × List Int), (bd.map fun y => g row y.1 * g y.2 j).sum = bsum bd row j
  | [] => rfl
  | x :: r => by
    rw [List.map_cons, List.sum_cons, bsum_sum row j r]
    rfl
theorem comp_itemsI {K : PySem.W.Frag} {n1 n2 : Str} {fr : List (Str × Nat)} {t te : TE} {σ : St} {H : Hp} {Q : VK} {db : Addr} {ob : Obj} {kvs : List (Key × V)} (bd : List (Nat × List Int)) (f : Nat × List Int → Int) (hl : bd.length ≤ 500) (ht : ∀ R : VK, R (.ref db) H → t σ H R) (hdb : H db = some (.frz ob (.dK kvs))) (hBd : BdAt H kvs bd)
    (hte : ∀ (y : Nat × List Int) (p : Addr) (H1 : Hp) (R : VK), y ∈ bd → H1 p = some (.lst (y.2.map V.int)) → Same H H1 → R (.int (f y)) H1 → te (((stC [n1, n2] fr σ).set 0 (some (.int (y.1 : Int)))).set 1 (some (.ref p))) H1 R)
    (k : ∀ (Dh : Addr) (H' : Hp), H Dh = none → H' Dh = some (.lst ((bd.map f).map V.int)) → Same H H' → Q (.ref Dh) H') :
    tComp (iItems t) (gTup K 2 (gCons (gName 0) (gCons (gName 1) gNil))) [n1, n2] fr te σ H Q := by
  have lk : kvs.length = bd.length := Paired.length hBd
  refine ht _ ⟨db, ob, kvs, rfl, hdb, fun Dh hDh => ?_⟩
  refine comp_items (kvs := kvs) (Q := Q) (fun i ys H4 => Same H H4 ∧ H4 Dh = some (.lst ys) ∧ ys = ((bd.map f).take i).map V.int) ⟨Same.upd hDh, upd_same, by simp⟩ ?_ ?_ ?_
  · rintro i ys H4 hi ⟨s4, e4, rfl⟩
    refine ⟨e4, ?_, s4 _ _ hdb⟩
    rw [List.length_map, List.length_take, List.length_map]
    exact small1000 (by (first | lia | omega))
  · rintro i kv ys H4 T ek ⟨s4, e4, rfl⟩ nT
    obtain ⟨y, p, ey, rfl, hp⟩ := hBd.get' ek
    have sT : Same H4 (upd H4 T (.tup [kV (Sum.inl (y.1 : Int) : Key), V.ref p])) := Same.upd nT
    refine ⟨T, _, rfl, SqT.of upd_same, rfl, _, _, rfl, _, _, rfl, rfl, ?_⟩
    refine hte y p _ _ (List.mem_of_getElem? ey) ((s4.trans sT) _ _ hp) (s4.trans sT) ⟨sT _ _ e4, (s4.trans sT).updn hDh, upd_same, ?_⟩
    have em : (bd.map f)[i]? = some (f y) := by rw [List.getElem?_map, ey]; rfl
    rw [take_snoc em, List.map_append]
    rfl
  · rintro ys H4 ⟨s4, e4, rfl⟩
    rw [lk, ← List.length_map (f := f) (as := bd), List.take_length] at e4
    exact k Dh H4 hDh e4 s4
theorem ok_facs {f ff fg R0 : Addr} {fd fdf fdg : FuncData} (D : Def K mg "factors_to" sFacs ["count", "reduction", "length", "row"] f fd) (B : Blt mg) (hP : P.given.tree = none) (bs' : mg "sum" = none) (T : TxtR K mg R0) (Df : Def K mg "fraction" sFrac ["top", "bottom"] ff fdf) (Dg : Def K mg "greatest_divisor" sGd ["one", "two"] fg fdg) : FnOk P w K mg base CX0 3 f fd ["count", "reduction", "length", "row"] (spFacs K R0) := by
  have GF : FnOk P w K mg base CX0 2 ff fdf ["top", "bottom"] spFracX := ok_fracX Df B hP Dg
  refine D.fn.ok scFacs (fun vs H Q E h => ?_) (fun cdv A outer s H vs Q E hr h => ?_)
  · obtain ⟨n, m, x, a, d, bd, rest, row, S, rfl, _⟩ := h
    rfl
  · obtain ⟨n, m, x, a, d, bd, rest, row, S, rfl, hRed, ha, hd, hkn, hln, hn, hm, hbl, brow, bbd, hS, k⟩ := h
    obtain ⟨dx, db, ob, kvs, lr, ls, hx, hdb, hBd, hlr, hls⟩ := id hRed
    have lk : kvs.length = bd.length := Paired.length hBd
    refine ⟨_, pss_cons (ps_set (i := 4) scFacs.nd rfl (Or.inl rfl) (pe_lst pa_nil))
      (pss_cons (ps_for PassesOwn.never rfl (pi_range2 (by rfl) B.range (pa_cons (pe_op op_add (pv 0) pe_int) (pa_cons (pe_op op_add (pe_op op_add (pv 0) pe_int) (pv 2)) pa_nil))) (pg_name (i := 5) scFacs.nd rfl (Or.inr rfl))
        (pss_cons (ps_set (i := 6) scFacs.nd rfl (Or.inl rfl) (pe_callB (call_sum_ints rfl) (by rfl) bs' bt_sum (pa_cons (pe_comp ["unknown", "line"] [("row", 3), ("place", 5)] rfl (compSc_mk (by rfl) (by rfl) (by rfl)) (pi_items (pe_fld (pv 1) rfl)) (gk_tup2 (i := 0) (j := 1) (by decide) (by decide))
            (fun cl C s H fp pins => pg_tup rfl (pgs_cons (pg_name (i := 0) (by show (["unknown", "line", "row", "place"] : List Str).Nodup; decide +kernel) rfl (Or.inl rfl) (Or.inr rfl)) (pgs_cons (pg_name (i := 1) (by show (["unknown", "line", "row", "place"] : List Str).Nodup; decide +kernel) rfl (Or.inl rfl) (Or.inr rfl)) pgs_nil)))
            (fun cl C s H fp pins => pe_op op_mulB (pe_ix ixC_list (pv 2) (pv 0) plainN) (pe_ix ixC_list (pv 1) (pv 3) plainN))) pa_nil)))
        (pss_one (ps_expr (pe_bm PySem.F.plainAttrs_list PySem.F.slot_list_append PySem.F.type_list_append mt_append (pv 4) (pa_cons (pe_call GF hr (by rfl) Df.mg Df.fn.kp Df.bd .nil pass0 (pa_cons (pv 6) (pa_cons (pe_fld (pv 1) rfl) pa_nil))) pa_nil))))))
      (pss_one (ps_ret (pv 4)))), ?_⟩
    refine ⟨(by show 0 ≤ sizeLine; decide), fun c hc => ?_⟩
    have s0 : Same H (upd H c (.lst [])) := Same.upd hc
    refine ⟨_, _, rfl, ⟨by (first | lia | omega), by (first | lia | omega), by (first | lia | omega), by (first | lia | omega)⟩, ?_⟩
    have en : (((n : Int) + 1 + (m : Int)) - ((n : Int) + 1)).toNat = m := by (first | lia | omega)
    rw [en]
    refine for_range (fun i σ H' => ∃ (cs : List Addr) (x5 x6 : Option V), σ = [some (.int n), some (.ref x), some (.int m), some (.ref a), some (.ref c), x5, x6] ∧ Same H H' ∧ H' c = some (.lst (cs.map V.ref)) ∧ TupsAt H' cs (facsQ n i d bd row)) ⟨[], none, none, rfl, s0, upd_same, .nil⟩ ?_ ?_
    · rintro i σ H' hi ⟨cs, x5, x6, rfl, sm, ec, hT⟩
      have ei : (n : Int) + 1 + (i : Int) = ((n + 1 + i : Nat) : Int) := by (first | lia | omega)
      show gName 5 (.int ((n : Int) + 1 + (i : Int))) _ _ _
      rw [ei]
      dsimp only [gName, tSeq, tAsg, tCB, tCons]
      refine comp_itemsI (K := K) (db := db) bd (fun y => g row y.1 * g y.2 (n + 1 + i)) (by (first | lia | omega)) (fun R h => ⟨x, R0, dx, _, _, rfl, sm _ _ hx, T.cl, T.nB, fldR_b _ _ _, h⟩) (sm _ _ hdb) (hBd.same sm) (fun y p H1 R hy hp s1 h => ?_) (fun Dh H4 nD e4 s4 => ?_)
      · have hyl := hln y hy
        have a1 : atI (row.map V.int) (y.1 : Int) = some (.int (g row y.1)) := at_map (hkn y hy)
        have a2 : atI (y.2.map V.int) ((n + 1 + i : Nat) : Int) = some (.int (g y.2 (n + 1 + i))) := at_map (by (first | lia | omega))
        exact ⟨_, _, (sm.trans s1).seq ha, a1, _, _, SqL.of hp, a2, cmul_of (brow.g y.1) ((bbd y hy).g _) (by (first | lia | omega)), h⟩
      · have sA := sm.trans s4
        refine ⟨Dh, _, rfl, SqL.of e4, ?_⟩
        rw [bsum_sum]
        have ec4 := s4 _ _ ec
        refine ⟨.inl ⟨rfl, _, SqL.of ec4⟩, ?_⟩
        refine ⟨x, R0, dx, _, _, rfl, sA _ _ hx, T.cl, T.nD, fldR_d _ _ _, _, d, rfl, hd, fun q H5 nq eq s5 => ?_⟩
        have e5 := s5 _ _ ec4
        have lT := Paired.length hT
        refine ⟨_, e5, ?_, ?_⟩
        · rw [List.length_map, lT]; unfold facsQ; rw [List.length_map, List.length_range]; exact small1000 (by (first | lia | omega))
        refine ⟨cs ++ [q], _, _, rfl, (sA.trans s5).updn hc, by rw [upd_same, List.map_append]; rfl, ?_⟩
        have ef : facsQ n (i + 1) d bd row = facsQ n i d bd row ++ [Rat.divInt (bsum bd row (n + 1 + i)) d] := by unfold facsQ; rw [List.range_succ, List.map_append]; rfl
        rw [ef]
        exact TupsAt.updl (TupsAt.snoc eq (hT.same (s4.trans s5))) e5
    · rintro σ H' ⟨cs, x5, x6, rfl, sm, ec, hT⟩
      exact (k c cs H' hc ec hT sm)
def WordAt (H : Hp) (y : Addr) (s : Str) (qs : List Rat) : Prop := ∃ (l : Addr) (cs : List Addr), H y = some (.tup [.str s, .ref l]) ∧ H l = some (.lst (cs.map V.ref)) ∧ TupsAt H cs qs
def FolOf (n m : Nat) (d : Int) (bd : List (Nat × List Int)) (rest : List (List Int)) (row : List Int) (H : Hp) (y : Addr) : Prop :=
  (∃ l ∈ rest, g l n ≠ 0 ∧ WordAt H y "never" (facQ n l)) ∨ ((∀ l ∈ rest, g l n = 0) ∧
    ((∃ qs ∈ tellQ (ptQ n d bd) (frees n bd) (wyQ n d bd), dot (row.take n) qs ≠ (g row n : Rat) ∧ WordAt H y "missed" qs) ∨
    ((∀ qs ∈ tellQ (ptQ n d bd) (frees n bd) (wyQ n d bd), dot (row.take n) qs = (g row n : Rat)) ∧ WordAt H y "sum" (facsQ n m d bd row))))
def spFol (K : PySem.W.Frag) (C : Addr) : Sp := fun vs H Q E => ∃ (n : Nat) (a rw : Addr) (ps : List Addr) (rs : List (List Int)) (row : List Int) (m : Nat), vs = [.int n, .ref a, .ref rw] ∧ SqL K H a (ps.map V.ref) ∧ RowsL H ps rs ∧ H rw = some (.lst (row.map V.int)) ∧ rs.length ≤ 400 ∧ n ≤ 400 ∧ (∀ r ∈ rs, Bdd m r) ∧ (∀ r ∈ rs, r.length ≤ 500) ∧ Bdd m row ∧ row.length ≤ 500 ∧ 1 ≤ m ∧ 3 * bz n m + 1 ≤ 1000000 ∧ (n + 1) * (2 * (3 * bz n m + 1) + 2) ≤ 20000000 ∧
  ((row.length ≠ n + 1 ∨ ∃ r ∈ rs, r.length ≠ n + 1) → ∀ H', Same H H' → E (.ref C) none H') ∧
  (row.length = n + 1 → (∀ r ∈ rs, r.length = n + 1) → ∀ (y : Addr) (d : Int) (bd : List (Nat × List Int)) (rest : List (List Int)) (H' : Hp), H y = none → Same H H' → Fin n rs d bd rest → Sizes (bz n m) d bd rest → FolOf n rs.length d bd rest row H' y → Q (.ref y) H')
theorem scFol : FnScope ["count", "rows", "row", "reduction", "answer", "point"] ["count", "rows", "row"] (defScope sFollows) := ⟨rfl, rfl, rfl, by decide +kernel, rfl, by decide +kernel, by decide +kernel⟩
theorem ok_fol {f fk fr fa ft ff fc C R : Addr} {fd fdk fdr fda fdt fdf fdc : FuncData} (D : Def K mg "follows" sFollows ["count", "rows", "row"] f fd) (B : Blt mg)
    (Dk : Def K mg "check_rows" sCheck ["count", "rows"] fk fdk) (Dr : Def K mg "reduced" sRed ["count", "rows"] fr fdr) (Da : Def K mg "answer_of" sAns ["count", "reduction"] fa fda) (Dt : Def K mg "telling_points" sTell ["point", "ways"] ft fdt) (Df : Def K mg "fits" sFits ["row", "point"] ff fdf) (Dc : Def K mg "factors_to" sFacs ["count", "reduction", "length", "row"] fc fdc)
    (GK : FnOk P w K mg base (CXF P w) 6 fk fdk ["count", "rows"] (spCheck K C)) (GR : FnOk P w K mg base (CXF P w) 6 fr fdr ["count", "rows"] (spRed K C R)) (GA : FnOk P w K mg base CX0 6 fa fda ["count", "reduction"] (spAns R)) (GT : FnOk P w K mg base CX0 6 ft fdt ["point", "ways"] (spTell K)) (GF : FnOk P w K mg base CX0 6 ff fdf ["row", "point"] (spFits K)) (GC : FnOk P w K mg base CX0 6 fc fdc ["count", "reduction", "length", "row"] (spFacs K R)) :
    FnOk P w K mg base (CXF P w) 7 f fd ["count", "rows", "row"] (spFol K C) := by
  refine D.fn.okF scFol (fun vs H Q E h => ?_) (fun cdv A outer s H vs Q E hr h => ?_)
  · obtain ⟨n, a, rw, ps, rs, row, m, rfl, _⟩ := h
    rfl
  · obtain ⟨n, a, rw, ps, rs, row, m, rfl, ha, hR, hrw, l1, hn, b1, e1, brow, lrow, hm, hS, hfit, kE, kQ⟩ := h
    have hS' : bz n m ≤ 20000000 := by (first | lia | omega)
    refine ⟨_, pss_cons (ps_expr (pe_call GK hr (by rfl) Dk.mg Dk.fn.kp Dk.bd .nil passes_cxOf (pa_cons (pv 0) (pa_cons (pe_lst (pa_cons (pv 2) pa_nil)) pa_nil))))
      (pss_cons (ps_set (i := 3) scFol.nd rfl (Or.inl rfl) (pe_call GR hr (by rfl) Dr.mg Dr.fn.kp Dr.bd .nil passes_cxOf (pa_cons (pv 0) (pa_cons (pv 1) pa_nil))))
      (pss_cons (ps_set (i := 4) scFol.nd rfl (Or.inl rfl) (pe_call GA hr (by rfl) Da.mg Da.fn.kp Da.bd .nil pass0 (pa_cons (pv 0) (pa_cons (pv 3) pa_nil))))
      (pss_cons (ps_if (pt_cmpR op_eq (pe_ix ix_tup (pv 4) pe_int plainC) pe_str (nomark _)) (pss_one (ps_ret (pv 4))) pss_nil)
      (pss_cons (ps_for PassesOwn.leaving rfl (pi_list (pe_call GT hr (by rfl) Dt.mg Dt.fn.kp Dt.bd .nil pass0 (pa_cons (pe_ix ix_tup (pv 4) pe_int plainC) (pa_cons (pe_ix ix_tup (pv 4) pe_int plainC) pa_nil)))) (pg_name (i := 5) scFol.nd rfl (Or.inl rfl))
        (pss_one (ps_if (pt_not (pt_val (pe_call GF hr (by rfl) Df.mg Df.fn.kp Df.bd .nil pass0 (pa_cons (pv 2) (pa_cons (pv 5) pa_nil))))) (pss_one (ps_ret (pe_tup (pa_cons pe_str (pa_cons (pv 5) pa_nil))))) pss_nil)))
      (pss_one (ps_ret (pe_tup (pa_cons pe_str (pa_cons (pe_call GC hr (by rfl) Dc.mg Dc.fn.kp Dc.bd .nil pass0 (pa_cons (pv 0) (pa_cons (pv 3) (pa_cons (pe_callB call_len_seq (by rfl) B.len bt_len (pa_cons (pv 1) pa_nil)) (pa_cons (pv 2) pa_nil))))) pa_nil))))))))), ?_⟩
    refine ⟨(by show 1 ≤ sizeLine; decide), fun l0 hl0 => ?_⟩
    have s0 : Same H (upd H l0 (.lst [.ref rw])) := Same.upd hl0
    refine ⟨n, l0, [rw], [row], rfl, SqL.of upd_same, .cons (SqL.of (s0 _ _ hrw)) .nil, (by show 1 ≤ 1000; decide), ?_, fun hall H1 s1 => ?_⟩
    · rintro ⟨r, hr', hne⟩ H' s'
      have : r = row := by simpa using hr'
      subst this
      exact kE (.inl hne) H' (s0.trans s')
    have lr : row.length = n + 1 := hall row (by simp)
    have s01 := s0.trans s1
    refine ⟨n, a, ps, rs, m, rfl, s01.seq ha, hR.same s01, l1, hn, b1, e1, hm, hS', (fun z H' s' => kE (.inr z) H' (s01.trans s')), fun all1 x d bd rest H2 nx hRed I Z lrr lbb s2 => ?_⟩
    have s02 := s01.trans s2
    refine ⟨n, x, d, bd, rest, rs, rfl, hRed, I, hn, l1, fun y H3 ny s3 hA => ?_⟩
    have s03 := s02.trans s3
    have fin := fun y' H' ny' s' h => kQ lr all1 y' d bd rest H' ny' s' I Z h
    rcases hA with ⟨l, hl, hz, hN⟩ | ⟨hz, l, wl, cs, ws, hy, hl, hT, hwl, hW⟩
    · obtain ⟨f1, cs1, hy1, hl1, hT1⟩ := id hN
      refine ⟨_, _, SqT.of hy1, rfl, _, rfl, iteT' (by simp) ?_⟩
      exact (fin y H3 (s02.free ny) s03 (.inl ⟨l, hl, hz, f1, cs1, hy1, hl1, hT1⟩))
    · have ySq : SqT K H3 y [.str "solved", .ref l, .ref wl] := SqT.of hy
      refine ⟨_, _, ySq, rfl, _, rfl, iteF' (decide_eq_false ne_sn) ?_⟩
      have zs := ans_sizes I Z
      have bz1 : 1 ≤ bz n m := Nat.le_trans hm (bz_mono (t := 0) (m := m) (Nat.zero_le n))
      have lfs : (frees n bd).length ≤ n := len_up _ (up_frees n bd) fun f hf => (mem_frees.mp hf).1
      refine ⟨_, _, ySq, rfl, _, _, ySq, rfl, ?_⟩
      refine ⟨l, wl, cs, ws, ptQ n d bd, frees n bd, wyQ n d bd, bz n m, rfl, hl, hT, hwl, hW, (fun f _ => by rw [len_wyQ, len_ptQ]), (by rw [len_ptQ]; exact hn), (by (first | lia | omega)), zs.1, (fun f _ => zs.2 f), bz1, (by (first | lia | omega)), fun c as H4 nc ec hP s4 => ?_⟩
      have s04 := s03.trans s4
      refine ⟨c, rfl, ⟨_, SqL.of ec⟩, ?_⟩
      have lpts := Paired.length hP
      refine for_list (xs := as.map V.ref) (fun i σ H' => ∃ x5 : Option V, σ = [some (.int n), some (.ref a), some (.ref rw), some (.ref x), some (.ref y), x5] ∧ Same H4 H' ∧ ∀ j qs, j < i → (tellQ (ptQ n d bd) (frees n bd) (wyQ n d bd))[j]? = some qs → dot (row.take n) qs = (g row n : Rat)) ⟨none, rfl, Same.refl _, fun j _ h => absurd h (Nat.not_lt_zero j)⟩ (fun i σ H' _ ⟨_, _, s5, _⟩ => SqL.of (s5 _ _ ec)) ?_ ?_
      · rintro i z σ H' hz' ⟨x5, rfl, sm, hj⟩
        rw [List.getElem?_map] at hz'
        cases ep : as[i]? with
        | none => rw [ep] at hz'; cases hz'
        | some p =>
          rw [ep] at hz'
          have hz'' : z = V.ref p := (Option.some.inj hz').symm
          subst hz''
          obtain ⟨qs, eqs, cp, hp, hTp⟩ := hP.get ep
          have hqm := List.mem_of_getElem? eqs
          have lq : qs.length = n := by
            rcases List.mem_cons.mp hqm with u | u
            · rw [u, len_ptQ]
            · obtain ⟨f', _, rfl⟩ := List.mem_map.mp u
              unfold mvQ; rw [List.length_zipWith, len_ptQ, len_wyQ]; (first | lia | omega)
          have sq : ∀ q ∈ qs, Sz (3 * bz n m + 1) q := by
            rcases List.mem_cons.mp hqm with u | u
            · rw [u]; exact fun q hq => (zs.1 q hq).mono (by (first | lia | omega))
            · obtain ⟨f', _, rfl⟩ := List.mem_map.mp u
              exact sz_mv zs.1 (zs.2 f') ⟨Nat.one_lt_two_pow (by (first | lia | omega)), Nat.one_lt_two_pow (by (first | lia | omega))⟩
          have lt : (row.take n).length = n := by rw [List.length_take]; (first | lia | omega)
          have hb0 : m ≤ bz n m := bz_mono (t := 0) (m := m) (Nat.zero_le n)
          refine ⟨rw, p, row.take n, g row n, cp, qs, 3 * bz n m + 1, rfl, ?_, SqL.of (sm _ _ hp), (hTp.same sm).frs, (by (first | lia | omega)), (fun v hv => pow_mono (brow v (List.mem_of_mem_take hv)) (by (first | lia | omega))), sq, hS, (by rw [lt]; exact hfit), fun H5 s5 => ⟨_, rfl, ?_⟩⟩
          · rw [← row_split lr]; exact SqL.of ((s04.trans sm) _ _ hrw)
          have s45 := sm.trans s5
          by_cases hd : dot (row.take n) qs = (g row n : Rat)
          · refine iteF' (by rw [decide_eq_true hd]; rfl) ⟨_, rfl, s45, fun j qs' hj' eq' => ?_⟩
            by_cases hjj : j < i
            · exact hj j qs' hjj eq'
            · have : j = i := by (first | lia | omega)
              subst this
              rw [eqs] at eq'; cases eq'; exact hd
          · refine iteT' (by rw [decide_eq_false hd]; rfl) ?_
            refine ⟨(by show 2 ≤ sizeLine; decide), fun t ht => ?_⟩
            have st : Same H5 (upd H5 t (.tup [.str "missed", .ref p])) := Same.upd ht
            have sZ := s45.trans st
            exact fin t _ ((s04.trans s45).free ht) (s04.trans sZ) (.inr ⟨hz, .inl ⟨qs, hqm, hd, p, cp, upd_same, sZ _ _ hp, hTp.same sZ⟩⟩)
      · rintro σ H' ⟨x5, rfl, sm, hj⟩
        have sB := s04.trans sm
        have hall' : ∀ qs ∈ tellQ (ptQ n d bd) (frees n bd) (wyQ n d bd), dot (row.take n) qs = (g row n : Rat) := fun qs hq => by
          obtain ⟨j, ej⟩ := List.mem_iff_getElem?.mp hq
          exact hj j qs (by rw [List.length_map, lpts]; exact (List.getElem?_eq_some_iff.mp ej).1) ej
        have lp := Paired.length hR
        refine ⟨_, .inl (sB.seq ha), n, rs.length, x, rw, d, bd, rest, row, bz n m, ?_, hRed.same (s3.trans (s4.trans sm)), SqL.of (sB _ _ hrw), I.dne, (fun y' hy' => by have := I.below y' hy'; (first | lia | omega)), I.lenB, hn, l1, (by (first | lia | omega)), brow.mono (bz_mono (t := 0) (m := m) (Nat.zero_le n)), Z.bd, (by (first | lia | omega)), fun c2 cs2 H5 nc2 ec2 hT2 s5 => ?_⟩
        · show [V.int (n : Int), V.ref x, V.int ((ps.map V.ref).length : Int), V.ref rw] = _
          rw [List.length_map, lp]
        refine ⟨(by show 2 ≤ sizeLine; decide), fun t ht => ?_⟩
        have st : Same H5 (upd H5 t (.tup [.str "sum", .ref c2])) := Same.upd ht
        exact fin t _ ((sB.trans s5).free ht) (sB.trans (s5.trans st)) (.inr ⟨hz, .inr ⟨hall', c2, cs2, upd_same, st _ _ ec2, hT2.same st⟩⟩)
def mvA (F : Nat → List Rat) : List Rat → List Nat → List Rat → List Rat
  | pt, f :: fs, q :: qs => mvA F (mvQ pt (F f) q) fs qs
  | pt, _, _ => pt
theorem mvA_snoc (F : Nat → List Rat) : ∀ (pt : List Rat) (fs : List Nat) (qs : List Rat) (f : Nat) (q : Rat), fs.length = qs.length → mvA F pt (fs ++ [f]) (qs ++ [q]) = mvQ (mvA F pt fs qs) (F f) q
  | _, [], [], _, _, _ => rfl
  | pt, x :: fs, y :: qs, f, q, h => mvA_snoc F (mvQ pt (F x) y) fs qs f q (by simpa using h)
  | _, [], _ :: _, _, _, h => by simp at h
  | _, _ :: _, [], _, _, h => by simp at h
theorem len_mvA (F : Nat → List Rat) (n : Nat) : ∀ (pt : List Rat) (fs : List Nat) (qs : List Rat), pt.length = n → (∀ f, (F f).length = n) → (mvA F pt fs qs).length = n
  | pt, f :: fs, q :: qs, h, hF => len_mvA F n (mvQ pt (F f) q) fs qs (by unfold mvQ; rw [List.length_zipWith, h, hF f]; (first | lia | omega)) hF
  | _, [], [], h, _ => h
  | _, [], _ :: _, h, _ => h
  | _, _ :: _, [], h, _ => h
theorem sz_mv2 {ps ws : List Rat} {q : Rat} {S T U : Nat} (h1 : ∀ p ∈ ps, Sz U p) (h2 : ∀ p ∈ ws, Sz S p) (h3 : Sz T q) : ∀ p ∈ mvQ ps ws q, Sz (U + (S + T + 1)) p := by
  intro x hx
  unfold mvQ at hx
  obtain ⟨i, hi⟩ := List.mem_iff_getElem?.mp hx
  rw [List.getElem?_zipWith] at hi
  cases e1 : ps[i]? with
  | none => rw [e1] at hi; simp at hi
  | some p =>
    cases e2 : ws[i]? with
    | none => rw [e1, e2] at hi; simp at hi
    | some w' =>
      rw [e1, e2] at hi
      have hi' : x = p + q * w' := (Option.some.inj hi).symm
      rw [hi']
      have := sz_plus (h1 p (List.mem_of_getElem? e1)) (sz_times h3 (h2 w' (List.mem_of_getElem? e2)))
      exact this.mono (by (first | lia | omega))
theorem sz_mvA {F : Nat → List Rat} {S T : Nat} (hF : ∀ f, ∀ q ∈ F f, Sz S q) : ∀ (fs : List Nat) (qs pt : List Rat) (U : Nat), (∀ p ∈ pt, Sz U p) → (∀ q ∈ qs, Sz T q) → ∀ p ∈ mvA F pt fs qs, Sz (U + qs.length * (S + T + 1)) p
  | f :: fs, q :: qs, pt, U, h, hq => fun p hp => by
    have := sz_mvA hF fs qs (mvQ pt (F f) q) (U + (S + T + 1)) (sz_mv2 h (hF f) (hq q (List.mem_cons_self))) (fun x hx => hq x (List.mem_cons_of_mem _ hx)) p hp
    refine this.mono ?_
    rw [List.length_cons, Nat.succ_mul]; (first | lia | omega)
  | [], [], _, _, h, _ => fun p hp => (h p hp).mono (Nat.le_add_right _ _)
  | [], _ :: _, _, _, h, _ => fun p hp => (h p hp).mono (Nat.le_add_right _ _)
  | _ :: _, [], _, _, h, _ => fun p hp => (h p hp).mono (Nat.le_add_right _ _)
def spSolW (K : PySem.W.Frag) (C NS BV : Addr) : Sp := fun vs H Q E => ∃ (n : Nat) (a v : Addr) (ps cs : List Addr) (rs : List (List Int)) (qs : List Rat) (m T : Nat), vs = [.int n, .ref a, .ref v] ∧ SqL K H a (ps.map V.ref) ∧ RowsL H ps rs ∧ SqL K H v (cs.map V.ref) ∧ FrsAt K H cs qs ∧ rs.length ≤ 400 ∧ n ≤ 400 ∧ (∀ r ∈ rs, Bdd m r) ∧ (∀ r ∈ rs, r.length ≤ 500) ∧ 1 ≤ m ∧ (∀ q ∈ qs, Sz T q) ∧ bz n m + T + qs.length * (bz n m + T + 1) ≤ 10000000 ∧
  ((∃ r ∈ rs, r.length ≠ n + 1) → ∀ H', Same H H' → E (.ref C) none H') ∧
  ((∀ r ∈ rs, r.length = n + 1) → ∀ (d : Int) (bd : List (Nat × List Int)) (rest : List (List Int)), Fin n rs d bd rest → Sizes (bz n m) d bd rest →
    ((∃ l ∈ rest, g l n ≠ 0) → ∀ H', Same H H' → E (.ref NS) none H') ∧
    ((∀ l ∈ rest, g l n = 0) → (qs.length ≠ (frees n bd).length → ∀ H', Same H H' → E (.ref BV) none H') ∧
      (qs.length = (frees n bd).length → ∀ (y : Addr) (es : List Addr) (H' : Hp), H' y = some (.lst (es.map V.ref)) → TupsAt H' es (mvA (wyQ n d bd) (ptQ n d bd) (frees n bd) qs) → Same H H' → Q (.ref y) H')))
theorem scSolW : FnScope ["count", "rows", "values", "answer", "point", "ways", "value", "pair"] ["count", "rows", "values"] (defScope sSolW) := ⟨rfl, rfl, rfl, by decide +kernel, rfl, by decide +kernel, by decide +kernel⟩
theorem ok_solW {f fs fm C NS BV : Addr} {fd fds fdm : FuncData} (D : Def K mg "solution_with" sSolW ["count", "rows", "values"] f fd) (B : Blt mg) (EN : ExcC K mg "NoSolution" NS) (EB : ExcC K mg "BadValues" BV) (Ds : Def K mg "solved" sSolved ["count", "rows"] fs fds) (Dm : Def K mg "moved" sMoved ["point", "way", "value"] fm fdm)
    (GS : FnOk P w K mg base (CXF P w) 6 fs fds ["count", "rows"] (spSolved K C)) (GM : FnOk P w K mg base CX0 6 fm fdm ["point", "way", "value"] (spMoved K)) : FnOk P w K mg base (CXF P w) 7 f fd ["count", "rows", "values"] (spSolW K C NS BV) := by
  refine D.fn.okF scSolW (fun vs H Q E h => ?_) (fun cdv A outer s H vs Q E hr h => ?_)
  · obtain ⟨n, a, v, ps, cs, rs, qs, m, T, rfl, _⟩ := h
    rfl
  · obtain ⟨n, a, v, ps, cs, rs, qs, m, T, rfl, ha, hR, hv, hF, l1, hn, b1, e1, hm, sq, hfit, kE, kQ⟩ := h
    refine ⟨_, pss_cons (ps_set (i := 3) scSolW.nd rfl (Or.inl rfl) (pe_call GS hr (by rfl) Ds.mg Ds.fn.kp Ds.bd .nil passes_cxOf (pa_cons (pv 0) (pa_cons (pv 1) pa_nil))))
      (pss_cons (ps_if (pt_cmpR op_eq (pe_ix ix_tup (pv 3) pe_int plainC) pe_str (nomark _)) (pss_one (ps_raise raises_cxOf EN rfl (by rfl) (pa_cons pe_str pa_nil))) pss_nil)
      (pss_cons (ps_set (i := 4) scSolW.nd rfl (Or.inl rfl) (pe_ix ix_tup (pv 3) pe_int plainC))
      (pss_cons (ps_set (i := 5) scSolW.nd rfl (Or.inl rfl) (pe_ix ix_tup (pv 3) pe_int plainC))
      (pss_cons (ps_if (pt_cmpR op_ne (pe_callB call_len_seq (by rfl) B.len bt_len (pa_cons (pv 2) pa_nil)) (pe_callB call_len_seq (by rfl) B.len bt_len (pa_cons (pv 5) pa_nil)) (nomark _)) (pss_one (ps_raise raises_cxOf EB rfl (by rfl) (pa_cons pe_str pa_nil))) pss_nil)
      (pss_cons (ps_for PassesOwn.leaving rfl (pi_zip (by rfl) B.zip (pa_cons (pv 2) (pa_cons (pv 5) pa_nil))) (pg_tup rfl (pgs_cons (pg_name (i := 6) scSolW.nd rfl (Or.inl rfl)) (pgs_cons (pg_name (i := 7) scSolW.nd rfl (Or.inl rfl)) pgs_nil)))
        (pss_one (ps_set (i := 4) scSolW.nd rfl (Or.inl rfl) (pe_call GM hr (by rfl) Dm.mg Dm.fn.kp Dm.bd .nil pass0 (pa_cons (pv 4) (pa_cons (pe_ix ix_tup (pv 7) pe_int plainC) (pa_cons (pv 6) pa_nil)))))))
      (pss_one (ps_ret (pv 4)))))))), ?_⟩
    dsimp only [cxOf_K]
    have hB : bz n m ≤ 20000000 := by (first | lia | omega)
    refine ⟨n, a, ps, rs, m, rfl, ha, hR, l1, hn, b1, e1, hm, hB, kE, fun all1 y d bd rest H1 ny s1 I Z A1 => ?_⟩
    obtain ⟨kN, kS⟩ := kQ all1 d bd rest I Z
    rcases A1 with ⟨l, hl, hz, f1, cs1, hy1, _⟩ | ⟨hz, l, wl, cs1, ws, hy, hl, hT, hwl, hW⟩
    · have yq : SqT K H1 y [.str "never", .ref f1] := SqT.of hy1
      refine ⟨_, _, yq, rfl, _, rfl, iteT' (by simp) ?_⟩
      exact ⟨(by show 1 ≤ sizeLine; decide), kN ⟨l, hl, hz⟩ H1 s1⟩
    · obtain ⟨kB, kQ'⟩ := kS hz
      have yq : SqT K H1 y [.str "solved", .ref l, .ref wl] := SqT.of hy
      refine ⟨_, _, yq, rfl, _, rfl, iteF' (decide_eq_false ne_sn) ?_⟩
      refine ⟨_, _, yq, rfl, _, _, yq, rfl, ?_⟩
      have lw : ws.length = (frees n bd).length := Paired.length hW
      have lc : cs.length = qs.length := hF.len
      refine ⟨_, .inl (s1.seq hv), _, .inl (SqL.of hwl), _, rfl, ?_⟩
      by_cases hlen : qs.length = (frees n bd).length
      · refine iteF' (by simp [lw, lc, hlen]) ?_
        refine ⟨v, wl, rfl, ⟨_, s1.seq hv⟩, ⟨_, SqL.of hwl⟩, ?_⟩
        have zs := ans_sizes I Z
        refine for_zip (xs := cs.map V.ref) (ys := ws.map V.ref) (fun i σ H' => ∃ (pa : Addr) (es : List Addr) (x6 x7 : Option V), σ = [some (.int n), some (.ref a), some (.ref v), some (.ref y), some (.ref pa), some (.ref wl), x6, x7] ∧ Same H1 H' ∧ H' pa = some (.lst (es.map V.ref)) ∧ TupsAt H' es (mvA (wyQ n d bd) (ptQ n d bd) ((frees n bd).take i) (qs.take i)))
          ⟨l, cs1, none, none, rfl, Same.refl _, hl, hT⟩ (fun i σ H' _ ⟨_, _, _, _, _, s2, _⟩ => ⟨s2.seq (s1.seq hv), SqL.of (s2 _ _ hwl)⟩) ?_ ?_
        · rintro i x y' σ H' Tt hx hy' ⟨pa, es, x6, x7, rfl, sm, epa, hTp⟩ nT
          rw [List.getElem?_map] at hx hy'
          cases ex : cs[i]? with
          | none => rw [ex] at hx; cases hx
          | some c1 =>
            cases ey : ws[i]? with
            | none => rw [ey] at hy'; cases hy'
            | some w1 =>
              rw [ex] at hx; rw [ey] at hy'
              have hx' : x = V.ref c1 := (Option.some.inj hx).symm
              have hy'' : y' = V.ref w1 := (Option.some.inj hy').symm
              subst hx' hy''
              obtain ⟨q, eq, hq⟩ := hF.get ex
              obtain ⟨fr, efr, l2, cs2, hw1, hl2, hT2⟩ := hW.get ey
              have hi : i < qs.length := (List.getElem?_eq_some_iff.mp eq).1
              have sT : Same H' (upd H' Tt (.tup [.ref c1, .ref w1])) := Same.upd nT
              have s2 := sm.trans sT
              have lpt : (mvA (wyQ n d bd) (ptQ n d bd) ((frees n bd).take i) (qs.take i)).length = n := len_mvA _ n _ _ _ (len_ptQ ..) fun f => len_wyQ ..
              have szt := sz_mvA (T := T) (zs.2) ((frees n bd).take i) (qs.take i) (ptQ n d bd) (bz n m) zs.1 fun x hx => sq x (List.mem_of_mem_take hx)
              have lti : (qs.take i).length * (bz n m + T + 1) ≤ qs.length * (bz n m + T + 1) := Nat.mul_le_mul_right _ (by rw [List.length_take]; (first | lia | omega))
              refine ⟨Tt, _, rfl, SqT.of upd_same, rfl, _, _, rfl, _, _, rfl, rfl, ?_⟩
              refine ⟨_, _, SqT.of (s2 _ _ hw1), rfl, pa, l2, c1, es, cs2, _, wyQ n d bd fr, q, bz n m + T + qs.length * (bz n m + T + 1), rfl, SqL.of (sT _ _ epa), (hTp.same sT).frs, SqL.of (s2 _ _ hl2), (hT2.same s2).frs, s2.fr (s1.fr hq), (by rw [lpt, len_wyQ]), (by rw [lpt]; exact hn), (fun p hp => (szt p hp).mono (by (first | lia | omega))), (fun p hp => (zs.2 fr p hp).mono (by (first | lia | omega))), (sq q (List.mem_of_getElem? eq)).mono (by (first | lia | omega)), hfit, fun c es' H3 nc ec hTc s3 => ?_⟩
              refine ⟨c, es', _, _, rfl, s2.trans s3, ec, ?_⟩
              rw [take_snoc efr, take_snoc eq, mvA_snoc _ _ _ _ _ _ (by rw [List.length_take, List.length_take]; (first | lia | omega))]
              exact hTc
        · rintro σ H' ⟨pa, es, x6, x7, rfl, sm, epa, hTp⟩
          have em : min (cs.map V.ref).length (ws.map V.ref).length = qs.length := by rw [List.length_map, List.length_map]; (first | lia | omega)
          have e1' : (frees n bd).take qs.length = frees n bd := by rw [hlen, List.take_length]
          rw [em, e1', List.take_length] at hTp
          exact kQ' hlen pa es H' epa hTp (s1.trans sm)
      · exact iteT' (by simp [lw, lc]; (first | lia | omega)) ⟨(by show 1 ≤ sizeLine; decide), kB hlen H1 s1⟩
structure RefC (K : PySem.W.Frag) (mg : Str → Option Value) (C S : Addr) (b1 b2 b3 b4 : Bool) : Prop where
  q : ExcQ K C
  em : PySem.W.exmOne K (.ref C) (.ref S) = some true
  mS : mg "ScaleError" = some (.ref S)
  c1 : ∃ D, mg "NoBottom" = some (.ref D) ∧ PySem.W.kitOne K (.ref C) (.ref D) = some b1
  c2 : ∃ D, mg "BadRow" = some (.ref D) ∧ PySem.W.kitOne K (.ref C) (.ref D) = some b2
  c3 : ∃ D, mg "BadValues" = some (.ref D) ∧ PySem.W.kitOne K (.ref C) (.ref D) = some b3
  c4 : ∃ D, mg "NoSolution" = some (.ref D) ∧ PySem.W.kitOne K (.ref C) (.ref D) = some b4
  ve : mg "ValueError" = none
  kv : PySem.W.kitOne K (.ref C) (.type "ValueError") = some true
theorem bt_ve : bootBuiltins "ValueError" = some (.type "ValueError") := by decide +kernel
structure Exm3 (K : PySem.W.Frag) (C1 C2 C3 : Addr) : Prop where
  e11 : PySem.W.exmOne K (.ref C1) (.ref C1) = some true
  e21 : PySem.W.exmOne K (.ref C2) (.ref C1) = some false
  e22 : PySem.W.exmOne K (.ref C2) (.ref C2) = some true
  e31 : PySem.W.exmOne K (.ref C3) (.ref C1) = some false
  e32 : PySem.W.exmOne K (.ref C3) (.ref C2) = some false
  e33 : PySem.W.exmOne K (.ref C3) (.ref C3) = some true
def BadK (k n : Nat) (rs : List (List Int)) : Prop := (k ≠ 4 ∧ ∃ r ∈ rs, r.length ≠ n + 1) ∨ (k = 4 ∧ ∃ r, rs[rs.length - 1]? = some r ∧ r.length ≠ n + 1)
structure In6 (K : PySem.W.Frag) (H : Hp) (n : Nat) (a v : Addr) (ps cs : List Addr) (rs : List (List Int)) (qs : List Rat) : Prop where
  ha : H a = some (.lst (ps.map V.ref))
  hR : RowsL H ps rs
  hv : SqL K H v (cs.map V.ref)
  hF : FrsAt K H cs qs
  n3 : n ≤ 3
  l1 : 1 ≤ rs.length
  l3 : rs.length ≤ 3
  bd : ∀ r ∈ rs, Bdd 2000 r
  len : ∀ r ∈ rs, r.length ≤ 500
  q4 : qs.length ≤ 4
  sq : ∀ q ∈ qs, Sz 40 q
theorem In6.same {K : PySem.W.Frag} {H H' : Hp} {n : Nat} {a v : Addr} {ps cs : List Addr} {rs : List (List Int)} {qs : List Rat} (h : In6 K H n a v ps cs rs qs) (s : Same H H') : In6 K H' n a v ps cs rs qs :=
  ⟨s _ _ h.ha, h.hR.same s, s.seq h.hv, h.hF.same s, h.n3, h.l1, h.l3, h.bd, h.len, h.q4, h.sq⟩
def Word5 (n : Nat) (rs : List (List Int)) (qs : List Rat) (wd : Str) : Prop := ∀ (d : Int) (bd : List (Nat × List Int)) (rest : List (List Int)), Fin n rs d bd rest →
  ((∃ l ∈ rest, g l n ≠ 0) → wd = "none") ∧ ((∀ l ∈ rest, g l n = 0) → (qs.length ≠ (frees n bd).length → wd = "values") ∧ (qs.length = (frees n bd).length → wd = "done"))
def spSaid (K : PySem.W.Frag) : Sp := fun vs H Q _ => ∃ (k n : Nat) (a v : Addr) (ps cs : List Addr) (rs : List (List Int)) (qs : List Rat) (wd : Str), vs = [.int k, .int n, .ref a, .ref v] ∧ In6 K H n a v ps cs rs qs ∧ k ≤ 5 ∧
  (BadK k n rs → wd = "row") ∧ (¬ BadK k n rs → k ≤ 4 → wd = "done") ∧ (¬ BadK k n rs → k = 5 → Word5 n rs qs wd) ∧ ∀ H', Same H H' → Q (.str wd) H'
theorem scSaid : FnScope ["_law_which", "_law_count", "_law_rows", "_law_values", "_law_word", "_law_row"] ["_law_which", "_law_count", "_law_rows", "_law_values"] (defScope sSaid) := ⟨rfl, rfl, rfl, by decide +kernel, rfl, by decide +kernel, by decide +kernel⟩
theorem rep_ones (n : Nat) : (List.replicate (n + 1) [V.int 1]).flatten = (List.replicate (n + 1) (1 : Int)).map V.int := by
  rw [List.map_replicate]
  induction n with
  | zero => rfl
  | succ n ih => rw [List.replicate_succ, List.flatten_cons, ih, List.replicate_succ (n := n + 1)]; rfl
theorem ones_bdd (n : Nat) : Bdd 2000 (List.replicate (n + 1) (1 : Int)) := fun x hx => by rw [(List.mem_replicate.mp hx).2]; exact Nat.one_lt_two_pow (by decide)
theorem bz3 {n : Nat} (h : n ≤ 3) : bz n 2000 ≤ 16007 := Nat.le_trans (bz_mono h) (by decide)
theorem fit6 {n : Nat} (h : n ≤ 3) : (n + 1) * (2 * (3 * bz n 2000 + 1) + 2) ≤ 20000000 := Nat.le_trans (Nat.mul_le_mul (show n + 1 ≤ 4 by (first | lia | omega)) (show 2 * (3 * bz n 2000 + 1) + 2 ≤ 96046 by have := bz3 h; (first | lia | omega))) (by decide)
theorem ok_said {f fs fm ff fw C NS BV : Addr} {fd fds fdm fdf fdw : FuncData} (D : Def K mg "_law_said" sSaid ["_law_which", "_law_count", "_law_rows", "_law_values"] f fd) (B : Blt mg) (EC : ExcC K mg "BadRow" C) (EN : ExcC K mg "NoSolution" NS) (EB : ExcC K mg "BadValues" BV) (EM : Exm3 K C NS BV)
    (Ds : Def K mg "solved" sSolved ["count", "rows"] fs fds) (Dm : Def K mg "same_solutions" sSameS ["count", "rows", "others"] fm fdm) (Df : Def K mg "follows" sFollows ["count", "rows", "row"] ff fdf) (Dw : Def K mg "solution_with" sSolW ["count", "rows", "values"] fw fdw)
    (GS : FnOk P w K mg base (CXF P w) 8 fs fds ["count", "rows"] (spSolved K C)) (GM : FnOk P w K mg base (CXF P w) 8 fm fdm ["count", "rows", "others"] (spSameS K C)) (GF : FnOk P w K mg base (CXF P w) 8 ff fdf ["count", "rows", "row"] (spFol K C)) (GW : FnOk P w K mg base (CXF P w) 8 fw fdw ["count", "rows", "values"] (spSolW K C NS BV)) :
    FnOk P w K mg base CX0 9 f fd ["_law_which", "_law_count", "_law_rows", "_law_values"] (spSaid K) := by
  refine D.fn.ok scSaid (fun vs H Q E h => ?_) (fun cdv A outer s H vs Q E hr h => ?_)
  · obtain ⟨k, n, a, v, ps, cs, rs, qs, wd, rfl, _⟩ := h
    rfl
  · obtain ⟨k, n, a, v, ps, cs, rs, qs, wd, rfl, J, hk, w1, w2, w3, kk⟩ := h
    refine ⟨_, pss_cons (ps_set (i := 4) scSaid.nd rfl (Or.inl rfl) pe_str)
      (pss_cons (ps_set (i := 5) scSaid.nd rfl (Or.inl rfl) (pe_op op_rep (pe_lst (pa_cons pe_int pa_nil)) (pe_op op_add (pv 1) pe_int)))
      (pss_cons (ps_try3 rfl rfl EM.e11 EM.e21 EM.e22 EM.e31 EM.e32 EM.e33 (by rfl) EC.mg (by rfl) EN.mg (by rfl) EB.mg
          (fun ea => pss_one (ps_set (i := 4) scSaid.nd rfl (Or.inl rfl) pe_str)) (fun ea => pss_one (ps_set (i := 4) scSaid.nd rfl (Or.inl rfl) pe_str)) (fun ea => pss_one (ps_set (i := 4) scSaid.nd rfl (Or.inl rfl) pe_str))
          (fun pins E => pss_one (ps_if (pt_cmpR op_eq (pv 0) pe_int (nomark _)) (pss_one (ps_expr (pe_call GS hr (by rfl) Ds.mg Ds.fn.kp Ds.bd .nil passes_inTry (pa_cons (pv 1) (pa_cons (pv 2) pa_nil)))))
            (pss_one (ps_if (pt_cmpR op_eq (pv 0) pe_int (nomark _)) (pss_one (ps_expr (pe_call GM hr (by rfl) Dm.mg Dm.fn.kp Dm.bd .nil passes_inTry (pa_cons (pv 1) (pa_cons (pe_lst (pa_cons (pv 5) pa_nil)) (pa_cons (pv 2) pa_nil))))))
            (pss_one (ps_if (pt_cmpR op_eq (pv 0) pe_int (nomark _)) (pss_one (ps_expr (pe_call GM hr (by rfl) Dm.mg Dm.fn.kp Dm.bd .nil passes_inTry (pa_cons (pv 1) (pa_cons (pv 2) (pa_cons (pe_lst (pa_cons (pv 5) pa_nil)) pa_nil))))))
            (pss_one (ps_if (pt_cmpR op_eq (pv 0) pe_int (nomark _)) (pss_one (ps_expr (pe_call GF hr (by rfl) Df.mg Df.fn.kp Df.bd .nil passes_inTry (pa_cons (pv 1) (pa_cons (pv 2) (pa_cons (pv 5) pa_nil))))))
            (pss_one (ps_if (pt_cmpR op_eq (pv 0) pe_int (nomark _)) (pss_one (ps_expr (pe_call GF hr (by rfl) Df.mg Df.fn.kp Df.bd .nil passes_inTry (pa_cons (pv 1) (pa_cons (pe_lst (pa_cons (pv 5) pa_nil)) (pa_cons (pe_ix ixT_list (pe_op op_cat (pv 2) (pe_lst (pa_cons (pv 5) pa_nil))) (pe_un un_neg pe_int) plainU) pa_nil))))))
              (pss_one (ps_expr (pe_call GW hr (by rfl) Dw.mg Dw.fn.kp Dw.bd .nil passes_inTry (pa_cons (pv 1) (pa_cons (pv 2) (pa_cons (pv 3) pa_nil)))))))))))))))))
      (pss_one (ps_ret (pv 4))))), ?_⟩
    dsimp only [cxOf_K]
    have hn3 := J.n3
    have hb3 := bz3 hn3
    refine ⟨(by show 1 ≤ sizeLine; decide), fun l1 h1 => ⟨l1, _, [.int 1], rfl, rfl, upd_same, (by (first | lia | omega)), (by (first | lia | omega)), ?_, fun c1 hc1 => ?_⟩⟩
    · show 1 * ((n : Int) + 1).toNat ≤ sizeLine
      exact Nat.le_of_lt (small1000 (by (first | lia | omega)))
    have ei : ((n : Int) + 1).toNat = n + 1 := by (first | lia | omega)
    rw [ei, rep_ones]
    have s1 : Same H (upd (upd H l1 (.lst [.int 1])) c1 (.lst ((List.replicate (n + 1) (1 : Int)).map V.int))) := (Same.upd h1).trans (Same.upd hc1)
    have ec1 : (upd (upd H l1 (.lst [.int 1])) c1 (.lst ((List.replicate (n + 1) (1 : Int)).map V.int))) c1 = some (.lst ((List.replicate (n + 1) (1 : Int)).map V.int)) := upd_same
    generalize upd (upd H l1 (.lst [.int 1])) c1 (.lst ((List.replicate (n + 1) (1 : Int)).map V.int)) = H1 at s1 ec1
    have J1 := J.same s1
    have o1 := ones_bdd n
    have ol : (List.replicate (n + 1) (1 : Int)).length = n + 1 := List.length_replicate
    generalize List.replicate (n + 1) (1 : Int) = ow at *
    have kr : BadK k n rs → ∀ H', Same H H' → Q (.str "row") H' := fun hb H' s' => by have := kk H' s'; rwa [w1 hb] at this
    have kd : ¬ BadK k n rs → k ≤ 4 → ∀ H', Same H H' → Q (.str "done") H' := fun hb hk' H' s' => by have := kk H' s'; rwa [w2 hb hk'] at this
    have b1 : ∀ {c : Addr}, ∀ r ∈ [ow], Bdd 2000 r := fun {c} r hr' => by rw [List.mem_singleton.mp hr']; exact o1
    have z1 : ∀ r ∈ [ow], r.length ≤ 500 := fun r hr' => by rw [List.mem_singleton.mp hr', ol]; (first | lia | omega)
    have f1 : ∀ r ∈ [ow], r.length = n + 1 := fun r hr' => by rw [List.mem_singleton.mp hr', ol]
    have h400 : rs.length ≤ 400 := by have := J.l3; (first | lia | omega)
    have good : k ≠ 4 → ¬ (∃ r ∈ rs, r.length ≠ n + 1) → ¬ BadK k n rs := fun h4 h hb => by
      rcases hb with ⟨_, h'⟩ | ⟨h', _⟩
      · exact h h'
      · exact h4 h'
    have all : (∀ r ∈ rs, r.length = n + 1) → ¬ ∃ r ∈ rs, r.length ≠ n + 1 := fun h ⟨r, hr', hne⟩ => hne (h r hr')
    have mk1 : ∀ {H2 : Hp} {l : Addr}, Same H1 H2 → H2 l = none → (upd H2 l (.lst [.ref c1])) l = some (.lst ([c1].map V.ref)) ∧ RowsL (upd H2 l (.lst [.ref c1])) [c1] [ow] ∧ Same H1 (upd H2 l (.lst [.ref c1])) := fun {H2 l} s2 hl =>
      ⟨upd_same, .cons ((s2.trans (Same.upd hl)) _ _ ec1) .nil, s2.trans (Same.upd hl)⟩
    rcases k with _ | _ | _ | _ | _ | _ | k
    · refine ⟨_, rfl, iteT' (by simp) ?_⟩
      refine ⟨n, a, ps, rs, 2000, rfl, SqL.of J1.ha, J1.hR, h400, (by (first | lia | omega)), J1.bd, J1.len, (by decide), (by (first | lia | omega)), fun hb H' s' => ⟨C, rfl, .inl ⟨rfl, kr (.inl ⟨by decide, hb⟩) H' (s1.trans s')⟩⟩, fun hg y d bd rest H' _ s' _ _ _ => kd (good (by decide) (all hg)) (by decide) H' (s1.trans s')⟩
    · refine ⟨_, rfl, iteF' (by simp) ⟨_, rfl, iteT' (by simp) ?_⟩⟩
      refine ⟨(by show 1 ≤ sizeLine; decide), fun l hl => ?_⟩
      obtain ⟨e2, r2, s2⟩ := mk1 (Same.refl _) hl
      have J2 := J1.same s2
      exact ⟨n, l, a, [c1], ps, [ow], rs, 2000, rfl, SqL.of e2, r2, SqL.of J2.ha, J2.hR, (by simp), h400, (by (first | lia | omega)), b1 (c := c1), J2.bd, z1, J2.len, (by decide), (by (first | lia | omega)), fun hb H' s' => ⟨C, rfl, .inl ⟨rfl, kr (.inl ⟨by decide, hb.resolve_left fun ⟨r, hr', hne⟩ => hne (f1 r hr')⟩) H' (s1.trans (s2.trans s'))⟩⟩, fun _ hg _ _ _ _ _ _ bv H' s' _ _ _ => kd (good (by decide) (all hg)) (by decide) H' (s1.trans (s2.trans s'))⟩
    · refine ⟨_, rfl, iteF' (by simp) ⟨_, rfl, iteF' (by simp) ⟨_, rfl, iteT' (by simp) ?_⟩⟩⟩
      refine ⟨(by show 1 ≤ sizeLine; decide), fun l hl => ?_⟩
      obtain ⟨e2, r2, s2⟩ := mk1 (Same.refl _) hl
      have J2 := J1.same s2
      exact ⟨n, a, l, ps, [c1], rs, [ow], 2000, rfl, SqL.of J2.ha, J2.hR, SqL.of e2, r2, h400, (by simp), (by (first | lia | omega)), J2.bd, b1 (c := c1), J2.len, z1, (by decide), (by (first | lia | omega)), fun hb H' s' => ⟨C, rfl, .inl ⟨rfl, kr (.inl ⟨by decide, hb.resolve_right fun ⟨r, hr', hne⟩ => hne (f1 r hr')⟩) H' (s1.trans (s2.trans s'))⟩⟩, fun hg _ _ _ _ _ _ _ bv H' s' _ _ _ => kd (good (by decide) (all hg)) (by decide) H' (s1.trans (s2.trans s'))⟩
    · refine ⟨_, rfl, iteF' (by simp) ⟨_, rfl, iteF' (by simp) ⟨_, rfl, iteF' (by simp) ⟨_, rfl, iteT' (by simp) ?_⟩⟩⟩⟩
      exact ⟨n, a, c1, ps, rs, ow, 2000, rfl, SqL.of J1.ha, J1.hR, ec1, h400, (by (first | lia | omega)), J1.bd, J1.len, o1, (by (first | lia | omega)), (by decide), (by (first | lia | omega)), fit6 hn3, fun hb H' s' => ⟨C, rfl, .inl ⟨rfl, kr (.inl ⟨by decide, hb.resolve_left fun hne => hne ol⟩) H' (s1.trans s')⟩⟩, fun _ hg _ _ _ _ H' _ s' _ _ _ => kd (good (by decide) (all hg)) (by decide) H' (s1.trans s')⟩
    · refine ⟨_, rfl, iteF' (by simp) ⟨_, rfl, iteF' (by simp) ⟨_, rfl, iteF' (by simp) ⟨_, rfl, iteF' (by simp) ⟨_, rfl, iteT' (by simp) ?_⟩⟩⟩⟩⟩
      refine ⟨(by show 1 ≤ sizeLine; decide), fun l hl => ?_⟩
      obtain ⟨e2, r2, s2⟩ := mk1 (Same.refl _) hl
      generalize upd H1 l (.lst [.ref c1]) = H2 at e2 r2 s2
      refine ⟨(by show 1 ≤ sizeLine; decide), fun l2 hl2 => ?_⟩
      have s3 : Same H2 (upd H2 l2 (.lst [.ref c1])) := Same.upd hl2
      have J3 := J1.same (s2.trans s3)
      have lp : ps.length = rs.length := Paired.length J.hR
      have hl3 := J.l3
      have hl1 := J.l1
      refine ⟨a, l2, _, _, rfl, rfl, J3.ha, upd_same, (by rw [List.length_map]; exact Nat.le_of_lt (small1000 (by simp; (first | lia | omega)))), fun p hp => ?_⟩
      have s4 := s3.trans (Same.upd (o := .lst (ps.map V.ref ++ [V.ref c1])) hp)
      have e4 : (upd (upd H2 l2 (.lst [.ref c1])) p (.lst (ps.map V.ref ++ [V.ref c1]))) p = some (.lst (ps.map V.ref ++ [V.ref c1])) := upd_same
      generalize upd (upd H2 l2 (.lst [.ref c1])) p (.lst (ps.map V.ref ++ [V.ref c1])) = H4 at s4 e4
      obtain ⟨q, eq⟩ : ∃ q, ps[ps.length - 1]? = some q := ⟨_, List.getElem?_eq_getElem (by (first | lia | omega))⟩
      obtain ⟨r, er, hq⟩ := J.hR.get eq
      have hrm := List.mem_of_getElem? er
      have s14 := s2.trans s4
      refine ⟨_, _, SqL.of e4, (at_neg (k := 2) (v := V.ref q) (by decide) (by simp; (first | lia | omega)) (by
        rw [List.length_append, List.length_map, List.length_singleton, List.getElem?_append_left (by rw [List.length_map]; (first | lia | omega)), List.getElem?_map, show ps.length + 1 - 2 = ps.length - 1 by (first | lia | omega), eq]; rfl)), ?_⟩
      have erl : rs[rs.length - 1]? = some r := by rw [← lp]; exact er
      have hnb : r.length = n + 1 → ¬ BadK 4 n rs := fun hl hb => by
        rcases hb with ⟨h, _⟩ | ⟨_, r', er', hne⟩
        · exact h rfl
        · rw [erl] at er'; cases er'; exact hne hl
      exact ⟨n, l, q, [c1], [ow], r, 2000, rfl, SqL.of (s4 _ _ e2), r2.same s4, (s1.trans s14) _ _ hq, (by simp), (by (first | lia | omega)), b1 (c := c1), z1, J.bd r hrm, J.len r hrm, (by decide), (by (first | lia | omega)), fit6 hn3, fun hb H' s' => ⟨C, rfl, .inl ⟨rfl, kr (.inr ⟨rfl, r, erl, hb.resolve_right fun ⟨r', hr', hne⟩ => hne (f1 r' hr')⟩) H' (s1.trans (s14.trans s'))⟩⟩, fun hg _ _ _ _ _ H' _ s' _ _ _ => kd (hnb hg) (by decide) H' (s1.trans (s14.trans s'))⟩
    · refine ⟨_, rfl, iteF' (by simp) ⟨_, rfl, iteF' (by simp) ⟨_, rfl, iteF' (by simp) ⟨_, rfl, iteF' (by simp) ⟨_, rfl, iteF' (by simp) ?_⟩⟩⟩⟩⟩
      have hq4 := J.q4
      refine ⟨n, a, v, ps, cs, rs, qs, 2000, 40, rfl, SqL.of J1.ha, J1.hR, J1.hv, J1.hF, h400, (by (first | lia | omega)), J1.bd, J1.len, (by decide), J1.sq, ?_, fun hb H' s' => ⟨C, rfl, .inl ⟨rfl, kr (.inl ⟨by decide, hb⟩) H' (s1.trans s')⟩⟩, fun hg d bd rest I Z => ?_⟩
      · have : qs.length * (bz n 2000 + 40 + 1) ≤ 4 * 16048 := Nat.mul_le_mul hq4 (by (first | lia | omega))
        (first | lia | omega)
      have W := w3 (good (by decide) (all hg)) rfl d bd rest I
      refine ⟨fun hne H' s' => ⟨NS, rfl, .inr (.inl ⟨rfl, ?_⟩)⟩, fun hz => ⟨fun hne H' s' => ⟨BV, rfl, .inr (.inr ⟨rfl, ?_⟩)⟩, fun he y es H' _ _ s' => ?_⟩⟩
      · have := kk H' (s1.trans s'); rw [W.1 hne] at this; exact this
      · have := kk H' (s1.trans s'); rw [(W.2 hz).1 hne] at this; exact this
      · have := kk H' (s1.trans s'); rw [(W.2 hz).2 he] at this; exact this
    · (first | lia | omega)
def spRef6 (K : PySem.W.Frag) : Sp := fun vs H Q _ => ∃ (k n : Nat) (a v : Addr) (ps cs : List Addr) (rs : List (List Int)) (qs : List Rat) (b : Bool), vs = [.int k, .int n, .ref a, .ref v] ∧ In6 K H n a v ps cs rs qs ∧ k ≤ 4 ∧ (BadK k n rs → b = true) ∧ (¬ BadK k n rs → b = false) ∧ ∀ H', Same H H' → Q (.bl b) H'
theorem scRefuses : FnScope ["_law_which", "_law_count", "_law_rows", "_law_values", "_law_row", "e", "_law_under"] ["_law_which", "_law_count", "_law_rows", "_law_values"] (defScope sRefuses) := ⟨rfl, rfl, rfl, by decide +kernel, rfl, by decide +kernel, by decide +kernel⟩
theorem ok_refuses {f fs fm ff C S : Addr} {fd fds fdm fdf : FuncData} (D : Def K mg "_law_refuses" sRefuses ["_law_which", "_law_count", "_law_rows", "_law_values"] f fd) (B : Blt mg) (RC : RefC K mg C S false true false false)
    (Ds : Def K mg "solved" sSolved ["count", "rows"] fs fds) (Dm : Def K mg "same_solutions" sSameS ["count", "rows", "others"] fm fdm) (Df : Def K mg "follows" sFollows ["count", "rows", "row"] ff fdf)
    (GS : FnOk P w K mg base (CXF P w) 8 fs fds ["count", "rows"] (spSolved K C)) (GM : FnOk P w K mg base (CXF P w) 8 fm fdm ["count", "rows", "others"] (spSameS K C)) (GF : FnOk P w K mg base (CXF P w) 8 ff fdf ["count", "rows", "row"] (spFol K C)) :
    FnOk P w K mg base CX0 9 f fd ["_law_which", "_law_count", "_law_rows", "_law_values"] (spRef6 K) := by
  obtain ⟨C1, m1, k1⟩ := RC.c1
  obtain ⟨C2, m2, k2⟩ := RC.c2
  obtain ⟨C3, m3, k3⟩ := RC.c3
  obtain ⟨C4, m4, k4⟩ := RC.c4
  refine D.fn.ok scRefuses (fun vs H Q E h => ?_) (fun cdv A outer s H vs Q E hr h => ?_)
  · obtain ⟨k, n, a, v, ps, cs, rs, qs, b, rfl, _⟩ := h
    rfl
  · obtain ⟨k, n, a, v, ps, cs, rs, qs, b, rfl, J, hk, w1, w2, kk⟩ := h
    refine ⟨_, pss_cons (ps_set (i := 4) scRefuses.nd rfl (Or.inl rfl) (pe_op op_rep (pe_lst (pa_cons pe_int pa_nil)) (pe_op op_add (pv 1) pe_int)))
      (pss_cons (ps_tryN (i := 5) (C := C) rfl rfl rfl RC.em (by rfl) RC.mS scRefuses.nd rfl (by rfl)
          (fun ea => pss_cons (ps_set (i := 6) scRefuses.nd rfl (Or.inl rfl) (pe_lst (pa_cons (pe_callB (callK_isiE (K := K) rfl) (by rfl) B.isi bt_isi (pa_cons (pv 5) (pa_cons (pe_glob (v := .ref C1) (by rfl) m1 rfl) pa_nil)))
            (pa_cons (pe_callB (callK_isiE (K := K) rfl) (by rfl) B.isi bt_isi (pa_cons (pv 5) (pa_cons (pe_glob (v := .ref C2) (by rfl) m2 rfl) pa_nil)))
            (pa_cons (pe_callB (callK_isiE (K := K) rfl) (by rfl) B.isi bt_isi (pa_cons (pv 5) (pa_cons (pe_glob (v := .ref C3) (by rfl) m3 rfl) pa_nil))) pa_nil)))))
          (pss_cons (ps_set (i := 6) scRefuses.nd rfl (Or.inl rfl) (pe_op op_cat (pv 6) (pe_lst (pa_cons (pe_callB (callK_isiE (K := K) rfl) (by rfl) B.isi bt_isi (pa_cons (pv 5) (pa_cons (pe_glob (v := .ref C4) (by rfl) m4 rfl) pa_nil))) pa_nil))))
          (pss_one (ps_ret (pe_and (pe_callB (callK_isiE (K := K) rfl) (by rfl) B.isi bt_isi (pa_cons (pv 5) (pa_cons (pe_bltn (v := .ty "ValueError") (by rfl) RC.ve bt_ve rfl) pa_nil)))
            (pe_one (pe_cmpR op_eq (peK_bm (K := K) rfl F.plainAttrs_list F.slot_list_count F.type_list_count mt_countB (pv 6) (pa_cons pe_bl pa_nil)) pe_int (nomark _))))))))
          (fun pins E => pss_one (ps_if (pt_cmpR op_eq (pv 0) pe_int (nomark _)) (pss_one (ps_expr (pe_call GS hr (by rfl) Ds.mg Ds.fn.kp Ds.bd .nil passes_inTry (pa_cons (pv 1) (pa_cons (pv 2) pa_nil)))))
            (pss_one (ps_if (pt_cmpR op_eq (pv 0) pe_int (nomark _)) (pss_one (ps_expr (pe_call GM hr (by rfl) Dm.mg Dm.fn.kp Dm.bd .nil passes_inTry (pa_cons (pv 1) (pa_cons (pe_lst (pa_cons (pv 4) pa_nil)) (pa_cons (pv 2) pa_nil))))))
            (pss_one (ps_if (pt_cmpR op_eq (pv 0) pe_int (nomark _)) (pss_one (ps_expr (pe_call GM hr (by rfl) Dm.mg Dm.fn.kp Dm.bd .nil passes_inTry (pa_cons (pv 1) (pa_cons (pv 2) (pa_cons (pe_lst (pa_cons (pv 4) pa_nil)) pa_nil))))))
            (pss_one (ps_if (pt_cmpR op_eq (pv 0) pe_int (nomark _)) (pss_one (ps_expr (pe_call GF hr (by rfl) Df.mg Df.fn.kp Df.bd .nil passes_inTry (pa_cons (pv 1) (pa_cons (pv 2) (pa_cons (pv 4) pa_nil))))))
            (pss_one (ps_if (pt_cmpR op_eq (pv 0) pe_int (nomark _)) (pss_one (ps_expr (pe_call GF hr (by rfl) Df.mg Df.fn.kp Df.bd .nil passes_inTry (pa_cons (pv 1) (pa_cons (pe_lst (pa_cons (pv 4) pa_nil)) (pa_cons (pe_ix ixT_list (pe_op op_cat (pv 2) (pe_lst (pa_cons (pv 4) pa_nil))) (pe_un un_neg pe_int) plainU) pa_nil))))))
              pss_never)))))))))))
      (pss_one (ps_ret pe_bl))), ?_⟩
    have hn3 := J.n3
    have hb3 := bz3 hn3
    ((try dsimp only [cxOf_K, gName, tNext, gTup, gCons, gNil]); refine seqB fun _ _ hs hs' => ?_)
    refine ⟨(by show 1 ≤ sizeLine; decide), fun l1 h1 => ⟨l1, _, [.int 1], rfl, rfl, upd_same, (by (first | lia | omega)), (by (first | lia | omega)), ?_, fun c1 hc1 => ?_⟩⟩
    · show 1 * ((n : Int) + 1).toNat ≤ sizeLine
      exact Nat.le_of_lt (small1000 (by (first | lia | omega)))
    have ei : ((n : Int) + 1).toNat = n + 1 := by (first | lia | omega)
    rw [ei, rep_ones]
    have s1 : Same H (upd (upd H l1 (.lst [.int 1])) c1 (.lst ((List.replicate (n + 1) (1 : Int)).map V.int))) := (Same.upd h1).trans (Same.upd hc1)
    have ec1 : (upd (upd H l1 (.lst [.int 1])) c1 (.lst ((List.replicate (n + 1) (1 : Int)).map V.int))) c1 = some (.lst ((List.replicate (n + 1) (1 : Int)).map V.int)) := upd_same
    generalize upd (upd H l1 (.lst [.int 1])) c1 (.lst ((List.replicate (n + 1) (1 : Int)).map V.int)) = H1 at s1 ec1
    have J1 := J.same s1
    have o1 := ones_bdd n
    have ol : (List.replicate (n + 1) (1 : Int)).length = n + 1 := List.length_replicate
    generalize List.replicate (n + 1) (1 : Int) = ow at *
    ((try dsimp only [gName, tNext, gTup, gCons, gNil]); subst hs hs'; refine seqB fun _ _ hs hs' => ?_)
    dsimp only [tSeq]
    refine tTryB fun T' D' hT hD => ?_
    have kr : BadK k n rs → ∀ H', Same H H' → T' C D' H' := fun hb H' s' => by
      have kt : ∀ H', Same H H' → Q (.bl true) H' := fun H' s' => by have := kk H' s'; rwa [w1 hb] at this
      subst hT hD hs hs'
      refine ⟨rfl, fun ea hea => ?_⟩
      have S0 := Same.upd (o := excO ea C) hea
      refine ⟨ea, C, _, _, _, rfl, fun u hu => hu, upd_same, RC.q, k1, ?_⟩
      refine ⟨ea, C, _, _, _, rfl, fun u hu => hu, upd_same, RC.q, k2, ?_⟩
      refine ⟨ea, C, _, _, _, rfl, fun u hu => hu, upd_same, RC.q, k3, (by show 3 ≤ sizeLine; decide), fun l1 hl1 => ?_⟩
      have S1 := Same.upd (o := .lst [.bl false, .bl true, .bl false]) hl1
      have e1 := S1 _ _ (upd_same (H := H') (a := ea) (o := excO ea C))
      refine ⟨ea, C, _, _, _, rfl, fun u hu => hu, e1, RC.q, k4, (by show 1 ≤ sizeLine; decide), fun l2 hl2 => ?_⟩
      have S2 := Same.upd (o := .lst [.bl false]) hl2
      refine ⟨l1, l2, _, _, rfl, rfl, S2 _ _ upd_same, upd_same, (by show 4 ≤ sizeLine; decide), fun l3 hl3 => ?_⟩
      have S3 := Same.upd (o := .lst ([.bl false, .bl true, .bl false] ++ [.bl false])) hl3
      refine ⟨ea, C, _, _, _, rfl, fun u hu => hu, S3 _ _ (S2 _ _ e1), RC.q, RC.kv, _, rfl, iteT' rfl ?_⟩
      refine ⟨(.inl ⟨rfl, _, SqL.of upd_same⟩), l3, [false, true, false, false], rfl, rfl, upd_same, ?_⟩
      exact kt _ (s'.trans (S0.trans (S1.trans (S2.trans S3))))
    have kd : ¬ BadK k n rs → ∀ H', Same H H' → D'.nx [some (.int k), some (.int n), some (.ref a), some (.ref v), some (.ref c1), none, none] H' := fun hb H' s' => by
      have kt : Q (.bl false) H' := by have := kk H' s'; rwa [w2 hb] at this
      subst hT hD hs hs'
      exact kt
    clear hT hD
    have b1 : ∀ r ∈ [ow], Bdd 2000 r := fun r hr' => by rw [List.mem_singleton.mp hr']; exact o1
    have z1 : ∀ r ∈ [ow], r.length ≤ 500 := fun r hr' => by rw [List.mem_singleton.mp hr', ol]; (first | lia | omega)
    have f1 : ∀ r ∈ [ow], r.length = n + 1 := fun r hr' => by rw [List.mem_singleton.mp hr', ol]
    have h400 : rs.length ≤ 400 := by have := J.l3; (first | lia | omega)
    have good : k ≠ 4 → ¬ (∃ r ∈ rs, r.length ≠ n + 1) → ¬ BadK k n rs := fun h4 h hb => by
      rcases hb with ⟨_, h'⟩ | ⟨h', _⟩
      · exact h h'
      · exact h4 h'
    have all : (∀ r ∈ rs, r.length = n + 1) → ¬ ∃ r ∈ rs, r.length ≠ n + 1 := fun h ⟨r, hr', hne⟩ => hne (h r hr')
    have mk1 : ∀ {H2 : Hp} {l : Addr}, Same H1 H2 → H2 l = none → (upd H2 l (.lst [.ref c1])) l = some (.lst ([c1].map V.ref)) ∧ RowsL (upd H2 l (.lst [.ref c1])) [c1] [ow] ∧ Same H1 (upd H2 l (.lst [.ref c1])) := fun {H2 l} s2 hl =>
      ⟨upd_same, .cons ((s2.trans (Same.upd hl)) _ _ ec1) .nil, s2.trans (Same.upd hl)⟩
    rcases k with _ | _ | _ | _ | _ | k
    · refine ⟨_, rfl, iteT' (by simp) ?_⟩
      exact ⟨n, a, ps, rs, 2000, rfl, SqL.of J1.ha, J1.hR, h400, (by (first | lia | omega)), J1.bd, J1.len, (by decide), (by (first | lia | omega)), fun hb H' s' => ⟨C, rfl, kr (.inl ⟨by decide, hb⟩) H' (s1.trans s')⟩, fun hg y d bd rest H' _ s' _ _ _ => kd (good (by decide) (all hg)) H' (s1.trans s')⟩
    · refine ⟨_, rfl, iteF' (by simp) ⟨_, rfl, iteT' (by simp) ?_⟩⟩
      refine ⟨(by show 1 ≤ sizeLine; decide), fun l hl => ?_⟩
      obtain ⟨e2, r2, s2⟩ := mk1 (Same.refl _) hl
      have J2 := J1.same s2
      exact ⟨n, l, a, [c1], ps, [ow], rs, 2000, rfl, SqL.of e2, r2, SqL.of J2.ha, J2.hR, (by simp), h400, (by (first | lia | omega)), b1, J2.bd, z1, J2.len, (by decide), (by (first | lia | omega)), fun hb H' s' => ⟨C, rfl, kr (.inl ⟨by decide, hb.resolve_left fun ⟨r, hr', hne⟩ => hne (f1 r hr')⟩) H' (s1.trans (s2.trans s'))⟩, fun _ hg _ _ _ _ _ _ bv H' s' _ _ _ => kd (good (by decide) (all hg)) H' (s1.trans (s2.trans s'))⟩
    · refine ⟨_, rfl, iteF' (by simp) ⟨_, rfl, iteF' (by simp) ⟨_, rfl, iteT' (by simp) ?_⟩⟩⟩
      refine ⟨(by show 1 ≤ sizeLine; decide), fun l hl => ?_⟩
      obtain ⟨e2, r2, s2⟩ := mk1 (Same.refl _) hl
      have J2 := J1.same s2
      exact ⟨n, a, l, ps, [c1], rs, [ow], 2000, rfl, SqL.of J2.ha, J2.hR, SqL.of e2, r2, h400, (by simp), (by (first | lia | omega)), J2.bd, b1, J2.len, z1, (by decide), (by (first | lia | omega)), fun hb H' s' => ⟨C, rfl, kr (.inl ⟨by decide, hb.resolve_right fun ⟨r, hr', hne⟩ => hne (f1 r hr')⟩) H' (s1.trans (s2.trans s'))⟩, fun hg _ _ _ _ _ _ _ bv H' s' _ _ _ => kd (good (by decide) (all hg)) H' (s1.trans (s2.trans s'))⟩
    · refine ⟨_, rfl, iteF' (by simp) ⟨_, rfl, iteF' (by simp) ⟨_, rfl, iteF' (by simp) ⟨_, rfl, iteT' (by simp) ?_⟩⟩⟩⟩
      exact ⟨n, a, c1, ps, rs, ow, 2000, rfl, SqL.of J1.ha, J1.hR, ec1, h400, (by (first | lia | omega)), J1.bd, J1.len, o1, (by (first | lia | omega)), (by decide), (by (first | lia | omega)), fit6 hn3, fun hb H' s' => ⟨C, rfl, kr (.inl ⟨by decide, hb.resolve_left fun hne => hne ol⟩) H' (s1.trans s')⟩, fun _ hg _ _ _ _ H' _ s' _ _ _ => kd (good (by decide) (all hg)) H' (s1.trans s')⟩
    · refine ⟨_, rfl, iteF' (by simp) ⟨_, rfl, iteF' (by simp) ⟨_, rfl, iteF' (by simp) ⟨_, rfl, iteF' (by simp) ⟨_, rfl, iteT' (by simp) ?_⟩⟩⟩⟩⟩
      refine ⟨(by show 1 ≤ sizeLine; decide), fun l hl => ?_⟩
      obtain ⟨e2, r2, s2⟩ := mk1 (Same.refl _) hl
      generalize upd H1 l (.lst [.ref c1]) = H2 at e2 r2 s2
      refine ⟨(by show 1 ≤ sizeLine; decide), fun l2 hl2 => ?_⟩
      have s3 : Same H2 (upd H2 l2 (.lst [.ref c1])) := Same.upd hl2
      have J3 := J1.same (s2.trans s3)
      have lp : ps.length = rs.length := Paired.length J.hR
      have hl3 := J.l3
      have hl1 := J.l1
      refine ⟨a, l2, _, _, rfl, rfl, J3.ha, upd_same, (by rw [List.length_map]; exact Nat.le_of_lt (small1000 (by simp; (first | lia | omega)))), fun p hp => ?_⟩
      have s4 := s3.trans (Same.upd (o := .lst (ps.map V.ref ++ [V.ref c1])) hp)
      have e4 : (upd (upd H2 l2 (.lst [.ref c1])) p (.lst (ps.map V.ref ++ [V.ref c1]))) p = some (.lst (ps.map V.ref ++ [V.ref c1])) := upd_same
      generalize upd (upd H2 l2 (.lst [.ref c1])) p (.lst (ps.map V.ref ++ [V.ref c1])) = H4 at s4 e4
      obtain ⟨q, eq⟩ : ∃ q, ps[ps.length - 1]? = some q := ⟨_, List.getElem?_eq_getElem (by (first | lia | omega))⟩
      obtain ⟨r, er, hq⟩ := J.hR.get eq
      have hrm := List.mem_of_getElem? er
      have s14 := s2.trans s4
      refine ⟨_, _, SqL.of e4, (at_neg (k := 2) (v := V.ref q) (by decide) (by simp; (first | lia | omega)) (by
        rw [List.length_append, List.length_map, List.length_singleton, List.getElem?_append_left (by rw [List.length_map]; (first | lia | omega)), List.getElem?_map, show ps.length + 1 - 2 = ps.length - 1 by (first | lia | omega), eq]; rfl)), ?_⟩
      have erl : rs[rs.length - 1]? = some r := by rw [← lp]; exact er
      have hnb : r.length = n + 1 → ¬ BadK 4 n rs := fun hl hb => by
        rcases hb with ⟨h, _⟩ | ⟨_, r', er', hne⟩
        · exact h rfl
        · rw [erl] at er'; cases er'; exact hne hl
      exact ⟨n, l, q, [c1], [ow], r, 2000, rfl, SqL.of (s4 _ _ e2), r2.same s4, (s1.trans s14) _ _ hq, (by simp), (by (first | lia | omega)), b1, z1, J.bd r hrm, J.len r hrm, (by decide), (by (first | lia | omega)), fit6 hn3, fun hb H' s' => ⟨C, rfl, kr (.inr ⟨rfl, r, erl, hb.resolve_right fun ⟨r', hr', hne⟩ => hne (f1 r' hr')⟩) H' (s1.trans (s14.trans s'))⟩, fun hg _ _ _ _ _ H' _ s' _ _ _ => kd (hnb hg) H' (s1.trans (s14.trans s'))⟩
    · (first | lia | omega)
theorem ne_rowdone : ¬ (V.str "row" = V.str "done") := by intro z; injection z with z; exact absurd z (by decide +kernel)
def spDue (K : PySem.W.Frag) : Sp := fun vs H Q _ => ∃ (k n : Nat) (a v : Addr) (ps cs : List Addr) (rs : List (List Int)) (qs : List Rat) (due : Str), vs = [.str due, .int k, .int n, .ref a, .ref v] ∧ In6 K H n a v ps cs rs qs ∧ k ≤ 4 ∧ (BadK k n rs → due = "row") ∧ (¬ BadK k n rs → due = "done") ∧ ∀ H', Same H H' → Q (.bl true) H'
theorem scDue : FnScope ["_law_due", "_law_which", "_law_count", "_law_rows", "_law_values"] ["_law_due", "_law_which", "_law_count", "_law_rows", "_law_values"] (defScope sDue) := ⟨rfl, rfl, rfl, by decide +kernel, rfl, by decide +kernel, by decide +kernel⟩
theorem ok_due {f fr fs : Addr} {fd fdr fds : FuncData} (D : Def K mg "_law_as_due" sDue ["_law_due", "_law_which", "_law_count", "_law_rows", "_law_values"] f fd) (Dr : Def K mg "_law_refuses" sRefuses ["_law_which", "_law_count", "_law_rows", "_law_values"] fr fdr) (Ds : Def K mg "_law_said" sSaid ["_law_which", "_law_count", "_law_rows", "_law_values"] fs fds)
    (GR : FnOk P w K mg base CX0 9 fr fdr ["_law_which", "_law_count", "_law_rows", "_law_values"] (spRef6 K)) (GS : FnOk P w K mg base CX0 9 fs fds ["_law_which", "_law_count", "_law_rows", "_law_values"] (spSaid K)) :
    FnOk P w K mg base CX0 10 f fd ["_law_due", "_law_which", "_law_count", "_law_rows", "_law_values"] (spDue K) := by
  refine D.fn.ok scDue (fun vs H Q E h => ?_) (fun cdv A outer s H vs Q E hr h => ?_)
  · obtain ⟨k, n, a, v, ps, cs, rs, qs, due, rfl, _⟩ := h
    rfl
  · obtain ⟨k, n, a, v, ps, cs, rs, qs, due, rfl, J, hk, w1, w2, kk⟩ := h
    refine ⟨_, pss_cons (ps_if (pt_cmpR op_ne (pe_call GR hr (by rfl) Dr.mg Dr.fn.kp Dr.bd .nil pass0 (pa_cons (pv 1) (pa_cons (pv 2) (pa_cons (pv 3) (pa_cons (pv 4) pa_nil))))) (pe_cmpR op_ne (pv 0) pe_str (nomark _)) (nomark _)) (pss_one (ps_ret pe_bl)) pss_nil)
      (pss_one (ps_ret (pe_cmpR op_eq (pe_call GS hr (by rfl) Ds.mg Ds.fn.kp Ds.bd .nil pass0 (pa_cons (pv 1) (pa_cons (pv 2) (pa_cons (pv 3) (pa_cons (pv 4) pa_nil))))) (pv 0) (nomark _)))), ?_⟩
    obtain ⟨b, hb1, hb2, hbd⟩ : ∃ b : Bool, (BadK k n rs → b = true) ∧ (¬ BadK k n rs → b = false) ∧ (!decide (V.bl b = V.bl (!decide (V.str due = V.str "done")))) = false := by
      by_cases hb : BadK k n rs
      · refine ⟨true, fun _ => rfl, fun h => absurd hb h, ?_⟩
        rw [w1 hb, decide_eq_false ne_rowdone]; rfl
      · refine ⟨false, fun h => absurd h hb, fun _ => rfl, ?_⟩
        rw [w2 hb, decide_eq_true rfl]; rfl
    refine ⟨k, n, a, v, ps, cs, rs, qs, b, rfl, J, hk, hb1, hb2, fun H1 s1 => ?_⟩
    refine ⟨_, rfl, iteF' hbd ?_⟩
    refine ⟨k, n, a, v, ps, cs, rs, qs, due, rfl, J.same s1, (by (first | lia | omega)), w1, (fun h _ => w2 h), (fun _ h5 => by (first | lia | omega)), fun H2 s2 => ?_⟩
    have := kk H2 (s1.trans s2)
    rw [← decide_eq_true (rfl : V.str due = V.str due)] at this
    exact this
def spLaw (K : PySem.W.Frag) : Sp := fun vs H Q _ => ∃ (a : Addr) (ns : List Int), vs = [.ref a] ∧ SqL K H a (ns.map V.int) ∧ ns.length ≤ 63 ∧ ∀ H', Q (.bl true) H'
theorem scLaw : FnScope ["_law_script", "_law_count", "_law_rows", "_law_bad", "_law_spot", "_law_due", "_law_which", "_law_turned", "_law_answer", "_law_values"] ["_law_script"] (defScope sLaw) := ⟨rfl, rfl, rfl, by decide +kernel, rfl, by decide +kernel, by decide +kernel⟩
theorem tVar_ap {i : Nat} {σ : St} {H : Hp} {Q : VK} : tVar i σ H Q = onV σ[i]? fun v => Q v H := rfl
theorem cut_take1 (xs : List V) (i : Nat) : cutV xs none (some (i : Int)) = xs.take i := by
  by_cases h : i ≤ xs.length
  · exact cut_take xs i h
  · unfold cutV
    rw [HT.sIx_none, HT.sIx_nat, List.drop_zero, Nat.sub_zero, Nat.min_eq_right (by (first | lia | omega)), List.take_of_length_le (Nat.le_refl _), List.take_of_length_le (by (first | lia | omega))]
def Rw6 (K : PySem.W.Frag) (p1 : Addr) (ms : List Int) (n : Nat) (σ : St) (H : Hp) : Prop := ∃ (c : Addr) (ps : List Addr) (rs : List (List Int)), σ = [some (.ref p1), some (.int n), some (.ref c), none, none, none, none, none, none, none] ∧ H p1 = some (.lst (ms.map V.int)) ∧ H c = some (.lst (ps.map V.ref)) ∧ RowsL H ps rs ∧ 1 ≤ rs.length ∧ rs.length ≤ 3 ∧ (∀ r ∈ rs, r.length = n + 1) ∧ ∀ r ∈ rs, Bdd 2000 r
structure Bs6 (H : Hp) (c : Addr) (ps : List Addr) (rs : List (List Int)) (n sp : Nat) (bad : Bool) : Prop where
  ec : H c = some (.lst (ps.map V.ref))
  hR : RowsL H ps rs
  l1 : 1 ≤ rs.length
  l3 : rs.length ≤ 3
  bd : ∀ r ∈ rs, Bdd 2000 r
  len : ∀ r ∈ rs, r.length ≤ 50
  hsp : sp < rs.length
  ok : bad = false → ∀ r ∈ rs, r.length = n + 1
  no : bad = true → ∃ r, rs[sp]? = some r ∧ r.length ≠ n + 1
theorem Bs6.same {H H' : Hp} {c : Addr} {ps : List Addr} {rs : List (List Int)} {n sp : Nat} {bad : Bool} (h : Bs6 H c ps rs n sp bad) (s : Same H H') : Bs6 H' c ps rs n sp bad := ⟨s _ _ h.ec, h.hR.same s, h.l1, h.l3, h.bd, h.len, h.hsp, h.ok, h.no⟩
theorem Bs6.badK {H : Hp} {c : Addr} {ps : List Addr} {rs : List (List Int)} {n sp k : Nat} {bad : Bool} (h : Bs6 H c ps rs n sp bad) (hk : k ≠ 4) : (bad = true → BadK k n rs) ∧ (bad = false → ¬ BadK k n rs) := by
  refine ⟨fun e => ?_, fun e hb => ?_⟩
  · obtain ⟨r, er, hne⟩ := h.no e
    exact .inl ⟨hk, r, List.mem_of_getElem? er, hne⟩
  · rcases hb with ⟨_, r, hr, hne⟩ | ⟨h4, _⟩
    · exact hne (h.ok e r hr)
    · exact hk h4
theorem Bs6.turn {H : Hp} {c : Addr} {ps : List Addr} {rs : List (List Int)} {n sp : Nat} {bad : Bool} (h : Bs6 H c ps rs n sp bad) : (rs.drop (sp + 1) ++ rs.take (sp + 1)).length = rs.length ∧ (∀ r ∈ rs.drop (sp + 1) ++ rs.take (sp + 1), r ∈ rs) ∧ (bad = true → BadK 4 n (rs.drop (sp + 1) ++ rs.take (sp + 1))) ∧ (bad = false → ¬ BadK 4 n (rs.drop (sp + 1) ++ rs.take (sp + 1))) := by
  have hsp := h.hsp
  have el : (rs.drop (sp + 1) ++ rs.take (sp + 1)).length = rs.length := by rw [List.length_append, List.length_drop, List.length_take]; (first | lia | omega)
  have ela : (rs.drop (sp + 1) ++ rs.take (sp + 1))[(rs.drop (sp + 1) ++ rs.take (sp + 1)).length - 1]? = rs[sp]? := by
    rw [el, List.getElem?_append_right (by rw [List.length_drop]; (first | lia | omega)), List.length_drop, List.getElem?_take, if_pos (by (first | lia | omega))]
    congr 1; (first | lia | omega)
  refine ⟨el, fun r hr => ?_, fun e => .inr ⟨rfl, ?_⟩, fun e hb => ?_⟩
  · rcases List.mem_append.mp hr with z | z
    · exact List.mem_of_mem_drop z
    · exact List.mem_of_mem_take z
  · obtain ⟨r, er, hne⟩ := h.no e
    exact ⟨r, by rw [ela]; exact er, hne⟩
  · rcases hb with ⟨h4, _⟩ | ⟨_, r, er, hne⟩
    · exact h4 rfl
    · rw [ela] at er
      exact hne (h.ok e r (List.mem_of_getElem? er))
theorem half_num : (Rat.divInt 1 2).num = 1 ∧ (Rat.divInt 1 2).den = 2 := by decide +kernel
theorem half_frt : FrT (Rat.divInt 1 2) = [.int 1, .int 2] := by
  obtain ⟨a, b⟩ := half_num
  unfold FrT; rw [a, b]; rfl
theorem half_sz : Sz 40 (Rat.divInt 1 2) := by
  obtain ⟨a, b⟩ := half_num
  constructor
  · rw [a]; decide
  · rw [b]; decide
theorem tups_rep {H : Hp} {t : Addr} {q : Rat} (h : H t = some (.tup (FrT q))) : ∀ m : Nat, TupsAt H (List.replicate m t) (List.replicate m q)
  | 0 => .nil
  | m + 1 => .cons h (tups_rep h m)
theorem ok_law {f fg ff fk fon fli ffi fcl fre fpo fwy fws fan fso fi fw fa' fc fl flo fad fmu fis fwt fsv fnu frb fne fwh fal fah fmx fpl fti fsp fwd fft fmv fte ffc ffo fss fsw fsd frf fdu C NS BV S R : Addr} {fd fdg fdf fdk fdon fdli fdfi fdcl fdre fdpo fdwy fdws fdan fdso fdi fdw fda fdc fdl fdlo fdad fdmu fdis fdwt fdsv fdnu fdrb fdne fdwh fdal fdah fdmx fdpl fdti fdsp fdwd fdft fdmv fdte fdfc fdfo fdss fdsw fdsd fdrf fddu : FuncData} (D : Def K mg "law" sLaw ["_law_script"] f fd) (B : Blt mg) (be : mg "enumerate" = none) (bs' : mg "sum" = none) (EC : ExcC K mg "BadRow" C) (EN : ExcC K mg "NoSolution" NS) (EB : ExcC K mg "BadValues" BV) (RC : RefC K mg C S false true false false) (EM : Exm3 K C NS BV)
    (T : TxtR K mg R) (M : Mk K R fi) (FI : Fun K "__init__" "Reduction.__init__" sRInit fi fdi) (bI : Binds K fdi ["self", "divisor", "bound", "rest"] []) (hP : P.given.tree = none)
    (Dg : Def K mg "greatest_divisor" sGd ["one", "two"] fg fdg) (Df : Def K mg "fraction" sFrac ["top", "bottom"] ff fdf) (Dk : Def K mg "check_rows" sCheck ["count", "rows"] fk fdk)
    (Don : Def K mg "one_among_noughts" sOne ["place", "length"] fon fdon) (Dli : Def K mg "lines_of" sLines ["rows"] fli fdli) (Dfi : Def K mg "first_place_with" sFirst ["lines", "unknown"] ffi fdfi) (Dcl : Def K mg "cleared" sClr ["line", "pivot", "unknown", "divisor"] fcl fdcl) (Dre : Def K mg "reduced" sRed ["count", "rows"] fre fdre)
    (Dpo : Def K mg "point_of" sPoint ["count", "reduction"] fpo fdpo) (Dwy : Def K mg "way_of" sWay ["count", "reduction", "free"] fwy fdwy) (Dws : Def K mg "ways_of" sWays ["count", "reduction"] fws fdws) (Dan : Def K mg "answer_of" sAns ["count", "reduction"] fan fdan) (Dso : Def K mg "solved" sSolved ["count", "rows"] fso fdso)
    (Dw : Def K mg "_law_whole" sWhole ["_law_found"] fw fdw) (Da : Def K mg "_law_at" sAt ["_law_script", "_law_k"] fa' fda) (Dc : Def K mg "_law_common" sCommon ["_law_one", "_law_two"] fc fdc) (Dl : Def K mg "_law_lowest" sLowest ["_law_found"] fl fdl) (Dlo : Def K mg "_law_lows" sLows ["_law_found", "_law_count"] flo fdlo)
    (Dad : Def K mg "_law_add" sAdd ["_law_one", "_law_two"] fad fdad) (Dmu : Def K mg "_law_mul" sMul ["_law_one", "_law_two"] fmu fdmu) (Dis : Def K mg "_law_is" sIs ["_law_one", "_law_two"] fis fdis) (Dwt : Def K mg "_law_weight" sWeight ["_law_row", "_law_point"] fwt fdwt) (Dsv : Def K mg "_law_solves" sSolves ["_law_row", "_law_point"] fsv fdsv)
    (Dnu : Def K mg "_law_number" sNumber ["_law_cell"] fnu fdnu) (Drb : Def K mg "_law_rows_by" sRowsBy ["_law_cells", "_law_count", "_law_most"] frb fdrb)
    (Dne : Def K mg "_law_never" sNever ["_law_rows", "_law_factors", "_law_count"] fne fdne) (Dwh : Def K mg "_law_way_holds" sWayH ["_law_found", "_law_rows", "_law_count", "_law_frees"] fwh fdwh) (Dal : Def K mg "_law_all" sAll ["_law_found", "_law_rows", "_law_count"] fal fdal) (Dah : Def K mg "_law_answer_holds" sAnsH ["_law_found", "_law_rows", "_law_count"] fah fdah) (Dmx : Def K mg "_law_mixed" sMixed ["_law_script"] fmx fdmx)
    (Dpl : Def K mg "plus" sPlus ["one", "two"] fpl fdpl) (Dti : Def K mg "times" sTimes ["one", "two"] fti fdti) (Dsp : Def K mg "sum_of_products" sSop ["numbers", "parts"] fsp fdsp) (Dwd : Def K mg "weighed" sWeighed ["row", "point"] fwd fdwd) (Dft : Def K mg "fits" sFits ["row", "point"] fft fdft) (Dmv : Def K mg "moved" sMoved ["point", "way", "value"] fmv fdmv) (Dte : Def K mg "telling_points" sTell ["point", "ways"] fte fdte) (Dfc : Def K mg "factors_to" sFacs ["count", "reduction", "length", "row"] ffc fdfc) (Dfo : Def K mg "follows" sFollows ["count", "rows", "row"] ffo fdfo)
    (Dss : Def K mg "same_solutions" sSameS ["count", "rows", "others"] fss fdss) (Dsw : Def K mg "solution_with" sSolW ["count", "rows", "values"] fsw fdsw)
    (Dsd : Def K mg "_law_said" sSaid ["_law_which", "_law_count", "_law_rows", "_law_values"] fsd fdsd) (Drf : Def K mg "_law_refuses" sRefuses ["_law_which", "_law_count", "_law_rows", "_law_values"] frf fdrf) (Ddu : Def K mg "_law_as_due" sDue ["_law_due", "_law_which", "_law_count", "_law_rows", "_law_values"] fdu fddu) :
    FnOk P w K mg base CX0 11 f fd ["_law_script"] (spLaw K) := by
  have GRe : FnOk P w K mg base (CXF P w) 3 fre fdre ["count", "rows"] (spRed K C R) := ok_red Dre B hP be EC T M FI bI Dk Dli Don Dfi Dcl
  have GAn : FnOk P w K mg base CX0 5 fan fdan ["count", "reduction"] (spAns R) := ok_ans Dan B hP T Dpo Dws Dwy Df Dg
  have GS6 : FnOk P w K mg base (CXF P w) 6 fso fdso ["count", "rows"] (spSolved K C) := ok_solved Dso Dre Dan (GRe.mono (by decide)) GAn
  have GS : FnOk P w K mg base (CXF P w) 8 fso fdso ["count", "rows"] (spSolved K C) := GS6.mono (by decide)
  have GSW : FnOk P w K mg base (CXF P w) 8 fsw fdsw ["count", "rows", "values"] (spSolW K C NS BV) := (ok_solW Dsw B EN EB Dso Dmv GS6 ((ok_moved Dmv B hP Dpl Dti Df Dg).mono (by decide))).mono (by decide)
  have GSS : FnOk P w K mg base (CXF P w) 8 fss fdss ["count", "rows", "others"] (spSameS K C) := (ok_sameS Dss Dso GS6).mono (by decide)
  have GFo : FnOk P w K mg base (CXF P w) 8 ffo fdfo ["count", "rows", "row"] (spFol K C) := (ok_fol Dfo B Dk Dre Dan Dte Dft Dfc ((ok_check Dk B be EC).mono (by decide)) (GRe.mono (by decide)) (GAn.mono (by decide)) ((ok_tell Dte Dmv (ok_moved Dmv B hP Dpl Dti Df Dg)).mono (by decide)) (ok_fits Dft B hP B.zip Dwd Dsp Dpl Dti Df Dg) ((ok_facs Dfc B hP bs' T Df Dg).mono (by decide))).mono (by decide)
  have GSd9 : FnOk P w K mg base CX0 9 fsd fdsd ["_law_which", "_law_count", "_law_rows", "_law_values"] (spSaid K) := ok_said Dsd B EC EN EB EM Dso Dss Dfo Dsw GS GSS GFo GSW
  have GSd : FnOk P w K mg base CX0 10 fsd fdsd ["_law_which", "_law_count", "_law_rows", "_law_values"] (spSaid K) := GSd9.mono (by decide)
  have GDu : FnOk P w K mg base CX0 10 fdu fddu ["_law_due", "_law_which", "_law_count", "_law_rows", "_law_values"] (spDue K) := ok_due Ddu Drf Dsd (ok_refuses Drf B RC Dso Dss Dfo GS GSS GFo) GSd9
  have GS10 : FnOk P w K mg base (CXF P w) 10 fso fdso ["count", "rows"] (spSolved K C) := GS.mono (by decide)
  have GA1 : FnOk P w K mg base CX0 1 fa' fda ["_law_script", "_law_k"] (spAt K) := ok_at Da B
  have GA : FnOk P w K mg base CX0 10 fa' fda ["_law_script", "_law_k"] (spAt K) := GA1.mono (by decide)
  have GX : FnOk P w K mg base CX0 10 fmx fdmx ["_law_script"] (spMixed K) := (ok_mixed Dmx B).mono (by decide)
  have GW2 : FnOk P w K mg base CX0 2 fwt fdwt ["_law_row", "_law_point"] (spWeight K) := ok_weight Dwt B Dad Dmu
  have GI1 : FnOk P w K mg base CX0 1 fis fdis ["_law_one", "_law_two"] (spIs K) := ok_is Dis
  have GL3 : FnOk P w K mg base CX0 3 flo fdlo ["_law_found", "_law_count"] spLows := ok_lows Dlo B Dl Dw Dc
  have GSv : FnOk P w K mg base CX0 3 fsv fdsv ["_law_row", "_law_point"] (spSolves K) := ok_solves Dsv B Dis Dwt (GI1.mono (by decide)) GW2
  have GNe : FnOk P w K mg base CX0 4 fne fdne ["_law_rows", "_law_factors", "_law_count"] (spNever K) := ok_never Dne B Dis Dwt Dlo (GI1.mono (by decide)) (GW2.mono (by decide)) GL3
  have GWh : FnOk P w K mg base CX0 4 fwh fdwh ["_law_found", "_law_rows", "_law_count", "_law_frees"] (spWayH K) := ok_wayH Dwh B Dwt Dlo (GW2.mono (by decide)) GL3
  have GAl : FnOk P w K mg base CX0 5 fal fdal ["_law_found", "_law_rows", "_law_count"] (spAll K) := ok_all Dal B Dlo Dw Dwh Dsv (GL3.mono (by decide)) ((ok_whole Dw B).mono (by decide)) GWh (GSv.mono (by decide))
  have GH : FnOk P w K mg base CX0 10 fah fdah ["_law_found", "_law_rows", "_law_count"] (spAnsH K) := (ok_ansH Dah B Dne Dal (GNe.mono (by decide)) GAl).mono (by decide)
  have GR10 : FnOk P w K mg base CX0 10 frb fdrb ["_law_cells", "_law_count", "_law_most"] (spRowsBy K) := (ok_rowsby Drb B Dnu).mono (by decide)
  have GRb : FnOk P w K mg base CX0 3 frb fdrb ["_law_cells", "_law_count", "_law_most"] (spRowsBy K) := (ok_rowsby Drb B Dnu).mono (by decide)
  refine D.fn.ok scLaw (fun vs H Q E h => ?_) (fun cdv A outer s H vs Q E hr h => ?_)
  · obtain ⟨a, ns, rfl, _⟩ := h
    rfl
  · obtain ⟨a, ns, rfl, hS, hlen, k⟩ := h
    have hu1 := Nat.lt_of_succ_lt (hu_of hr)
    refine ⟨_, pss_cons (ps_set (i := 0) scLaw.nd rfl (Or.inl rfl) (pe_slice sl_list (pv 0) po_none (po_some pe_int)))
      (pss_cons (ps_set (i := 0) scLaw.nd rfl (Or.inl rfl) (pe_call GX hr (by rfl) Dmx.mg Dmx.fn.kp Dmx.bd .nil pass0 (pa_cons (pv 0) pa_nil)))
      (pss_cons (ps_set (i := 1) scLaw.nd rfl (Or.inl rfl) (pe_op op_mod (pe_call GA hr (by rfl) Da.mg Da.fn.kp Da.bd .nil pass0 (pa_cons (pv 0) (pa_cons pe_int pa_nil))) pe_int))
      (pss_cons (ps_set (i := 2) scLaw.nd rfl (Or.inl rfl) (pe_call GR10 hr (by rfl) Drb.mg Drb.fn.kp Drb.bd .nil pass0 (pa_cons (pe_slice sl_list (pv 0) (po_some pe_int) po_none) (pa_cons (pv 1) (pa_cons pe_int pa_nil)))))
      (pss_cons (ps_cut (ps_if (pt_cmpR (op_eqL0 hu1) (pv 2) (pe_lst pa_nil) (nomark _)) (pss_one (ps_set (i := 2) scLaw.nd rfl (Or.inl rfl) (pe_lst (pa_cons (pe_op op_rep (pe_lst (pa_cons pe_int pa_nil)) (pe_op op_add (pv 1) pe_int)) pa_nil)))) pss_nil))
      (pss_cons (ps_set (i := 3) scLaw.nd rfl (Or.inl rfl) (pe_cmpR op_eq (pe_op op_mod (pe_call GA hr (by rfl) Da.mg Da.fn.kp Da.bd .nil pass0 (pa_cons (pv 0) (pa_cons pe_int pa_nil))) pe_int) pe_int (nomark _)))
      (pss_cons (ps_set (i := 4) scLaw.nd rfl (Or.inl rfl) (pe_op op_mod (pe_op op_fdiv (pe_call GA hr (by rfl) Da.mg Da.fn.kp Da.bd .nil pass0 (pa_cons (pv 0) (pa_cons pe_int pa_nil))) pe_int) (pe_callB call_len_seq (by rfl) B.len bt_len (pa_cons (pv 2) pa_nil))))
      (pss_cons (ps_cut (ps_if (pt_val (pv 3)) (pss_one (ps_asg (pe_slice sl_list (pe_op op_cat (pe_ix ix_list (pv 2) (pv 4) plainN) (pe_lst (pa_cons pe_int pa_nil))) (po_some (pe_op op_mul (pe_callTy call_int1 (by rfl) B.int bt_int (pa_cons (pe_cmpR op_eq (pe_op op_mod (pe_op op_fdiv (pe_call GA hr (by rfl) Da.mg Da.fn.kp Da.bd .nil pass0 (pa_cons (pv 0) (pa_cons pe_int pa_nil))) pe_int) pe_int) pe_int (nomark _)) pa_nil)) pe_int)) po_none) (pg_sub (pv 2) (pv 4) set_list))) pss_nil))
      (pss_cons (ps_set (i := 5) scLaw.nd rfl (Or.inl rfl) (pe_str))
      (pss_cons (ps_cut (ps_if (pt_val (pv 3)) (pss_one (ps_set (i := 5) scLaw.nd rfl (Or.inl rfl) (pe_str))) pss_nil))
      (pss_cons (ps_cut (ps_for PassesOwn.never rfl (pi_range1 (by rfl) B.range (pa_cons pe_int pa_nil)) (pg_name (i := 6) scLaw.nd rfl (Or.inl rfl))
        (pss_cons (ps_set (i := 7) scLaw.nd rfl (Or.inl rfl) (pe_op op_cat (pe_slice sl_list (pv 2) (po_some (pe_op op_add (pv 4) pe_int)) po_none) (pe_slice sl_list (pv 2) po_none (po_some (pe_op op_add (pv 4) pe_int)))))
        (pss_cons (ps_cut (ps_if (pt_cmpR op_lt (pv 6) pe_int (nomark _)) (pss_one (ps_set (i := 7) scLaw.nd rfl (Or.inl rfl) (pv 2))) pss_nil))
        (pss_one (ps_if (pt_not (pt_val (pe_call GDu hr (by rfl) Ddu.mg Ddu.fn.kp Ddu.bd .nil pass0 (pa_cons (pv 5) (pa_cons (pv 6) (pa_cons (pv 1) (pa_cons (pe_comp ["_law_row"] [] rfl (compSc_mk (by rfl) (by rfl) (by rfl)) (pi_list (pv 7)) (gk_name (i := 0) (by decide))
          (fun cl C s H fp pins => pg_name (i := 0) (by show (["_law_row"] : List Str).Nodup; decide +kernel) rfl (Or.inl rfl) (Or.inr rfl))
          (fun cl C s H fp pins => pe_callTy callC_list_of (by rfl) B.list bt_list (pa_cons (pv 0) pa_nil))) (pa_cons (pe_lst pa_nil) pa_nil)))))))) (pss_one (ps_ret pe_bl)) pss_nil))))))
      (pss_cons (ps_set (i := 8) scLaw.nd rfl (Or.inl rfl) (pe_tup (pa_cons pe_str pa_nil)))
      (pss_cons (ps_cut (ps_if (pt_not (pt_val (pv 3))) (pss_cons (ps_set (i := 8) scLaw.nd rfl (Or.inl rfl) (pe_call GS10 hr (by rfl) Dso.mg Dso.fn.kp Dso.bd .nil passF (pa_cons (pv 1) (pa_cons (pe_comp ["_law_row"] [] rfl (compSc_mk (by rfl) (by rfl) (by rfl)) (pi_list (pv 2)) (gk_name (i := 0) (by decide))
          (fun cl C s H fp pins => pg_name (i := 0) (by show (["_law_row"] : List Str).Nodup; decide +kernel) rfl (Or.inl rfl) (Or.inr rfl))
          (fun cl C s H fp pins => pe_callTy callC_list_of (by rfl) B.list bt_list (pa_cons (pv 0) pa_nil))) pa_nil)))) (pss_one (ps_if (pt_not (pt_val (pe_call GH hr (by rfl) Dah.mg Dah.fn.kp Dah.bd .nil pass0 (pa_cons (pv 8) (pa_cons (pv 2) (pa_cons (pv 1) pa_nil)))))) (pss_one (ps_ret pe_bl)) pss_nil))) pss_nil))
      (pss_cons (ps_set (i := 9) scLaw.nd rfl (Or.inl rfl) (pe_op op_rep (pe_lst (pa_cons (pe_tup (pa_cons pe_int (pa_cons pe_int pa_nil))) pa_nil)) (pe_op op_mod (pe_op op_fdiv (pe_call GA hr (by rfl) Da.mg Da.fn.kp Da.bd .nil pass0 (pa_cons (pv 0) (pa_cons pe_int pa_nil))) pe_int) pe_int)))
      (pss_cons (ps_cut (ps_if (PW.pt (pw_and (pt_not (pt_val (pv 3))) (pw_and1 (pt_cmpR op_eq (pe_ix ix_tup (pv 8) pe_int plainC) pe_str (nomark _))))) (pss_one (ps_set (i := 5) scLaw.nd rfl (Or.inl rfl) (pe_str)))
        (pss_one (ps_if (PW.pt (pw_and (pt_not (pt_val (pv 3))) (pw_and1 (pt_cmpR op_ne (pe_callB call_len_seq (by rfl) B.len bt_len (pa_cons (pe_ix ix_tup (pv 8) pe_int plainC) pa_nil)) (pe_callB call_len_seq (by rfl) B.len bt_len (pa_cons (pv 9) pa_nil)) (nomark _))))) (pss_one (ps_set (i := 5) scLaw.nd rfl (Or.inl rfl) (pe_str))) pss_nil))))
      (pss_one (ps_ret (pe_cmpR op_eq (pe_call GSd hr (by rfl) Dsd.mg Dsd.fn.kp Dsd.bd .nil pass0 (pa_cons pe_int (pa_cons (pv 1) (pa_cons (pv 2) (pa_cons (pv 9) pa_nil))))) (pv 5) (nomark _)))))))))))))))))), ?_⟩
    ((try dsimp only [cxOf_K, gName, tNext, gTup, gCons, gNil]); refine seqB fun _ _ hs hs' => ?_)
    refine ⟨_, rfl, a, _, rfl, hS, fun p0 hp0 => ?_⟩
    rw [cut500 ns hlen]
    ((try dsimp only [gName, tNext, gTup, gCons, gNil]); subst hs hs'; refine seqB fun _ _ hs hs' => ?_)
    refine ⟨p0, ns, rfl, SqL.of upd_same, (by (first | lia | omega)), fun p1 H1 n1 e1 s1 => ?_⟩
    have hmm := mixed_mem ns
    have hml : (mixed ns).length ≤ 63 := by rw [mixed_len]; exact hlen
    generalize mixed ns = ms at *
    have g0 := getD_in hmm 0
    have g1 := getD_in hmm 1
    ((try dsimp only [gName, tNext, gTup, gCons, gNil]); subst hs hs'; refine seqB fun _ _ hs hs' => ?_)
    refine ⟨p1, _, 0, rfl, SqL.of e1, (by show (0 : Int) < 4; decide), ?_⟩
    obtain ⟨n, hn, hn3⟩ : ∃ n : Nat, (n : Int) = ms.getD 0 0 % 4 ∧ n ≤ 3 := ⟨(ms.getD 0 0 % 4).toNat, by (first | lia | omega), by (first | lia | omega)⟩
    show gName 1 (.int (ms.getD 0 0 % 4)) _ _ _
    rw [← hn]
    ((try dsimp only [gName, tNext, gTup, gCons, gNil]); subst hs hs'; refine seqB fun _ _ hs hs' => ?_)
    refine ⟨_, rfl, p1, _, rfl, SqL.of e1, fun p2 hp2 => ?_⟩
    have ck := cutk ms 2
    rw [show ((2 : Nat) : Int) = 2 from rfl] at ck
    rw [ck]
    have S2 := Same.upd (o := .lst ((ms.drop 2).map V.int)) hp2
    refine ⟨p2, ms.drop 2, n, 3, rfl, SqL.of upd_same, (by simp; (first | lia | omega)), (fun x hx => hmm x (List.mem_of_mem_drop hx)), (by (first | lia | omega)), (by decide), fun c ps rs H3 hc ec hR hpc hrm hz s3 => ?_⟩
    have e3 := s3 _ _ (S2 _ _ e1)
    have lp := Paired.length hR
    ((try dsimp only [gName, tNext, gTup, gCons, gNil]); subst hs hs'; refine seqB fun _ _ hs hs' => ?_)
    refine ⟨Rw6 K p1 ms n, ?_, ?_⟩
    · refine ⟨(by show 0 ≤ sizeLine; decide), fun l0 hl0 => ?_⟩
      have s4 : Same H3 (upd H3 l0 (.lst [])) := Same.upd hl0
      refine ⟨c, l0, _, rfl, rfl, SqL.of (s4 _ _ ec), SqL.of upd_same, _, rfl, ?_⟩
      generalize upd H3 l0 (.lst []) = H4 at s4
      cases hq0 : ps.isEmpty with
      | true =>
        refine iteT' (by cases ps with | nil => rfl | cons _ _ => simp at hq0) ?_
        refine ⟨(by show 1 ≤ sizeLine; decide), fun l1 h1 => ⟨l1, _, [.int 0], rfl, rfl, upd_same, (by (first | lia | omega)), (by (first | lia | omega)), ?_, fun c1 hc1 => ⟨(by show 1 ≤ sizeLine; decide), fun c2 hc2 => ?_⟩⟩⟩
        · show 1 * ((n : Int) + 1).toNat ≤ sizeLine
          exact Nat.le_of_lt (small1000 (by (first | lia | omega)))
        have ei : ((n : Int) + 1).toNat = n + 1 := by (first | lia | omega)
        rw [ei, rep_one] at hc2 ⊢
        have s5 := (s4.trans (Same.upd (o := .lst [.int 0]) h1)).trans (Same.upd (o := .lst (List.replicate (n + 1) (V.int 0))) hc1)
        have s6 := s5.trans (Same.upd (o := .lst [.ref c1]) hc2)
        refine ⟨c2, [c1], [List.replicate (n + 1) 0], rfl, s6 _ _ e3, upd_same, .cons (by rw [List.map_replicate]; exact (Same.upd hc2) _ _ upd_same) .nil, by simp, by simp, fun r hr' => ?_, fun r hr' => ?_⟩
        · rw [List.mem_singleton.mp hr']; simp
        · rw [List.mem_singleton.mp hr']
          intro x hx
          rw [(List.mem_replicate.mp hx).2]; exact Nat.two_pow_pos _
      | false =>
        refine iteF' (by cases ps with | nil => simp at hq0 | cons _ _ => rfl) ?_
        have hps : 0 < ps.length := by cases ps with | nil => simp at hq0 | cons _ _ => simp
        refine ⟨c, ps, rs, rfl, s4 _ _ e3, s4 _ _ ec, hR.same s4, by (first | lia | omega), hrm, fun r hr' => ?_, fun r hr' x hx => ?_⟩
        · obtain ⟨i, er⟩ := List.getElem?_of_mem hr'
          exact (hz i r er).1
        · obtain ⟨i, er⟩ := List.getElem?_of_mem hr'
          have hi : i < rs.length := (List.getElem?_eq_some_iff.mp er).1
          exact pow_mono ((hz i r er).2 x hx) (by (first | lia | omega))
    clear ec hR hpc hrm hz s3 e3 hc lp
    rintro σ H0 ⟨c, ps, rs, rfl, e0, ec, hR, l1, l3, lall, ball⟩
    have lp := Paired.length hR
    ((try dsimp only [gName, tNext, gTup, gCons, gNil]); subst hs hs'; refine seqB fun _ _ hs hs' => ?_)
    refine ⟨p1, _, 1, rfl, SqL.of e0, (by show (0 : Int) < 3; decide), ?_⟩
    dsimp only [tC, rEq, scal, onT]
    generalize decide (V.int (ms.getD 1 0 % 3) = V.int 1) = bad
    ((try dsimp only [gName, tNext, gTup, gCons, gNil]); subst hs hs'; refine seqB fun _ _ hs hs' => ?_)
    refine ⟨p1, _, 1, rfl, SqL.of e0, ⟨by decide, by decide⟩, _, .inl (SqL.of ec), (by rw [List.length_map]; (first | lia | omega)), ?_⟩
    obtain ⟨sp, hsp, hspl⟩ : ∃ t : Nat, (t : Int) = ms.getD 1 0 / 30 % ((ps.map V.ref).length : Int) ∧ t < rs.length := by
      have h1 := Int.emod_nonneg (ms.getD 1 0 / 30) (show ((ps.map V.ref).length : Int) ≠ 0 by rw [List.length_map]; (first | lia | omega))
      have h2 := Int.emod_lt_of_pos (ms.getD 1 0 / 30) (show 0 < ((ps.map V.ref).length : Int) by rw [List.length_map]; (first | lia | omega))
      rw [List.length_map] at h2
      exact ⟨(ms.getD 1 0 / 30 % ((ps.map V.ref).length : Int)).toNat, by (first | lia | omega), by rw [List.length_map] at *; (first | lia | omega)⟩
    show gName 4 (.int (ms.getD 1 0 / 30 % ((ps.map V.ref).length : Int))) _ _ _
    rw [← hsp]
    clear hsp
    ((try dsimp only [gName, tNext, gTup, gCons, gNil]); subst hs hs'; refine seqB fun _ _ hs hs' => ?_)
    refine ⟨fun σ H => ∃ (ps' : List Addr) (rs' : List (List Int)), σ = [some (.ref p1), some (.int n), some (.ref c), some (.bl bad), some (.int sp), none, none, none, none, none] ∧ H p1 = some (.lst (ms.map V.int)) ∧ Bs6 H c ps' rs' n sp bad, ?_, ?_⟩
    · refine ⟨_, rfl, ?_⟩
      cases bad with
      | false => exact iteF' rfl ⟨ps, rs, rfl, e0, ⟨ec, hR, l1, l3, ball, (fun r hr' => by rw [lall r hr']; (first | lia | omega)), hspl, fun _ => lall, (fun z => nomatch z)⟩⟩
      | true =>
        refine iteT' rfl ?_
        obtain ⟨q, eq⟩ : ∃ q, ps[sp]? = some q := ⟨_, List.getElem?_eq_getElem (by (first | lia | omega))⟩
        obtain ⟨r, er, hq⟩ := hR.get eq
        have hrm := List.mem_of_getElem? er
        have lr := lall r hrm
        refine ⟨_, _, SqL.of ec, at_mapR eq, (by show 1 ≤ sizeLine; decide), fun l1' hl1 => ?_⟩
        have s4 := Same.upd (o := .lst [.int 1]) hl1
        refine ⟨q, l1', _, _, rfl, rfl, s4 _ _ hq, upd_same, (by rw [List.length_map, lr]; exact Nat.le_of_lt (small1000 (by simp; (first | lia | omega)))), fun c2 hc2 => ?_⟩
        have s5 := s4.trans (Same.upd (o := .lst (r.map V.int ++ [V.int 1])) hc2)
        have e5 : (upd (upd H0 l1' (.lst [.int 1])) c2 (.lst (r.map V.int ++ [V.int 1]))) c2 = some (.lst ((r ++ [1]).map V.int)) := by rw [upd_same, List.map_append]; rfl
        generalize upd (upd H0 l1' (.lst [.int 1])) c2 (.lst (r.map V.int ++ [V.int 1])) = H5 at s5 e5
        refine ⟨p1, _, 1, rfl, SqL.of (s5 _ _ e0), ⟨by decide, by decide⟩, (by show (0 : Int) < 2; decide), ?_⟩
        refine .inr ⟨_, rfl, ?_⟩
        generalize decide (V.int (ms.getD 1 0 / 3 % 2) = V.int 1) = kb
        refine ⟨.inl (by cases kb <;> exact ⟨by decide, by decide⟩), ?_⟩
        obtain ⟨t, ht, htv⟩ : ∃ t : Nat, (if kb = true then (1 : Int) else 0) * 2 = (t : Int) ∧ (t = 0 ∨ t = 2) := by
          cases kb
          · exact ⟨0, rfl, .inl rfl⟩
          · exact ⟨2, rfl, .inr rfl⟩
        refine ⟨_, rfl, c2, _, rfl, SqL.of e5, fun c3 hc3 => ?_⟩
        rw [ht, cutk]
        have s6 := s5.trans (Same.upd (o := .lst (((r ++ [1]).drop t).map V.int)) hc3)
        have e6 : (upd H5 c3 (.lst (((r ++ [1]).drop t).map V.int))) c3 = some (.lst (((r ++ [1]).drop t).map V.int)) := upd_same
        have c3c : c3 ≠ c := fun z => by rw [z, s5 _ _ ec] at hc3; cases hc3
        generalize upd H5 c3 (.lst (((r ++ [1]).drop t).map V.int)) = H6 at s6 e6
        refine ⟨ps.map V.ref, sp, s6 _ _ ec, (by rw [List.length_map]; exact ixN_nat (by (first | lia | omega))), ?_⟩
        have pne : ps ≠ [] := fun z => by rw [z] at eq; cases eq
        have nec : ∀ {x : Addr} {zs : List Int}, H0 x = some (.lst (zs.map V.int)) → x ≠ c := fun {x zs} hx z => by
          rw [z, ec] at hx; exact sq_ne pne hx
        have em : (ps.map V.ref).set sp (V.ref c3) = (ps.set sp c3).map V.ref := by rw [List.map_set]
        rw [em]
        refine ⟨ps.set sp c3, rs.set sp ((r ++ [1]).drop t), rfl, by rw [upd_ne (nec e0)]; exact s6 _ _ e0, ⟨upd_same, ?_, by rw [List.length_set]; exact l1, by rw [List.length_set]; exact l3, ?_, ?_, by rw [List.length_set]; exact hspl, (fun z => nomatch z), fun _ => ?_⟩⟩
        · refine RowsL.upd (RowsL.set e6 (hR.same s6)) fun x hx => ?_
          rcases List.mem_or_eq_of_mem_set hx with z | z
          · obtain ⟨j, ej⟩ := List.mem_iff_getElem?.mp z
            obtain ⟨r2, _, h2⟩ := hR.get ej
            exact nec h2
          · rw [z]; exact c3c
        · intro r' hr'
          rcases List.mem_or_eq_of_mem_set hr' with z | z
          · exact ball r' z
          · rw [z]
            intro x hx
            rcases List.mem_append.mp (List.mem_of_mem_drop hx) with u | u
            · exact ball r hrm x u
            · rw [List.mem_singleton.mp u]; exact Nat.one_lt_two_pow (by decide)
        · intro r' hr'
          rcases List.mem_or_eq_of_mem_set hr' with z | z
          · rw [lall r' z]; (first | lia | omega)
          · rw [z, List.length_drop, List.length_append, List.length_singleton, lr]; (first | lia | omega)
        · refine ⟨(r ++ [1]).drop t, by rw [List.getElem?_set_self (by (first | lia | omega))], ?_⟩
          rw [List.length_drop, List.length_append, List.length_singleton, lr]
          (first | lia | omega)
    clear ec hR l1 l3 lall ball hspl lp e0
    rintro σ H0 ⟨ps, rs, rfl, e0, BS⟩
    have lenR : ∀ r ∈ rs, r.length ≤ 500 := fun r hr' => Nat.le_trans (BS.len r hr') (by decide)
    have hb3 := bz3 hn3
    have hb0 : 2000 ≤ bz n 2000 := bz_mono (t := 0) (m := 2000) (Nat.zero_le n)
    have hl3 := BS.l3
    have hl1 := BS.l1
    have lp := Paired.length BS.hR
    ((try dsimp only [gName, tNext, gTup, gCons, gNil]); subst hs hs'; refine seqB fun _ _ hs hs' => ?_)
    dsimp only [tSeq, tAsg, tC]
    ((try dsimp only [gName, tNext, gTup, gCons, gNil]); subst hs hs'; refine seqB fun _ _ hs hs' => ?_)
    refine ⟨fun σ H => ∃ due : Str, σ = [some (.ref p1), some (.int n), some (.ref c), some (.bl bad), some (.int sp), some (.str due), none, none, none, none] ∧ H = H0 ∧ (bad = true → due = "row") ∧ (bad = false → due = "done"), ?_, ?_⟩
    · refine ⟨_, rfl, ?_⟩
      cases bad with
      | false => exact iteF' rfl ⟨_, rfl, rfl, (fun z => nomatch z), fun _ => rfl⟩
      | true => exact iteT' rfl ⟨_, rfl, rfl, fun _ => rfl, (fun z => nomatch z)⟩
    rintro σ H ⟨due, rfl, rfl, due1, due2⟩
    ((try dsimp only [gName, tNext, gTup, gCons, gNil]); subst hs hs'; refine seqB fun _ _ hs hs' => ?_)
    refine ⟨fun σ H1 => ∃ x6 x7 : Option V, σ = [some (.ref p1), some (.int n), some (.ref c), some (.bl bad), some (.int sp), some (.str due), x6, x7, none, none] ∧ Same H H1, ?_, ?_⟩
    · refine ⟨_, rfl, (by decide), (by decide), ?_⟩
      rw [show (5 : Int).toNat = 5 from rfl]
      refine for_range (fun i σ H1 => ∃ x6 x7 : Option V, σ = [some (.ref p1), some (.int n), some (.ref c), some (.bl bad), some (.int sp), some (.str due), x6, x7, none, none] ∧ Same H H1) ⟨none, none, rfl, Same.refl _⟩ ?_ ?_
      · rintro i σ H1 hi ⟨x6, x7, rfl, sm⟩
        have ei : (0 : Int) + (i : Int) = (i : Int) := Int.zero_add _
        show gName 6 (.int (0 + (i : Int))) _ _ _
        rw [ei]
        have B1 := BS.same sm
        have esp : ((sp : Int) + 1) = ((sp + 1 : Nat) : Int) := by (first | lia | omega)
        refine ⟨_, rfl, c, _, rfl, SqL.of B1.ec, fun t1 ht1 => ?_⟩
        have s2 : Same H1 (upd H1 t1 (.lst (cutV (ps.map V.ref) (some ((sp : Int) + 1)) none))) := Same.upd ht1
        refine ⟨_, rfl, c, _, rfl, SqL.of (s2 _ _ B1.ec), fun t2 ht2 => ?_⟩
        have s3 := s2.trans (Same.upd (o := .lst (cutV (ps.map V.ref) none (some ((sp : Int) + 1)))) ht2)
        refine ⟨t1, t2, _, _, rfl, rfl, (Same.upd ht2) _ _ upd_same, upd_same, ?_, fun t3 ht3 => ?_⟩
        · rw [esp, cut_drop, cut_take1, List.length_drop, List.length_take, List.length_map]
          exact Nat.le_of_lt (small1000 (by (first | lia | omega)))
        have s4 := s3.trans (Same.upd (o := .lst (cutV (ps.map V.ref) (some ((sp : Int) + 1)) none ++ cutV (ps.map V.ref) none (some ((sp : Int) + 1)))) ht3)
        have e4 : (upd (upd (upd H1 t1 (.lst (cutV (ps.map V.ref) (some ((sp : Int) + 1)) none))) t2 (.lst (cutV (ps.map V.ref) none (some ((sp : Int) + 1))))) t3 (.lst (cutV (ps.map V.ref) (some ((sp : Int) + 1)) none ++ cutV (ps.map V.ref) none (some ((sp : Int) + 1))))) t3 = some (.lst ((ps.drop (sp + 1) ++ ps.take (sp + 1)).map V.ref)) := by
          rw [upd_same, esp, cut_drop, cut_take1, List.map_append, List.map_drop, List.map_take]
        generalize upd (upd (upd H1 t1 (.lst (cutV (ps.map V.ref) (some ((sp : Int) + 1)) none))) t2 (.lst (cutV (ps.map V.ref) none (some ((sp : Int) + 1))))) t3 (.lst (cutV (ps.map V.ref) (some ((sp : Int) + 1)) none ++ cutV (ps.map V.ref) none (some ((sp : Int) + 1)))) = H4 at s4 e4
        have B4 := B1.same s4
        refine ⟨fun σ H5 => ∃ (t : Addr) (pt : List Addr) (rt : List (List Int)), σ = [some (.ref p1), some (.int n), some (.ref c), some (.bl bad), some (.int sp), some (.str due), some (.int i), some (.ref t), none, none] ∧ H5 = H4 ∧ H4 t = some (.lst (pt.map V.ref)) ∧ RowsL H4 pt rt ∧ 1 ≤ rt.length ∧ rt.length ≤ 3 ∧ (∀ r ∈ rt, r ∈ rs) ∧ (bad = true → BadK i n rt) ∧ (bad = false → ¬ BadK i n rt), ?_, ?_⟩
        · refine ⟨_, rfl, ?_⟩
          by_cases h4 : i < 4
          · have bk := BS.badK (k := i) (by (first | lia | omega))
            exact iteT' (by simp; (first | lia | omega)) ⟨c, ps, rs, rfl, rfl, B4.ec, B4.hR, hl1, hl3, fun r h => h, bk.1, bk.2⟩
          · have h4' : i = 4 := by (first | lia | omega)
            subst h4'
            obtain ⟨tl, tm, tb, tg⟩ := BS.turn
            exact iteF' (by simp) ⟨t3, _, _, rfl, rfl, e4, (B4.hR.drop (sp + 1)).app (B4.hR.take (sp + 1)), by rw [tl]; exact hl1, by rw [tl]; exact hl3, tm, tb, tg⟩
        rintro σ H5 ⟨t, pt, rt, rfl, rfl, et, hRt, lt1, lt3, mt, bt, bf⟩
        dsimp only [tIfS, tNot, tB, tCall, tCons, tVar_ap]
        refine (onV.mk (by rfl) ?_)
        refine (onV.mk (by rfl) ?_)
        refine (onV.mk (by rfl) ?_)
        refine comp_copy rfl (SqL.of et) hRt.at (by (first | lia | omega)) fun Dh dh H6 nDh eDh hTh _ s6 => ?_
        refine ⟨(by show 0 ≤ sizeLine; decide), fun vl hvl => ?_⟩
        have s7 : Same H6 (upd H6 vl (.lst [])) := Same.upd hvl
        refine ⟨i, n, Dh, vl, dh, [], rt, [], due, rfl, ⟨s7 _ _ eDh, hTh.same s7, SqL.of upd_same, .nil, hn3, lt1, lt3, (fun r h => BS.bd r (mt r h)), (fun r h => lenR r (mt r h)), (by decide), (fun _ z => nomatch z)⟩, (by (first | lia | omega)), ?_, ?_, fun H8 s8 => ⟨_, rfl, iteF' rfl ⟨_, _, rfl, sm.trans (s4.trans (s6.trans (s7.trans s8)))⟩⟩⟩
        · intro hb
          cases bad with
          | false => exact absurd hb (bf rfl)
          | true => exact due1 rfl
        · intro hb
          cases bad with
          | false => exact due2 rfl
          | true => exact absurd (bt rfl) hb
      · rintro σ H1 ⟨x6, x7, rfl, sm⟩
        exact ⟨x6, x7, rfl, sm⟩
    rintro σ H1 ⟨x6, x7, rfl, s1'⟩
    ((try dsimp only [gName, tNext, gTup, gCons, gNil]); subst hs hs'; refine seqB fun _ _ hs hs' => ?_)
    refine ⟨(by show 1 ≤ sizeLine; decide), fun y0 hy0 => ?_⟩
    have s2 := s1'.trans (Same.upd (o := .tup [.str "never"]) hy0)
    generalize upd H1 y0 (.tup [.str "never"]) = H2 at s2
    ((try dsimp only [gName, tNext, gTup, gCons, gNil]); subst hs hs'; refine seqB fun _ _ hs hs' => ?_)
    refine ⟨fun σ H3 => ∃ y : Addr, σ = [some (.ref p1), some (.int n), some (.ref c), some (.bl bad), some (.int sp), some (.str due), x6, x7, some (.ref y), none] ∧ Same H H3 ∧ (bad = false → ∃ (d : Int) (bd : List (Nat × List Int)) (rest : List (List Int)), Fin n rs d bd rest ∧ AnsOf n d bd rest H3 y), ?_, ?_⟩
    · refine ⟨_, rfl, ?_⟩
      cases bad with
      | true => exact iteF' rfl ⟨y0, rfl, s2, (fun z => nomatch z)⟩
      | false =>
        refine iteT' rfl ?_
        have lall := BS.ok rfl
        have B2 := BS.same s2
        dsimp only [tSeq, tAsg, tCall, tCons, tVar_ap]
        refine (onV.mk (by rfl) ?_)
        refine comp_copy rfl (SqL.of B2.ec) B2.hR.at (by (first | lia | omega)) fun Dh dh H4 nDh eDh hTh _ s4 => ?_
        refine ⟨n, Dh, dh, rs, 2000, rfl, SqL.of eDh, hTh, (by (first | lia | omega)), (by (first | lia | omega)), BS.bd, lenR, (by decide), (by (first | lia | omega)), (fun ⟨r, hr', hne'⟩ => absurd (lall r hr') hne'), fun _ y d bd rest H5 ny s5 I Z hA => ?_⟩
        have B5 := B2.same (s4.trans s5)
        refine ⟨y, c, n, bz n 2000, rs, rfl, ⟨⟨ps, SqL.of B5.ec, B5.hR.at⟩, lall, (by (first | lia | omega)), (by (first | lia | omega)), (fun r hr' x hx => pow_mono (BS.bd r hr' x hx) hb0), (by (first | lia | omega)), (by (first | lia | omega)), ?_, ?_⟩, ans_ok I Z lall hA, fun H6 s6 => ⟨_, rfl, iteF' rfl ⟨y, rfl, s2.trans (s4.trans (s5.trans s6)), fun _ => ⟨d, bd, rest, I, ?_⟩⟩⟩⟩
        · exact Nat.le_trans (Nat.mul_le_mul (show n + 1 ≤ 5 by (first | lia | omega)) (show 2 * bz n 2000 + 2 ≤ 64064 by (first | lia | omega))) (by decide)
        · exact Nat.le_trans (Nat.mul_le_mul (show rs.length + 1 ≤ 6 by (first | lia | omega)) (show 2 * bz n 2000 + 2 ≤ 64064 by (first | lia | omega))) (by decide)
        · rcases hA with ⟨l, hl, hz, hN⟩ | ⟨hz, hS⟩
          · exact .inl ⟨l, hl, hz, hN.same s6⟩
          · exact .inr ⟨hz, hS.same s6⟩
    rintro σ H3 ⟨y, rfl, s3, hA⟩
    ((try dsimp only [gName, tNext, gTup, gCons, gNil]); subst hs hs'; refine seqB fun _ _ hs hs' => ?_)
    refine ⟨(by show 2 ≤ sizeLine; decide), fun t ht => ⟨(by show 1 ≤ sizeLine; decide), fun l hl => ?_⟩⟩
    have s4 := (Same.upd (o := .tup [.int 1, .int 2]) ht).trans (Same.upd (o := .lst [.ref t]) hl)
    have et : (upd (upd H3 t (.tup [.int 1, .int 2])) l (.lst [.ref t])) t = some (.tup [.int 1, .int 2]) := (Same.upd hl) _ _ upd_same
    have el : (upd (upd H3 t (.tup [.int 1, .int 2])) l (.lst [.ref t])) l = some (.lst [.ref t]) := upd_same
    generalize upd (upd H3 t (.tup [.int 1, .int 2])) l (.lst [.ref t]) = H4 at s4 et el
    refine ⟨p1, _, 1, rfl, SqL.of ((s3.trans s4) _ _ e0), ⟨by decide, by decide⟩, (by show (0 : Int) < 5; decide), ?_⟩
    obtain ⟨m, hm, hm4⟩ : ∃ m : Nat, (m : Int) = ms.getD 1 0 / 6 % 5 ∧ m ≤ 4 := ⟨(ms.getD 1 0 / 6 % 5).toNat, by (first | lia | omega), by (first | lia | omega)⟩
    have etn : (ms.getD 1 0 / 6 % 5).toNat = m := by (first | lia | omega)
    refine ⟨l, _, _, rfl, rfl, el, (by (first | lia | omega)), (by (first | lia | omega)), ?_, fun vl hvl => ?_⟩
    · rw [etn]; exact Nat.le_of_lt (small1000 (by simp; (first | lia | omega)))
    rw [etn, rep_one]
    have s5 : Same H4 (upd H4 vl (.lst (List.replicate m (V.ref t)))) := Same.upd hvl
    have e5 : (upd H4 vl (.lst (List.replicate m (V.ref t)))) vl = some (.lst ((List.replicate m t).map V.ref)) := by rw [upd_same, List.map_replicate]
    generalize upd H4 vl (.lst (List.replicate m (V.ref t))) = H5 at s5 e5
    have s35 := s4.trans s5
    have T5 : TupsAt H5 (List.replicate m t) (List.replicate m (Rat.divInt 1 2)) := tups_rep (by rw [half_frt]; exact s5 _ _ et) m
    have lm : (List.replicate m (Rat.divInt 1 2)).length = m := List.length_replicate
    have B5 := BS.same (s3.trans s35)
    ((try dsimp only [gName, tNext, gTup, gCons, gNil]); subst hs hs'; refine seqB fun _ _ hs hs' => ?_)
    refine ⟨fun σ H6 => ∃ wd : Str, σ = [some (.ref p1), some (.int n), some (.ref c), some (.bl bad), some (.int sp), some (.str wd), x6, x7, some (.ref y), some (.ref vl)] ∧ H6 = H5 ∧ (bad = true → wd = "row") ∧ (bad = false → Word5 n rs (List.replicate m (Rat.divInt 1 2)) wd), ?_, ?_⟩
    · refine ⟨_, rfl, ?_⟩
      cases bad with
      | true => exact iteF' rfl (iteF' rfl ⟨_, rfl, iteF' rfl (iteF' rfl ⟨_, rfl, rfl, fun _ => due1 rfl, (fun z => nomatch z)⟩)⟩)
      | false =>
        refine iteT' rfl ?_
        have lall := BS.ok rfl
        obtain ⟨d, bd, rest, I, hA'⟩ := hA rfl
        rcases hA' with ⟨l', hl', hz, f1, cs1, hy1, _⟩ | ⟨hz, l', wl, cs2, ws, hy, hl', hT2, hwl, hW⟩
        · have yq : SqT K H5 y [.str "never", .ref f1] := SqT.of (s35 _ _ hy1)
          refine ⟨_, _, yq, rfl, _, rfl, iteT' (by simp) ⟨_, rfl, rfl, (fun z => nomatch z), fun _ d' bd' rest' I' => ⟨fun _ => rfl, fun hz' => ?_⟩⟩⟩
          exact absurd ((same_fin I' I lall).1 hz' l' hl') hz
        · have yq : SqT K H5 y [.str "solved", .ref l', .ref wl] := SqT.of (s35 _ _ hy)
          have hwl5 := s35 _ _ hwl
          have lw : ws.length = (frees n bd).length := Paired.length hW
          refine ⟨_, _, yq, rfl, _, rfl, iteF' (decide_eq_false ne_sn) ⟨_, rfl, iteT' rfl ?_⟩⟩
          refine ⟨_, _, yq, rfl, _, .inl (SqL.of hwl5), _, .inl (SqL.of e5), _, rfl, ?_⟩
          have W : ∀ (d' : Int) (bd' : List (Nat × List Int)) (rest' : List (List Int)), Fin n rs d' bd' rest' → ¬ (∃ l ∈ rest', g l n ≠ 0) ∧ frees n bd' = frees n bd := fun d' bd' rest' I' => by
            obtain ⟨z1, u1⟩ := same_fin I I' lall
            have hz' := z1 hz
            exact ⟨fun ⟨x, hx, hne⟩ => hne (hz' x hx), (u1 hz hz').2.1.symm⟩
          by_cases hlen2 : m = (frees n bd).length
          · refine iteF' (by simp [lw, hlen2]) ⟨_, rfl, rfl, (fun z => nomatch z), fun _ d' bd' rest' I' => ?_⟩
            obtain ⟨w1, w2⟩ := W d' bd' rest' I'
            exact ⟨fun h => absurd h w1, fun _ => ⟨fun h => absurd (by rw [lm, w2]; exact hlen2) h, fun _ => due2 rfl⟩⟩
          · refine iteT' (by simp [lw]; (first | lia | omega)) ⟨_, rfl, rfl, (fun z => nomatch z), fun _ d' bd' rest' I' => ?_⟩
            obtain ⟨w1, w2⟩ := W d' bd' rest' I'
            exact ⟨fun h => absurd h w1, fun _ => ⟨fun _ => rfl, fun h => absurd (by rw [lm, w2] at h; exact h) hlen2⟩⟩
    rintro σ H6 ⟨wd, rfl, rfl, wb, wg⟩
    ((try dsimp only [gName, tNext, gTup, gCons, gNil]); subst hs hs')
    have bk := BS.badK (k := 5) (by decide)
    refine ⟨5, n, c, vl, ps, List.replicate m t, rs, List.replicate m (Rat.divInt 1 2), wd, rfl, ⟨B5.ec, B5.hR, SqL.of e5, T5.frs, hn3, hl1, hl3, BS.bd, lenR, by rw [lm]; exact hm4, fun q hq => by rw [(List.mem_replicate.mp hq).2]; exact half_sz⟩, (by decide), fun hb => ?_, (fun _ h => absurd h (by decide)), fun hb _ => ?_, fun H' s' => ?_⟩
    · cases bad with
      | false => exact absurd hb (bk.2 rfl)
      | true => exact wb rfl
    · cases bad with
      | false => exact wg rfl
      | true => exact absurd (bk.1 rfl) hb
    · have := k H'
      rw [← decide_eq_true (rfl : V.str wd = V.str wd)] at this
      exact this
end
theorem all_mk {l : PySem.W.OpenLaw} {w : World} {K : PySem.W.Frag} {h : Heap} {mg : Str → Option Value} {fa f1 f2 f3 f4 f5 f6 f7 f8 f9 f10 f11 f12 f13 f14 f15 f16 f17 f18 f19 f20 f21 f22 f23 f24 f25 f26 f27 f28 f29 f30 f31 f32 f33 f34 f35 f36 f37 f38 f39 f40 f41 f42 f43 f44 f45 : Addr} (X : K.In h) (G : h.Ns mainGlobals mg) (hfa : mg "law" = some (.ref fa))
    {od1 an1 od2 an2 od3 an3 od4 an4 od5 an5 od6 an6 od7 an7 od8 an8 od9 an9 od10 an10 od11 an11 od12 an12 od13 an13 od14 an14 od15 an15 od16 an16 od17 an17 od18 an18 od19 an19 od20 an20 od21 an21 od22 an22 od23 an23 od24 an24 od25 an25 od26 an26 od27 an27 od28 an28 od29 an29 od30 an30 od31 an31 od32 an32 od33 an33 od34 an34 od35 an35 od36 an36 od37 an37 od38 an38 od39 an39 od40 an40 od41 an41 od42 an42 od43 an43 od44 an44 od45 an45 : Option Addr} {sl1 sl2 sl3 sl4 sl5 sl6 sl7 sl8 sl9 sl10 sl11 sl12 sl13 sl14 sl15 sl16 sl17 sl18 sl19 sl20 sl21 sl22 sl23 sl24 sl25 sl26 sl27 sl28 sl29 sl30 sl31 sl32 sl33 sl34 sl35 sl36 sl37 sl38 sl39 sl40 sl41 sl42 sl43 sl44 sl45 : Array (Option Value)} {oc1 kV1 dc1 pm1 cd1 ct1 oc2 kV2 dc2 pm2 cd2 ct2 oc3 kV3 dc3 pm3 cd3 ct3 oc4 kV4 dc4 pm4 cd4 ct4 oc5 kV5 dc5 pm5 cd5 ct5 oc6 kV6 dc6 pm6 cd6 ct6 oc7 kV7 dc7 pm7 cd7 ct7 oc8 kV8 dc8 pm8 cd8 ct8 oc9 kV9 dc9 pm9 cd9 ct9 oc10 kV10 dc10 pm10 cd10 ct10 oc11 kV11 dc11 pm11 cd11 ct11 oc12 kV12 dc12 pm12 cd12 ct12 oc13 kV13 dc13 pm13 cd13 ct13 oc14 kV14 dc14 pm14 cd14 ct14 oc15 kV15 dc15 pm15 cd15 ct15 oc16 kV16 dc16 pm16 cd16 ct16 oc17 kV17 dc17 pm17 cd17 ct17 oc18 kV18 dc18 pm18 cd18 ct18 oc19 kV19 dc19 pm19 cd19 ct19 oc20 kV20 dc20 pm20 cd20 ct20 oc21 kV21 dc21 pm21 cd21 ct21 oc22 kV22 dc22 pm22 cd22 ct22 oc23 kV23 dc23 pm23 cd23 ct23 oc24 kV24 dc24 pm24 cd24 ct24 oc25 kV25 dc25 pm25 cd25 ct25 oc26 kV26 dc26 pm26 cd26 ct26 oc27 kV27 dc27 pm27 cd27 ct27 oc28 kV28 dc28 pm28 cd28 ct28 oc29 kV29 dc29 pm29 cd29 ct29 oc30 kV30 dc30 pm30 cd30 ct30 oc31 kV31 dc31 pm31 cd31 ct31 oc32 kV32 dc32 pm32 cd32 ct32 oc33 kV33 dc33 pm33 cd33 ct33 oc34 kV34 dc34 pm34 cd34 ct34 oc35 kV35 dc35 pm35 cd35 ct35 oc36 kV36 dc36 pm36 cd36 ct36 oc37 kV37 dc37 pm37 cd37 ct37 oc38 kV38 dc38 pm38 cd38 ct38 oc39 kV39 dc39 pm39 cd39 ct39 oc40 kV40 dc40 pm40 cd40 ct40 oc41 kV41 dc41 pm41 cd41 ct41 oc42 kV42 dc42 pm42 cd42 ct42 oc43 kV43 dc43 pm43 cd43 ct43 oc44 kV44 dc44 pm44 cd44 ct44 oc45 kV45 dc45 pm45 cd45 ct45 : Value}
    (a1 : PySem.W.nsIn K mainGlobals "greatest_divisor" = some (some (.ref f1))) (l1 : K.lookup f1 = some ⟨oc1, od1, .func (PySem.W.fnOf "greatest_divisor" "greatest_divisor" (defArgs sGd) (defBody sGd) (defScope sGd) .none kV1 dc1 pm1 an1 cd1 ct1), sl1⟩) (c1 : PySem.W.codeIn K cd1 "greatest_divisor" = true) (k1 : PySem.W.keepIn K (.ref f1) = true)
    (a2 : PySem.W.nsIn K mainGlobals "fraction" = some (some (.ref f2))) (l2 : K.lookup f2 = some ⟨oc2, od2, .func (PySem.W.fnOf "fraction" "fraction" (defArgs sFrac) (defBody sFrac) (defScope sFrac) .none kV2 dc2 pm2 an2 cd2 ct2), sl2⟩) (c2 : PySem.W.codeIn K cd2 "fraction" = true) (k2 : PySem.W.keepIn K (.ref f2) = true)
    (a3 : PySem.W.nsIn K mainGlobals "plus" = some (some (.ref f3))) (l3 : K.lookup f3 = some ⟨oc3, od3, .func (PySem.W.fnOf "plus" "plus" (defArgs sPlus) (defBody sPlus) (defScope sPlus) .none kV3 dc3 pm3 an3 cd3 ct3), sl3⟩) (c3 : PySem.W.codeIn K cd3 "plus" = true) (k3 : PySem.W.keepIn K (.ref f3) = true)
    (a4 : PySem.W.nsIn K mainGlobals "times" = some (some (.ref f4))) (l4 : K.lookup f4 = some ⟨oc4, od4, .func (PySem.W.fnOf "times" "times" (defArgs sTimes) (defBody sTimes) (defScope sTimes) .none kV4 dc4 pm4 an4 cd4 ct4), sl4⟩) (c4 : PySem.W.codeIn K cd4 "times" = true) (k4 : PySem.W.keepIn K (.ref f4) = true)
    (a5 : PySem.W.nsIn K mainGlobals "check_rows" = some (some (.ref f5))) (l5 : K.lookup f5 = some ⟨oc5, od5, .func (PySem.W.fnOf "check_rows" "check_rows" (defArgs sCheck) (defBody sCheck) (defScope sCheck) .none kV5 dc5 pm5 an5 cd5 ct5), sl5⟩) (c5 : PySem.W.codeIn K cd5 "check_rows" = true) (k5 : PySem.W.keepIn K (.ref f5) = true)
    (a6 : PySem.W.nsIn K mainGlobals "sum_of_products" = some (some (.ref f6))) (l6 : K.lookup f6 = some ⟨oc6, od6, .func (PySem.W.fnOf "sum_of_products" "sum_of_products" (defArgs sSop) (defBody sSop) (defScope sSop) .none kV6 dc6 pm6 an6 cd6 ct6), sl6⟩) (c6 : PySem.W.codeIn K cd6 "sum_of_products" = true) (k6 : PySem.W.keepIn K (.ref f6) = true)
    (a7 : PySem.W.nsIn K mainGlobals "weighed" = some (some (.ref f7))) (l7 : K.lookup f7 = some ⟨oc7, od7, .func (PySem.W.fnOf "weighed" "weighed" (defArgs sWeighed) (defBody sWeighed) (defScope sWeighed) .none kV7 dc7 pm7 an7 cd7 ct7), sl7⟩) (c7 : PySem.W.codeIn K cd7 "weighed" = true) (k7 : PySem.W.keepIn K (.ref f7) = true)
    (a8 : PySem.W.nsIn K mainGlobals "fits" = some (some (.ref f8))) (l8 : K.lookup f8 = some ⟨oc8, od8, .func (PySem.W.fnOf "fits" "fits" (defArgs sFits) (defBody sFits) (defScope sFits) .none kV8 dc8 pm8 an8 cd8 ct8), sl8⟩) (c8 : PySem.W.codeIn K cd8 "fits" = true) (k8 : PySem.W.keepIn K (.ref f8) = true)
    (a9 : PySem.W.nsIn K mainGlobals "one_among_noughts" = some (some (.ref f9))) (l9 : K.lookup f9 = some ⟨oc9, od9, .func (PySem.W.fnOf "one_among_noughts" "one_among_noughts" (defArgs sOne) (defBody sOne) (defScope sOne) .none kV9 dc9 pm9 an9 cd9 ct9), sl9⟩) (c9 : PySem.W.codeIn K cd9 "one_among_noughts" = true) (k9 : PySem.W.keepIn K (.ref f9) = true)
    (a10 : PySem.W.nsIn K mainGlobals "lines_of" = some (some (.ref f10))) (l10 : K.lookup f10 = some ⟨oc10, od10, .func (PySem.W.fnOf "lines_of" "lines_of" (defArgs sLines) (defBody sLines) (defScope sLines) .none kV10 dc10 pm10 an10 cd10 ct10), sl10⟩) (c10 : PySem.W.codeIn K cd10 "lines_of" = true) (k10 : PySem.W.keepIn K (.ref f10) = true)
    (a11 : PySem.W.nsIn K mainGlobals "first_place_with" = some (some (.ref f11))) (l11 : K.lookup f11 = some ⟨oc11, od11, .func (PySem.W.fnOf "first_place_with" "first_place_with" (defArgs sFirst) (defBody sFirst) (defScope sFirst) .none kV11 dc11 pm11 an11 cd11 ct11), sl11⟩) (c11 : PySem.W.codeIn K cd11 "first_place_with" = true) (k11 : PySem.W.keepIn K (.ref f11) = true)
    (a12 : PySem.W.nsIn K mainGlobals "cleared" = some (some (.ref f12))) (l12 : K.lookup f12 = some ⟨oc12, od12, .func (PySem.W.fnOf "cleared" "cleared" (defArgs sClr) (defBody sClr) (defScope sClr) .none kV12 dc12 pm12 an12 cd12 ct12), sl12⟩) (c12 : PySem.W.codeIn K cd12 "cleared" = true) (k12 : PySem.W.keepIn K (.ref f12) = true)
    (a13 : PySem.W.nsIn K mainGlobals "reduced" = some (some (.ref f13))) (l13 : K.lookup f13 = some ⟨oc13, od13, .func (PySem.W.fnOf "reduced" "reduced" (defArgs sRed) (defBody sRed) (defScope sRed) .none kV13 dc13 pm13 an13 cd13 ct13), sl13⟩) (c13 : PySem.W.codeIn K cd13 "reduced" = true) (k13 : PySem.W.keepIn K (.ref f13) = true)
    (a14 : PySem.W.nsIn K mainGlobals "point_of" = some (some (.ref f14))) (l14 : K.lookup f14 = some ⟨oc14, od14, .func (PySem.W.fnOf "point_of" "point_of" (defArgs sPoint) (defBody sPoint) (defScope sPoint) .none kV14 dc14 pm14 an14 cd14 ct14), sl14⟩) (c14 : PySem.W.codeIn K cd14 "point_of" = true) (k14 : PySem.W.keepIn K (.ref f14) = true)
    (a15 : PySem.W.nsIn K mainGlobals "way_of" = some (some (.ref f15))) (l15 : K.lookup f15 = some ⟨oc15, od15, .func (PySem.W.fnOf "way_of" "way_of" (defArgs sWay) (defBody sWay) (defScope sWay) .none kV15 dc15 pm15 an15 cd15 ct15), sl15⟩) (c15 : PySem.W.codeIn K cd15 "way_of" = true) (k15 : PySem.W.keepIn K (.ref f15) = true)
    (a16 : PySem.W.nsIn K mainGlobals "ways_of" = some (some (.ref f16))) (l16 : K.lookup f16 = some ⟨oc16, od16, .func (PySem.W.fnOf "ways_of" "ways_of" (defArgs sWays) (defBody sWays) (defScope sWays) .none kV16 dc16 pm16 an16 cd16 ct16), sl16⟩) (c16 : PySem.W.codeIn K cd16 "ways_of" = true) (k16 : PySem.W.keepIn K (.ref f16) = true)
    (a17 : PySem.W.nsIn K mainGlobals "answer_of" = some (some (.ref f17))) (l17 : K.lookup f17 = some ⟨oc17, od17, .func (PySem.W.fnOf "answer_of" "answer_of" (defArgs sAns) (defBody sAns) (defScope sAns) .none kV17 dc17 pm17 an17 cd17 ct17), sl17⟩) (c17 : PySem.W.codeIn K cd17 "answer_of" = true) (k17 : PySem.W.keepIn K (.ref f17) = true)
    (a18 : PySem.W.nsIn K mainGlobals "solved" = some (some (.ref f18))) (l18 : K.lookup f18 = some ⟨oc18, od18, .func (PySem.W.fnOf "solved" "solved" (defArgs sSolved) (defBody sSolved) (defScope sSolved) .none kV18 dc18 pm18 an18 cd18 ct18), sl18⟩) (c18 : PySem.W.codeIn K cd18 "solved" = true) (k18 : PySem.W.keepIn K (.ref f18) = true)
    (a19 : PySem.W.nsIn K mainGlobals "moved" = some (some (.ref f19))) (l19 : K.lookup f19 = some ⟨oc19, od19, .func (PySem.W.fnOf "moved" "moved" (defArgs sMoved) (defBody sMoved) (defScope sMoved) .none kV19 dc19 pm19 an19 cd19 ct19), sl19⟩) (c19 : PySem.W.codeIn K cd19 "moved" = true) (k19 : PySem.W.keepIn K (.ref f19) = true)
    (a20 : PySem.W.nsIn K mainGlobals "solution_with" = some (some (.ref f20))) (l20 : K.lookup f20 = some ⟨oc20, od20, .func (PySem.W.fnOf "solution_with" "solution_with" (defArgs sSolW) (defBody sSolW) (defScope sSolW) .none kV20 dc20 pm20 an20 cd20 ct20), sl20⟩) (c20 : PySem.W.codeIn K cd20 "solution_with" = true) (k20 : PySem.W.keepIn K (.ref f20) = true)
    (a21 : PySem.W.nsIn K mainGlobals "same_solutions" = some (some (.ref f21))) (l21 : K.lookup f21 = some ⟨oc21, od21, .func (PySem.W.fnOf "same_solutions" "same_solutions" (defArgs sSameS) (defBody sSameS) (defScope sSameS) .none kV21 dc21 pm21 an21 cd21 ct21), sl21⟩) (c21 : PySem.W.codeIn K cd21 "same_solutions" = true) (k21 : PySem.W.keepIn K (.ref f21) = true)
    (a22 : PySem.W.nsIn K mainGlobals "telling_points" = some (some (.ref f22))) (l22 : K.lookup f22 = some ⟨oc22, od22, .func (PySem.W.fnOf "telling_points" "telling_points" (defArgs sTell) (defBody sTell) (defScope sTell) .none kV22 dc22 pm22 an22 cd22 ct22), sl22⟩) (c22 : PySem.W.codeIn K cd22 "telling_points" = true) (k22 : PySem.W.keepIn K (.ref f22) = true)
    (a23 : PySem.W.nsIn K mainGlobals "factors_to" = some (some (.ref f23))) (l23 : K.lookup f23 = some ⟨oc23, od23, .func (PySem.W.fnOf "factors_to" "factors_to" (defArgs sFacs) (defBody sFacs) (defScope sFacs) .none kV23 dc23 pm23 an23 cd23 ct23), sl23⟩) (c23 : PySem.W.codeIn K cd23 "factors_to" = true) (k23 : PySem.W.keepIn K (.ref f23) = true)
    (a24 : PySem.W.nsIn K mainGlobals "follows" = some (some (.ref f24))) (l24 : K.lookup f24 = some ⟨oc24, od24, .func (PySem.W.fnOf "follows" "follows" (defArgs sFollows) (defBody sFollows) (defScope sFollows) .none kV24 dc24 pm24 an24 cd24 ct24), sl24⟩) (c24 : PySem.W.codeIn K cd24 "follows" = true) (k24 : PySem.W.keepIn K (.ref f24) = true)
    (a25 : PySem.W.nsIn K mainGlobals "_law_at" = some (some (.ref f25))) (l25 : K.lookup f25 = some ⟨oc25, od25, .func (PySem.W.fnOf "_law_at" "_law_at" (defArgs sAt) (defBody sAt) (defScope sAt) .none kV25 dc25 pm25 an25 cd25 ct25), sl25⟩) (c25 : PySem.W.codeIn K cd25 "_law_at" = true) (k25 : PySem.W.keepIn K (.ref f25) = true)
    (a26 : PySem.W.nsIn K mainGlobals "_law_number" = some (some (.ref f26))) (l26 : K.lookup f26 = some ⟨oc26, od26, .func (PySem.W.fnOf "_law_number" "_law_number" (defArgs sNumber) (defBody sNumber) (defScope sNumber) .none kV26 dc26 pm26 an26 cd26 ct26), sl26⟩) (c26 : PySem.W.codeIn K cd26 "_law_number" = true) (k26 : PySem.W.keepIn K (.ref f26) = true)
    (a27 : PySem.W.nsIn K mainGlobals "_law_rows_by" = some (some (.ref f27))) (l27 : K.lookup f27 = some ⟨oc27, od27, .func (PySem.W.fnOf "_law_rows_by" "_law_rows_by" (defArgs sRowsBy) (defBody sRowsBy) (defScope sRowsBy) .none kV27 dc27 pm27 an27 cd27 ct27), sl27⟩) (c27 : PySem.W.codeIn K cd27 "_law_rows_by" = true) (k27 : PySem.W.keepIn K (.ref f27) = true)
    (a28 : PySem.W.nsIn K mainGlobals "_law_said" = some (some (.ref f28))) (l28 : K.lookup f28 = some ⟨oc28, od28, .func (PySem.W.fnOf "_law_said" "_law_said" (defArgs sSaid) (defBody sSaid) (defScope sSaid) .none kV28 dc28 pm28 an28 cd28 ct28), sl28⟩) (c28 : PySem.W.codeIn K cd28 "_law_said" = true) (k28 : PySem.W.keepIn K (.ref f28) = true)
    (a29 : PySem.W.nsIn K mainGlobals "_law_common" = some (some (.ref f29))) (l29 : K.lookup f29 = some ⟨oc29, od29, .func (PySem.W.fnOf "_law_common" "_law_common" (defArgs sCommon) (defBody sCommon) (defScope sCommon) .none kV29 dc29 pm29 an29 cd29 ct29), sl29⟩) (c29 : PySem.W.codeIn K cd29 "_law_common" = true) (k29 : PySem.W.keepIn K (.ref f29) = true)
    (a30 : PySem.W.nsIn K mainGlobals "_law_lowest" = some (some (.ref f30))) (l30 : K.lookup f30 = some ⟨oc30, od30, .func (PySem.W.fnOf "_law_lowest" "_law_lowest" (defArgs sLowest) (defBody sLowest) (defScope sLowest) .none kV30 dc30 pm30 an30 cd30 ct30), sl30⟩) (c30 : PySem.W.codeIn K cd30 "_law_lowest" = true) (k30 : PySem.W.keepIn K (.ref f30) = true)
    (a31 : PySem.W.nsIn K mainGlobals "_law_lows" = some (some (.ref f31))) (l31 : K.lookup f31 = some ⟨oc31, od31, .func (PySem.W.fnOf "_law_lows" "_law_lows" (defArgs sLows) (defBody sLows) (defScope sLows) .none kV31 dc31 pm31 an31 cd31 ct31), sl31⟩) (c31 : PySem.W.codeIn K cd31 "_law_lows" = true) (k31 : PySem.W.keepIn K (.ref f31) = true)
    (a32 : PySem.W.nsIn K mainGlobals "_law_add" = some (some (.ref f32))) (l32 : K.lookup f32 = some ⟨oc32, od32, .func (PySem.W.fnOf "_law_add" "_law_add" (defArgs sAdd) (defBody sAdd) (defScope sAdd) .none kV32 dc32 pm32 an32 cd32 ct32), sl32⟩) (c32 : PySem.W.codeIn K cd32 "_law_add" = true) (k32 : PySem.W.keepIn K (.ref f32) = true)
    (a33 : PySem.W.nsIn K mainGlobals "_law_mul" = some (some (.ref f33))) (l33 : K.lookup f33 = some ⟨oc33, od33, .func (PySem.W.fnOf "_law_mul" "_law_mul" (defArgs sMul) (defBody sMul) (defScope sMul) .none kV33 dc33 pm33 an33 cd33 ct33), sl33⟩) (c33 : PySem.W.codeIn K cd33 "_law_mul" = true) (k33 : PySem.W.keepIn K (.ref f33) = true)
    (a34 : PySem.W.nsIn K mainGlobals "_law_is" = some (some (.ref f34))) (l34 : K.lookup f34 = some ⟨oc34, od34, .func (PySem.W.fnOf "_law_is" "_law_is" (defArgs sIs) (defBody sIs) (defScope sIs) .none kV34 dc34 pm34 an34 cd34 ct34), sl34⟩) (c34 : PySem.W.codeIn K cd34 "_law_is" = true) (k34 : PySem.W.keepIn K (.ref f34) = true)
    (a35 : PySem.W.nsIn K mainGlobals "_law_weight" = some (some (.ref f35))) (l35 : K.lookup f35 = some ⟨oc35, od35, .func (PySem.W.fnOf "_law_weight" "_law_weight" (defArgs sWeight) (defBody sWeight) (defScope sWeight) .none kV35 dc35 pm35 an35 cd35 ct35), sl35⟩) (c35 : PySem.W.codeIn K cd35 "_law_weight" = true) (k35 : PySem.W.keepIn K (.ref f35) = true)
    (a36 : PySem.W.nsIn K mainGlobals "_law_solves" = some (some (.ref f36))) (l36 : K.lookup f36 = some ⟨oc36, od36, .func (PySem.W.fnOf "_law_solves" "_law_solves" (defArgs sSolves) (defBody sSolves) (defScope sSolves) .none kV36 dc36 pm36 an36 cd36 ct36), sl36⟩) (c36 : PySem.W.codeIn K cd36 "_law_solves" = true) (k36 : PySem.W.keepIn K (.ref f36) = true)
    (a37 : PySem.W.nsIn K mainGlobals "_law_never" = some (some (.ref f37))) (l37 : K.lookup f37 = some ⟨oc37, od37, .func (PySem.W.fnOf "_law_never" "_law_never" (defArgs sNever) (defBody sNever) (defScope sNever) .none kV37 dc37 pm37 an37 cd37 ct37), sl37⟩) (c37 : PySem.W.codeIn K cd37 "_law_never" = true) (k37 : PySem.W.keepIn K (.ref f37) = true)
    (a38 : PySem.W.nsIn K mainGlobals "_law_way_holds" = some (some (.ref f38))) (l38 : K.lookup f38 = some ⟨oc38, od38, .func (PySem.W.fnOf "_law_way_holds" "_law_way_holds" (defArgs sWayH) (defBody sWayH) (defScope sWayH) .none kV38 dc38 pm38 an38 cd38 ct38), sl38⟩) (c38 : PySem.W.codeIn K cd38 "_law_way_holds" = true) (k38 : PySem.W.keepIn K (.ref f38) = true)
    (a39 : PySem.W.nsIn K mainGlobals "_law_all" = some (some (.ref f39))) (l39 : K.lookup f39 = some ⟨oc39, od39, .func (PySem.W.fnOf "_law_all" "_law_all" (defArgs sAll) (defBody sAll) (defScope sAll) .none kV39 dc39 pm39 an39 cd39 ct39), sl39⟩) (c39 : PySem.W.codeIn K cd39 "_law_all" = true) (k39 : PySem.W.keepIn K (.ref f39) = true)
    (a40 : PySem.W.nsIn K mainGlobals "_law_answer_holds" = some (some (.ref f40))) (l40 : K.lookup f40 = some ⟨oc40, od40, .func (PySem.W.fnOf "_law_answer_holds" "_law_answer_holds" (defArgs sAnsH) (defBody sAnsH) (defScope sAnsH) .none kV40 dc40 pm40 an40 cd40 ct40), sl40⟩) (c40 : PySem.W.codeIn K cd40 "_law_answer_holds" = true) (k40 : PySem.W.keepIn K (.ref f40) = true)
    (a41 : PySem.W.nsIn K mainGlobals "_law_whole" = some (some (.ref f41))) (l41 : K.lookup f41 = some ⟨oc41, od41, .func (PySem.W.fnOf "_law_whole" "_law_whole" (defArgs sWhole) (defBody sWhole) (defScope sWhole) .none kV41 dc41 pm41 an41 cd41 ct41), sl41⟩) (c41 : PySem.W.codeIn K cd41 "_law_whole" = true) (k41 : PySem.W.keepIn K (.ref f41) = true)
    (a42 : PySem.W.nsIn K mainGlobals "_law_mixed" = some (some (.ref f42))) (l42 : K.lookup f42 = some ⟨oc42, od42, .func (PySem.W.fnOf "_law_mixed" "_law_mixed" (defArgs sMixed) (defBody sMixed) (defScope sMixed) .none kV42 dc42 pm42 an42 cd42 ct42), sl42⟩) (c42 : PySem.W.codeIn K cd42 "_law_mixed" = true) (k42 : PySem.W.keepIn K (.ref f42) = true)
    (a43 : PySem.W.nsIn K mainGlobals "_law_refuses" = some (some (.ref f43))) (l43 : K.lookup f43 = some ⟨oc43, od43, .func (PySem.W.fnOf "_law_refuses" "_law_refuses" (defArgs sRefuses) (defBody sRefuses) (defScope sRefuses) .none kV43 dc43 pm43 an43 cd43 ct43), sl43⟩) (c43 : PySem.W.codeIn K cd43 "_law_refuses" = true) (k43 : PySem.W.keepIn K (.ref f43) = true)
    (a44 : PySem.W.nsIn K mainGlobals "_law_as_due" = some (some (.ref f44))) (l44 : K.lookup f44 = some ⟨oc44, od44, .func (PySem.W.fnOf "_law_as_due" "_law_as_due" (defArgs sDue) (defBody sDue) (defScope sDue) .none kV44 dc44 pm44 an44 cd44 ct44), sl44⟩) (c44 : PySem.W.codeIn K cd44 "_law_as_due" = true) (k44 : PySem.W.keepIn K (.ref f44) = true)
    (a45 : PySem.W.nsIn K mainGlobals "law" = some (some (.ref f45))) (l45 : K.lookup f45 = some ⟨oc45, od45, .func (PySem.W.fnOf "law" "law" (defArgs sLaw) (defBody sLaw) (defScope sLaw) .none kV45 dc45 pm45 an45 cd45 ct45), sl45⟩) (c45 : PySem.W.codeIn K cd45 "law" = true) (k45 : PySem.W.keepIn K (.ref f45) = true)
    {C1 : Addr} (q1 : PySem.W.nsIn K mainGlobals "BadRow" = some (some (.ref C1))) (x1 : PySem.W.excIn K C1 veMro "ValueError.__new__" = true) (t1 : PySem.W.ktsIn K C1 "BaseException" = true)
    {C2 : Addr} (q2 : PySem.W.nsIn K mainGlobals "NoSolution" = some (some (.ref C2))) (x2 : PySem.W.excIn K C2 veMro "ValueError.__new__" = true) (t2 : PySem.W.ktsIn K C2 "BaseException" = true)
    {C3 : Addr} (q3 : PySem.W.nsIn K mainGlobals "BadValues" = some (some (.ref C3))) (x3 : PySem.W.excIn K C3 veMro "ValueError.__new__" = true) (t3 : PySem.W.ktsIn K C3 "BaseException" = true)
    {CR fR : Addr} {odR anR : Option Addr} {slR : Array (Option Value)} {ocR kVR dcR pmR cdR ctR : Value} (rC : PySem.W.nsIn K mainGlobals "Reduction" = some (some (.ref CR))) (rI : PySem.W.findIn K (.ref CR) "__init__" = some (some (.ref fR))) (rF : PySem.W.isFn K (.ref fR) = true) (rL : K.lookup fR = some ⟨ocR, odR, .func (PySem.W.fnOf "__init__" "Reduction.__init__" (defArgs sRInit) (defBody sRInit) (defScope sRInit) .none kVR dcR pmR anR cdR ctR), slR⟩) (rO : PySem.W.codeIn K cdR "Reduction.__init__" = true) (rK : PySem.W.keepIn K (.ref fR) = true)
    (rA : PySem.W.plainGet K CR Str.empty = true) (rB : PySem.W.hasDictIn K CR = true) (rD : PySem.W.plainOver K CR = true) (rE : PySem.W.findIn K (.ref CR) "__setattr__" = some (some (.builtin "object.__setattr__"))) (rM : PySem.W.makesIn K CR = true) (rN : PySem.W.keepIn K (.ref CR) = true)
    (rX : PySem.W.findIn K (.ref CR) "divisor" = some none) (rY : PySem.W.findIn K (.ref CR) "bound" = some none) (rZ : PySem.W.findIn K (.ref CR) "rest" = some none) (hP : l.prog.given.tree = none)
    {RS : Addr} (rs : PySem.W.nsIn K mainGlobals "ScaleError" = some (some (.ref RS))) (re : PySem.W.exmOne K (.ref C1) (.ref RS) = some true)
    {R1 : Addr} (rn1 : PySem.W.nsIn K mainGlobals "NoBottom" = some (some (.ref R1))) (rk1 : PySem.W.kitOne K (.ref C1) (.ref R1) = some false)
    {R2 : Addr} (rn2 : PySem.W.nsIn K mainGlobals "BadRow" = some (some (.ref R2))) (rk2 : PySem.W.kitOne K (.ref C1) (.ref R2) = some true)
    {R3 : Addr} (rn3 : PySem.W.nsIn K mainGlobals "BadValues" = some (some (.ref R3))) (rk3 : PySem.W.kitOne K (.ref C1) (.ref R3) = some false)
    {R4 : Addr} (rn4 : PySem.W.nsIn K mainGlobals "NoSolution" = some (some (.ref R4))) (rk4 : PySem.W.kitOne K (.ref C1) (.ref R4) = some false)
    (rv : PySem.W.nsIn K mainGlobals "ValueError" = some none) (ry : PySem.W.kitOne K (.ref C1) (.type "ValueError") = some true)
    (rg1 : PySem.W.findIn K (.ref C1) "__getattribute__" = some (some (.builtin "BaseException.__getattribute__"))) (rg2 : PySem.W.findIn K (.ref C1) "__getattr__" = some none) (rg3 : PySem.W.findIn K (.ref C1) "__class__" = some (some (.builtin "object.__class__"))) (rg4 : PySem.W.mroIn K C1 (.type "BaseException") = some true) (rg5 : PySem.W.mroIn K C1 (.type "object") = some true) (rg6 : PySem.W.isClsIn K C1 = true)
    (re11 : PySem.W.exmOne K (.ref C1) (.ref C1) = some true)
    (re21 : PySem.W.exmOne K (.ref C2) (.ref C1) = some false)
    (re22 : PySem.W.exmOne K (.ref C2) (.ref C2) = some true)
    (re31 : PySem.W.exmOne K (.ref C3) (.ref C1) = some false)
    (re32 : PySem.W.exmOne K (.ref C3) (.ref C2) = some false)
    (re33 : PySem.W.exmOne K (.ref C3) (.ref C3) = some true)
    (z1 : PySem.W.nsIn K mainGlobals "abs" = some none)    (z2 : PySem.W.nsIn K mainGlobals "len" = some none)    (z3 : PySem.W.nsIn K mainGlobals "range" = some none)    (z4 : PySem.W.nsIn K mainGlobals "isinstance" = some none)    (z5 : PySem.W.nsIn K mainGlobals "int" = some none)    (z6 : PySem.W.nsIn K mainGlobals "bool" = some none)    (z7 : PySem.W.nsIn K mainGlobals "tuple" = some none)    (z8 : PySem.W.nsIn K mainGlobals "list" = some none)    (z9 : PySem.W.nsIn K mainGlobals "str" = some none)    (z10 : PySem.W.nsIn K mainGlobals "zip" = some none)    (z11 : PySem.W.nsIn K mainGlobals "enumerate" = some none)    (z12 : PySem.W.nsIn K mainGlobals "sum" = some none) :
    ∃ fd : FuncData, (∀ (s : Shared) (v : Value), BindsTo s fd ⟨[v], []⟩ [("_law_script", v)]) ∧ ∀ base : Heap, K.In base → base.Ns mainGlobals mg → FnOk l.prog w K mg base CX0 11 fa fd ["_law_script"] (spLaw K) := by
  have e := hfa.symm.trans (PySem.W.mg_of X G a45)
  cases e
  have B : Blt mg := ⟨PySem.W.mg_none_of X G z1, PySem.W.mg_none_of X G z2, PySem.W.mg_none_of X G z3, PySem.W.mg_none_of X G z4, PySem.W.mg_none_of X G z5, PySem.W.mg_none_of X G z6, PySem.W.mg_none_of X G z7, PySem.W.mg_none_of X G z8, PySem.W.mg_none_of X G z9, PySem.W.mg_none_of X G z10⟩
  have EC1 : ExcC K mg "BadRow" C1 := ⟨PySem.W.mg_of X G q1, x1, t1⟩
  have EC2 : ExcC K mg "NoSolution" C2 := ⟨PySem.W.mg_of X G q2, x2, t2⟩
  have EC3 : ExcC K mg "BadValues" C3 := ⟨PySem.W.mg_of X G q3, x3, t3⟩
  have TR : TxtR K mg CR := ⟨⟨rA, rB, rD, rE⟩, rX, rY, rZ, PySem.W.mg_of X G rC⟩
  have FR := fun_mk (st := sRInit) rL rO rK
  have bR := FR.binds (ps := ["self", "divisor", "bound", "rest"]) fun _ _ _ _ _ _ => len4 fun _ _ _ _ => rfl
  have RC : RefC K mg C1 RS false true false false := ⟨⟨rg1, rg2, rg3, rg4, rg5, rg6⟩, re, PySem.W.mg_of X G rs, ⟨_, PySem.W.mg_of X G rn1, rk1⟩, ⟨_, PySem.W.mg_of X G rn2, rk2⟩, ⟨_, PySem.W.mg_of X G rn3, rk3⟩, ⟨_, PySem.W.mg_of X G rn4, rk4⟩, PySem.W.mg_none_of X G rv, ry⟩
  have F1 := fun_mk (st := sGd) l1 c1 k1
  have D1 : Def K mg "greatest_divisor" sGd ["one", "two"] _ _ := ⟨F1, PySem.W.mg_of X G a1, F1.binds (ps := ["one", "two"]) fun _ _ _ _ _ _ => len2 fun _ _ => rfl⟩
  have F2 := fun_mk (st := sFrac) l2 c2 k2
  have D2 : Def K mg "fraction" sFrac ["top", "bottom"] _ _ := ⟨F2, PySem.W.mg_of X G a2, F2.binds (ps := ["top", "bottom"]) fun _ _ _ _ _ _ => len2 fun _ _ => rfl⟩
  have F3 := fun_mk (st := sPlus) l3 c3 k3
  have D3 : Def K mg "plus" sPlus ["one", "two"] _ _ := ⟨F3, PySem.W.mg_of X G a3, F3.binds (ps := ["one", "two"]) fun _ _ _ _ _ _ => len2 fun _ _ => rfl⟩
  have F4 := fun_mk (st := sTimes) l4 c4 k4
  have D4 : Def K mg "times" sTimes ["one", "two"] _ _ := ⟨F4, PySem.W.mg_of X G a4, F4.binds (ps := ["one", "two"]) fun _ _ _ _ _ _ => len2 fun _ _ => rfl⟩
  have F5 := fun_mk (st := sCheck) l5 c5 k5
  have D5 : Def K mg "check_rows" sCheck ["count", "rows"] _ _ := ⟨F5, PySem.W.mg_of X G a5, F5.binds (ps := ["count", "rows"]) fun _ _ _ _ _ _ => len2 fun _ _ => rfl⟩
  have F6 := fun_mk (st := sSop) l6 c6 k6
  have D6 : Def K mg "sum_of_products" sSop ["numbers", "parts"] _ _ := ⟨F6, PySem.W.mg_of X G a6, F6.binds (ps := ["numbers", "parts"]) fun _ _ _ _ _ _ => len2 fun _ _ => rfl⟩
  have F7 := fun_mk (st := sWeighed) l7 c7 k7
  have D7 : Def K mg "weighed" sWeighed ["row", "point"] _ _ := ⟨F7, PySem.W.mg_of X G a7, F7.binds (ps := ["row", "point"]) fun _ _ _ _ _ _ => len2 fun _ _ => rfl⟩
  have F8 := fun_mk (st := sFits) l8 c8 k8
  have D8 : Def K mg "fits" sFits ["row", "point"] _ _ := ⟨F8, PySem.W.mg_of X G a8, F8.binds (ps := ["row", "point"]) fun _ _ _ _ _ _ => len2 fun _ _ => rfl⟩
  have F9 := fun_mk (st := sOne) l9 c9 k9
  have D9 : Def K mg "one_among_noughts" sOne ["place", "length"] _ _ := ⟨F9, PySem.W.mg_of X G a9, F9.binds (ps := ["place", "length"]) fun _ _ _ _ _ _ => len2 fun _ _ => rfl⟩
  have F10 := fun_mk (st := sLines) l10 c10 k10
  have D10 : Def K mg "lines_of" sLines ["rows"] _ _ := ⟨F10, PySem.W.mg_of X G a10, F10.binds (ps := ["rows"]) fun _ _ _ _ _ _ => len1 fun _ => rfl⟩
  have F11 := fun_mk (st := sFirst) l11 c11 k11
  have D11 : Def K mg "first_place_with" sFirst ["lines", "unknown"] _ _ := ⟨F11, PySem.W.mg_of X G a11, F11.binds (ps := ["lines", "unknown"]) fun _ _ _ _ _ _ => len2 fun _ _ => rfl⟩
  have F12 := fun_mk (st := sClr) l12 c12 k12
  have D12 : Def K mg "cleared" sClr ["line", "pivot", "unknown", "divisor"] _ _ := ⟨F12, PySem.W.mg_of X G a12, F12.binds (ps := ["line", "pivot", "unknown", "divisor"]) fun _ _ _ _ _ _ => len4 fun _ _ _ _ => rfl⟩
  have F13 := fun_mk (st := sRed) l13 c13 k13
  have D13 : Def K mg "reduced" sRed ["count", "rows"] _ _ := ⟨F13, PySem.W.mg_of X G a13, F13.binds (ps := ["count", "rows"]) fun _ _ _ _ _ _ => len2 fun _ _ => rfl⟩
  have F14 := fun_mk (st := sPoint) l14 c14 k14
  have D14 : Def K mg "point_of" sPoint ["count", "reduction"] _ _ := ⟨F14, PySem.W.mg_of X G a14, F14.binds (ps := ["count", "reduction"]) fun _ _ _ _ _ _ => len2 fun _ _ => rfl⟩
  have F15 := fun_mk (st := sWay) l15 c15 k15
  have D15 : Def K mg "way_of" sWay ["count", "reduction", "free"] _ _ := ⟨F15, PySem.W.mg_of X G a15, F15.binds (ps := ["count", "reduction", "free"]) fun _ _ _ _ _ _ => len3 fun _ _ _ => rfl⟩
  have F16 := fun_mk (st := sWays) l16 c16 k16
  have D16 : Def K mg "ways_of" sWays ["count", "reduction"] _ _ := ⟨F16, PySem.W.mg_of X G a16, F16.binds (ps := ["count", "reduction"]) fun _ _ _ _ _ _ => len2 fun _ _ => rfl⟩
  have F17 := fun_mk (st := sAns) l17 c17 k17
  have D17 : Def K mg "answer_of" sAns ["count", "reduction"] _ _ := ⟨F17, PySem.W.mg_of X G a17, F17.binds (ps := ["count", "reduction"]) fun _ _ _ _ _ _ => len2 fun _ _ => rfl⟩
  have F18 := fun_mk (st := sSolved) l18 c18 k18
  have D18 : Def K mg "solved" sSolved ["count", "rows"] _ _ := ⟨F18, PySem.W.mg_of X G a18, F18.binds (ps := ["count", "rows"]) fun _ _ _ _ _ _ => len2 fun _ _ => rfl⟩
  have F19 := fun_mk (st := sMoved) l19 c19 k19
  have D19 : Def K mg "moved" sMoved ["point", "way", "value"] _ _ := ⟨F19, PySem.W.mg_of X G a19, F19.binds (ps := ["point", "way", "value"]) fun _ _ _ _ _ _ => len3 fun _ _ _ => rfl⟩
  have F20 := fun_mk (st := sSolW) l20 c20 k20
  have D20 : Def K mg "solution_with" sSolW ["count", "rows", "values"] _ _ := ⟨F20, PySem.W.mg_of X G a20, F20.binds (ps := ["count", "rows", "values"]) fun _ _ _ _ _ _ => len3 fun _ _ _ => rfl⟩
  have F21 := fun_mk (st := sSameS) l21 c21 k21
  have D21 : Def K mg "same_solutions" sSameS ["count", "rows", "others"] _ _ := ⟨F21, PySem.W.mg_of X G a21, F21.binds (ps := ["count", "rows", "others"]) fun _ _ _ _ _ _ => len3 fun _ _ _ => rfl⟩
  have F22 := fun_mk (st := sTell) l22 c22 k22
  have D22 : Def K mg "telling_points" sTell ["point", "ways"] _ _ := ⟨F22, PySem.W.mg_of X G a22, F22.binds (ps := ["point", "ways"]) fun _ _ _ _ _ _ => len2 fun _ _ => rfl⟩
  have F23 := fun_mk (st := sFacs) l23 c23 k23
  have D23 : Def K mg "factors_to" sFacs ["count", "reduction", "length", "row"] _ _ := ⟨F23, PySem.W.mg_of X G a23, F23.binds (ps := ["count", "reduction", "length", "row"]) fun _ _ _ _ _ _ => len4 fun _ _ _ _ => rfl⟩
  have F24 := fun_mk (st := sFollows) l24 c24 k24
  have D24 : Def K mg "follows" sFollows ["count", "rows", "row"] _ _ := ⟨F24, PySem.W.mg_of X G a24, F24.binds (ps := ["count", "rows", "row"]) fun _ _ _ _ _ _ => len3 fun _ _ _ => rfl⟩
  have F25 := fun_mk (st := sAt) l25 c25 k25
  have D25 : Def K mg "_law_at" sAt ["_law_script", "_law_k"] _ _ := ⟨F25, PySem.W.mg_of X G a25, F25.binds (ps := ["_law_script", "_law_k"]) fun _ _ _ _ _ _ => len2 fun _ _ => rfl⟩
  have F26 := fun_mk (st := sNumber) l26 c26 k26
  have D26 : Def K mg "_law_number" sNumber ["_law_cell"] _ _ := ⟨F26, PySem.W.mg_of X G a26, F26.binds (ps := ["_law_cell"]) fun _ _ _ _ _ _ => len1 fun _ => rfl⟩
  have F27 := fun_mk (st := sRowsBy) l27 c27 k27
  have D27 : Def K mg "_law_rows_by" sRowsBy ["_law_cells", "_law_count", "_law_most"] _ _ := ⟨F27, PySem.W.mg_of X G a27, F27.binds (ps := ["_law_cells", "_law_count", "_law_most"]) fun _ _ _ _ _ _ => len3 fun _ _ _ => rfl⟩
  have F28 := fun_mk (st := sSaid) l28 c28 k28
  have D28 : Def K mg "_law_said" sSaid ["_law_which", "_law_count", "_law_rows", "_law_values"] _ _ := ⟨F28, PySem.W.mg_of X G a28, F28.binds (ps := ["_law_which", "_law_count", "_law_rows", "_law_values"]) fun _ _ _ _ _ _ => len4 fun _ _ _ _ => rfl⟩
  have F29 := fun_mk (st := sCommon) l29 c29 k29
  have D29 : Def K mg "_law_common" sCommon ["_law_one", "_law_two"] _ _ := ⟨F29, PySem.W.mg_of X G a29, F29.binds (ps := ["_law_one", "_law_two"]) fun _ _ _ _ _ _ => len2 fun _ _ => rfl⟩
  have F30 := fun_mk (st := sLowest) l30 c30 k30
  have D30 : Def K mg "_law_lowest" sLowest ["_law_found"] _ _ := ⟨F30, PySem.W.mg_of X G a30, F30.binds (ps := ["_law_found"]) fun _ _ _ _ _ _ => len1 fun _ => rfl⟩
  have F31 := fun_mk (st := sLows) l31 c31 k31
  have D31 : Def K mg "_law_lows" sLows ["_law_found", "_law_count"] _ _ := ⟨F31, PySem.W.mg_of X G a31, F31.binds (ps := ["_law_found", "_law_count"]) fun _ _ _ _ _ _ => len2 fun _ _ => rfl⟩
  have F32 := fun_mk (st := sAdd) l32 c32 k32
  have D32 : Def K mg "_law_add" sAdd ["_law_one", "_law_two"] _ _ := ⟨F32, PySem.W.mg_of X G a32, F32.binds (ps := ["_law_one", "_law_two"]) fun _ _ _ _ _ _ => len2 fun _ _ => rfl⟩
  have F33 := fun_mk (st := sMul) l33 c33 k33
  have D33 : Def K mg "_law_mul" sMul ["_law_one", "_law_two"] _ _ := ⟨F33, PySem.W.mg_of X G a33, F33.binds (ps := ["_law_one", "_law_two"]) fun _ _ _ _ _ _ => len2 fun _ _ => rfl⟩
  have F34 := fun_mk (st := sIs) l34 c34 k34
  have D34 : Def K mg "_law_is" sIs ["_law_one", "_law_two"] _ _ := ⟨F34, PySem.W.mg_of X G a34, F34.binds (ps := ["_law_one", "_law_two"]) fun _ _ _ _ _ _ => len2 fun _ _ => rfl⟩
  have F35 := fun_mk (st := sWeight) l35 c35 k35
  have D35 : Def K mg "_law_weight" sWeight ["_law_row", "_law_point"] _ _ := ⟨F35, PySem.W.mg_of X G a35, F35.binds (ps := ["_law_row", "_law_point"]) fun _ _ _ _ _ _ => len2 fun _ _ => rfl⟩
  have F36 := fun_mk (st := sSolves) l36 c36 k36
  have D36 : Def K mg "_law_solves" sSolves ["_law_row", "_law_point"] _ _ := ⟨F36, PySem.W.mg_of X G a36, F36.binds (ps := ["_law_row", "_law_point"]) fun _ _ _ _ _ _ => len2 fun _ _ => rfl⟩
  have F37 := fun_mk (st := sNever) l37 c37 k37
  have D37 : Def K mg "_law_never" sNever ["_law_rows", "_law_factors", "_law_count"] _ _ := ⟨F37, PySem.W.mg_of X G a37, F37.binds (ps := ["_law_rows", "_law_factors", "_law_count"]) fun _ _ _ _ _ _ => len3 fun _ _ _ => rfl⟩
  have F38 := fun_mk (st := sWayH) l38 c38 k38
  have D38 : Def K mg "_law_way_holds" sWayH ["_law_found", "_law_rows", "_law_count", "_law_frees"] _ _ := ⟨F38, PySem.W.mg_of X G a38, F38.binds (ps := ["_law_found", "_law_rows", "_law_count", "_law_frees"]) fun _ _ _ _ _ _ => len4 fun _ _ _ _ => rfl⟩
  have F39 := fun_mk (st := sAll) l39 c39 k39
  have D39 : Def K mg "_law_all" sAll ["_law_found", "_law_rows", "_law_count"] _ _ := ⟨F39, PySem.W.mg_of X G a39, F39.binds (ps := ["_law_found", "_law_rows", "_law_count"]) fun _ _ _ _ _ _ => len3 fun _ _ _ => rfl⟩
  have F40 := fun_mk (st := sAnsH) l40 c40 k40
  have D40 : Def K mg "_law_answer_holds" sAnsH ["_law_found", "_law_rows", "_law_count"] _ _ := ⟨F40, PySem.W.mg_of X G a40, F40.binds (ps := ["_law_found", "_law_rows", "_law_count"]) fun _ _ _ _ _ _ => len3 fun _ _ _ => rfl⟩
  have F41 := fun_mk (st := sWhole) l41 c41 k41
  have D41 : Def K mg "_law_whole" sWhole ["_law_found"] _ _ := ⟨F41, PySem.W.mg_of X G a41, F41.binds (ps := ["_law_found"]) fun _ _ _ _ _ _ => len1 fun _ => rfl⟩
  have F42 := fun_mk (st := sMixed) l42 c42 k42
  have D42 : Def K mg "_law_mixed" sMixed ["_law_script"] _ _ := ⟨F42, PySem.W.mg_of X G a42, F42.binds (ps := ["_law_script"]) fun _ _ _ _ _ _ => len1 fun _ => rfl⟩
  have F43 := fun_mk (st := sRefuses) l43 c43 k43
  have D43 : Def K mg "_law_refuses" sRefuses ["_law_which", "_law_count", "_law_rows", "_law_values"] _ _ := ⟨F43, PySem.W.mg_of X G a43, F43.binds (ps := ["_law_which", "_law_count", "_law_rows", "_law_values"]) fun _ _ _ _ _ _ => len4 fun _ _ _ _ => rfl⟩
  have F44 := fun_mk (st := sDue) l44 c44 k44
  have D44 : Def K mg "_law_as_due" sDue ["_law_due", "_law_which", "_law_count", "_law_rows", "_law_values"] _ _ := ⟨F44, PySem.W.mg_of X G a44, F44.binds (ps := ["_law_due", "_law_which", "_law_count", "_law_rows", "_law_values"]) fun _ _ _ _ _ _ => len5 fun _ _ _ _ _ => rfl⟩
  have F45 := fun_mk (st := sLaw) l45 c45 k45
  have D45 : Def K mg "law" sLaw ["_law_script"] _ _ := ⟨F45, PySem.W.mg_of X G a45, F45.binds (ps := ["_law_script"]) fun _ _ _ _ _ _ => len1 fun _ => rfl⟩
  exact ⟨PySem.W.fnOf "law" "law" (defArgs sLaw) (defBody sLaw) (defScope sLaw) .none kV45 dc45 pm45 an45 cd45 ct45, fun s v => .of_eq rfl, fun base _ _ => ok_law D45 B (PySem.W.mg_none_of X G z11) (PySem.W.mg_none_of X G z12) EC1 EC2 EC3 RC ⟨re11, re21, re22, re31, re32, re33⟩ TR ⟨rM, rI, rF, rN⟩ FR bR hP D1 D2 D5 D9 D10 D11 D12 D13 D14 D15 D16 D17 D18 D41 D25 D29 D30 D31 D32 D33 D34 D35 D36 D26 D27 D37 D38 D39 D40 D42 D3 D4 D6 D7 D8 D19 D22 D23 D24 D21 D20 D28 D43 D44⟩
theorem walk {l : PySem.W.OpenLaw} {q : Program} {loose : List Str} {XP : (Str → Option Value) → Heap → Prop} {YP : World → Heap → Prop} {d : DefRec} {K : Params → PySem.W.Frag} (hn : l.most = some 63) (hdf : d.params.defaults = []) (hi : PyProof.Rows.importsNone q = true)
    (hY : ∀ (w : World) (h : Heap), YP w h → (K w.params).In h)
    (F : ∀ (w : World) (mg : Str → Option Value) (fa : Addr) (h : Heap), (K w.params).In h → h.Ns mainGlobals mg → mg d.name = some (.ref fa) →
      ∃ fd : FuncData, (∀ (s : Shared) (u : Value), BindsTo s fd ⟨[u], []⟩ [("_law_script", u)]) ∧ ∀ base : Heap, (K w.params).In base → base.Ns mainGlobals mg → FnOk l.prog w (K w.params) mg base CX0 11 fa fd ["_law_script"] (spLaw (K w.params))) :
    PySem.W.WalkO q loose XP YP l.row.toRowW d [] (fun f vs => PySem.call f vs) :=
  L2.walk_of (n := 63) (k := 11) (x := "_law_script") (CX := fun _ => CX0) (sp := fun w => spLaw (K w.params)) hn (by decide) hdf ⟨rfl, by decide, by decide⟩ hi hY F (fun _ _ a ns hl _ hS => ⟨a, ns, rfl, hS, hl, fun _ => rfl⟩) fun _ _ _ _ _ z => z
end Ev
def PySem.W.Fast.tw4440291779097985375 : Unit := ()
def PySem.W.Fast.tw11422956518562676874 : Unit := ()
def PySem.W.Fast.tw13233895327377922053 : Unit := ()
def PySem.W.Fast.tw11279460703708970171 : Unit := ()
def PySem.W.Fast.tw4823632629482555679 : Unit := ()
def PySem.W.Fast.tw12834812991911590870 : Unit := ()
def PySem.W.Fast.tw12482960223323934028 : Unit := ()
def PySem.W.Fast.tw10661883138643194597 : Unit := ()
def PySem.W.Fast.tw8028416729424769993 : Unit := ()
def PySem.W.Fast.tw2056356823035909012 : Unit := ()
def PySem.W.Fast.tw5428805665080342550 : Unit := ()
def PySem.W.Fast.tw2931926545149088146 : Unit := ()
open PySem PySem.W PyProof.Rows
set_option maxRecDepth 100000 in
set_option maxHeartbeats 0 in
theorem PySem.Challenge.cw_evenscales_k06_refused_holds : PySem.Challenge.rw_evenscales_k06_refused.Holds := by
  w_on; o_law; k_head; (case hw => w_witness2)
  k_fill
  refine Ev.walk (l := PySem.Challenge.rw_evenscales_k06_refused) rfl rfl (by decide +kernel) (fun w h Y => PySem.W.kIn_of Y) ?F
  case F =>
    intro w mg fa h KX G hmg
    refine' Ev.all_mk KX G hmg ?a1 ?l1 ?c1 ?k1 ?a2 ?l2 ?c2 ?k2 ?a3 ?l3 ?c3 ?k3 ?a4 ?l4 ?c4 ?k4 ?a5 ?l5 ?c5 ?k5 ?a6 ?l6 ?c6 ?k6 ?a7 ?l7 ?c7 ?k7 ?a8 ?l8 ?c8 ?k8 ?a9 ?l9 ?c9 ?k9 ?a10 ?l10 ?c10 ?k10 ?a11 ?l11 ?c11 ?k11 ?a12 ?l12 ?c12 ?k12 ?a13 ?l13 ?c13 ?k13 ?a14 ?l14 ?c14 ?k14 ?a15 ?l15 ?c15 ?k15 ?a16 ?l16 ?c16 ?k16 ?a17 ?l17 ?c17 ?k17 ?a18 ?l18 ?c18 ?k18 ?a19 ?l19 ?c19 ?k19 ?a20 ?l20 ?c20 ?k20 ?a21 ?l21 ?c21 ?k21 ?a22 ?l22 ?c22 ?k22 ?a23 ?l23 ?c23 ?k23 ?a24 ?l24 ?c24 ?k24 ?a25 ?l25 ?c25 ?k25 ?a26 ?l26 ?c26 ?k26 ?a27 ?l27 ?c27 ?k27 ?a28 ?l28 ?c28 ?k28 ?a29 ?l29 ?c29 ?k29 ?a30 ?l30 ?c30 ?k30 ?a31 ?l31 ?c31 ?k31 ?a32 ?l32 ?c32 ?k32 ?a33 ?l33 ?c33 ?k33 ?a34 ?l34 ?c34 ?k34 ?a35 ?l35 ?c35 ?k35 ?a36 ?l36 ?c36 ?k36 ?a37 ?l37 ?c37 ?k37 ?a38 ?l38 ?c38 ?k38 ?a39 ?l39 ?c39 ?k39 ?a40 ?l40 ?c40 ?k40 ?a41 ?l41 ?c41 ?k41 ?a42 ?l42 ?c42 ?k42 ?a43 ?l43 ?c43 ?k43 ?a44 ?l44 ?c44 ?k44 ?a45 ?l45 ?c45 ?k45 ?q1 ?x1 ?t1 ?q2 ?x2 ?t2 ?q3 ?x3 ?t3 ?rC ?rI ?rF ?rL ?rO ?rK ?rA ?rB ?rD ?rE ?rM ?rN ?rX ?rY ?rZ ?hP ?rs ?re ?rn1 ?rk1 ?rn2 ?rk2 ?rn3 ?rk3 ?rn4 ?rk4 ?rv ?ry ?rg1 ?rg2 ?rg3 ?rg4 ?rg5 ?rg6 ?re11 ?re21 ?re22 ?re31 ?re32 ?re33 ?z1 ?z2 ?z3 ?z4 ?z5 ?z6 ?z7 ?z8 ?z9 ?z10 ?z11 ?z12
    (case a1 => k_is)
    (case l1 => k_is)
    (case c1 => k_is)
    (case k1 => k_is)
    (case a2 => k_is)
    (case l2 => k_is)
    (case c2 => k_is)
    (case k2 => k_is)
    (case a3 => k_is)
    (case l3 => k_is)
    (case c3 => k_is)
    (case k3 => k_is)
    (case a4 => k_is)
    (case l4 => k_is)
    (case c4 => k_is)
    (case k4 => k_is)
    (case a5 => k_is)
    (case l5 => k_is)
    (case c5 => k_is)
    (case k5 => k_is)
    (case a6 => k_is)
    (case l6 => k_is)
    (case c6 => k_is)
    (case k6 => k_is)
    (case a7 => k_is)
    (case l7 => k_is)
    (case c7 => k_is)
    (case k7 => k_is)
    (case a8 => k_is)
    (case l8 => k_is)
    (case c8 => k_is)
    (case k8 => k_is)
    (case a9 => k_is)
    (case l9 => k_is)
    (case c9 => k_is)
    (case k9 => k_is)
    (case a10 => k_is)
    (case l10 => k_is)
    (case c10 => k_is)
    (case k10 => k_is)
    (case a11 => k_is)
    (case l11 => k_is)
    (case c11 => k_is)
    (case k11 => k_is)
    (case a12 => k_is)
    (case l12 => k_is)
    (case c12 => k_is)
    (case k12 => k_is)
    (case a13 => k_is)
    (case l13 => k_is)
    (case c13 => k_is)
    (case k13 => k_is)
    (case a14 => k_is)
    (case l14 => k_is)
    (case c14 => k_is)
    (case k14 => k_is)
    (case a15 => k_is)
    (case l15 => k_is)
    (case c15 => k_is)
    (case k15 => k_is)
    (case a16 => k_is)
    (case l16 => k_is)
    (case c16 => k_is)
    (case k16 => k_is)
    (case a17 => k_is)
    (case l17 => k_is)
    (case c17 => k_is)
    (case k17 => k_is)
    (case a18 => k_is)
    (case l18 => k_is)
    (case c18 => k_is)
    (case k18 => k_is)
    (case a19 => k_is)
    (case l19 => k_is)
    (case c19 => k_is)
    (case k19 => k_is)
    (case a20 => k_is)
    (case l20 => k_is)
    (case c20 => k_is)
    (case k20 => k_is)
    (case a21 => k_is)
    (case l21 => k_is)
    (case c21 => k_is)
    (case k21 => k_is)
    (case a22 => k_is)
    (case l22 => k_is)
    (case c22 => k_is)
    (case k22 => k_is)
    (case a23 => k_is)
    (case l23 => k_is)
    (case c23 => k_is)
    (case k23 => k_is)
    (case a24 => k_is)
    (case l24 => k_is)
    (case c24 => k_is)
    (case k24 => k_is)
    (case a25 => k_is)
    (case l25 => k_is)
    (case c25 => k_is)
    (case k25 => k_is)
    (case a26 => k_is)
    (case l26 => k_is)
    (case c26 => k_is)
    (case k26 => k_is)
    (case a27 => k_is)
    (case l27 => k_is)
    (case c27 => k_is)
    (case k27 => k_is)
    (case a28 => k_is)
    (case l28 => k_is)
    (case c28 => k_is)
    (case k28 => k_is)
    (case a29 => k_is)
    (case l29 => k_is)
    (case c29 => k_is)
    (case k29 => k_is)
    (case a30 => k_is)
    (case l30 => k_is)
    (case c30 => k_is)
    (case k30 => k_is)
    (case a31 => k_is)
    (case l31 => k_is)
    (case c31 => k_is)
    (case k31 => k_is)
    (case a32 => k_is)
    (case l32 => k_is)
    (case c32 => k_is)
    (case k32 => k_is)
    (case a33 => k_is)
    (case l33 => k_is)
    (case c33 => k_is)
    (case k33 => k_is)
    (case a34 => k_is)
    (case l34 => k_is)
    (case c34 => k_is)
    (case k34 => k_is)
    (case a35 => k_is)
    (case l35 => k_is)
    (case c35 => k_is)
    (case k35 => k_is)
    (case a36 => k_is)
    (case l36 => k_is)
    (case c36 => k_is)
    (case k36 => k_is)
    (case a37 => k_is)
    (case l37 => k_is)
    (case c37 => k_is)
    (case k37 => k_is)
    (case a38 => k_is)
    (case l38 => k_is)
    (case c38 => k_is)
    (case k38 => k_is)
    (case a39 => k_is)
    (case l39 => k_is)
    (case c39 => k_is)
    (case k39 => k_is)
    (case a40 => k_is)
    (case l40 => k_is)
    (case c40 => k_is)
    (case k40 => k_is)
    (case a41 => k_is)
    (case l41 => k_is)
    (case c41 => k_is)
    (case k41 => k_is)
    (case a42 => k_is)
    (case l42 => k_is)
    (case c42 => k_is)
    (case k42 => k_is)
    (case a43 => k_is)
    (case l43 => k_is)
    (case c43 => k_is)
    (case k43 => k_is)
    (case a44 => k_is)
    (case l44 => k_is)
    (case c44 => k_is)
    (case k44 => k_is)
    (case a45 => k_is)
    (case l45 => k_is)
    (case c45 => k_is)
    (case k45 => k_is)
    (case q1 => k_is)
    (case x1 => k_exc)
    (case t1 => kts_isx)
    (case q2 => k_is)
    (case x2 => k_exc)
    (case t2 => kts_isx)
    (case q3 => k_is)
    (case x3 => k_exc)
    (case t3 => kts_isx)
    (case rC => k_is)
    (case rI => k_is)
    (case rF => k_is)
    (case rL => k_is)
    (case rO => k_is)
    (case rK => k_is)
    (case rA => k_is)
    (case rB => k_is)
    (case rD => k_is)
    (case rE => k_is)
    (case rM => k_is)
    (case rN => k_is)
    (case rX => k_is)
    (case rY => k_is)
    (case rZ => k_is)
    (case hP => rfl)
    (case rs => k_is)
    (case re => kts_exm)
    (case rn1 => k_is)
    (case rk1 => kit_is)
    (case rn2 => k_is)
    (case rk2 => kit_is)
    (case rn3 => k_is)
    (case rk3 => kit_is)
    (case rn4 => k_is)
    (case rk4 => kit_is)
    (case rv => k_is)
    (case ry => kit_is)
    (case rg1 => k_is)
    (case rg2 => k_is)
    (case rg3 => k_is)
    (case rg4 => k_is)
    (case rg5 => k_is)
    (case rg6 => k_is)
    (case re11 => kts_exm)
    (case re21 => kts_exm)
    (case re22 => kts_exm)
    (case re31 => kts_exm)
    (case re32 => kts_exm)
    (case re33 => kts_exm)
    (case z1 => k_is)
    (case z2 => k_is)
    (case z3 => k_is)
    (case z4 => k_is)
    (case z5 => k_is)
    (case z6 => k_is)
    (case z7 => k_is)
    (case z8 => k_is)
    (case z9 => k_is)
    (case z10 => k_is)
    (case z11 => k_is)
    (case z12 => k_is)
#print axioms PySem.Challenge.cw_evenscales_k06_refused_holds


