import PyProof.Rows.All
import Wide.All
import OpenK.AllK
import Wide.FinOn
import PyProof.EqAt
import PyProof.EqKinds
import PyProof.TupleCall
import KE.BitLaws
import Open.SpecLaws
import KE.OsHead
import KE.OsGo
import PySem.Challenge.RW_outlinefill_s01_answers
import PySw24
import PyProof.Rows.SortShellAny
set_option Elab.async false
set_option linter.all false
set_option maxRecDepth 100000
namespace L2
open PySem PySem.Spec PyProof.Rows
abbrev Key := Sum Int Str
def keyIs : Key → Value → Bool
  | .inl k, v => Value.isInt k v
  | .inr x, v => Value.isStrOf x v
def keyH (w : World) : Key → Int
  | .inl k => hashInt k
  | .inr x => hashStr w x
theorem keyIs_shape : ∀ {k : Key} {v : Value}, keyIs k v = true → (∃ i t, k = Sum.inl i ∧ v = Value.int i t) ∨ (∃ x t, k = Sum.inr x ∧ v = Value.str x t)
  | .inl i, v, h => by
    obtain ⟨t, e⟩ := Value.isInt_shape (k := i) (v := v) h
    exact .inl ⟨i, t, rfl, e⟩
  | .inr x, v, h => by
    obtain ⟨t, e⟩ := Value.isStrOf_shape (x := x) (v := v) h
    exact .inr ⟨x, t, rfl, e⟩
theorem keyIs_int (i : Int) (t : Tok) : keyIs (.inl i) (.int i t) = true := by simp [keyIs, Value.isInt]
theorem keyIs_str (x : Str) (t : Tok) : keyIs (.inr x) (.str x t) = true := by simp [keyIs, Value.isStrOf]
theorem key_ll (a b : Int) : decide ((Sum.inl a : Key) = Sum.inl b) = (a == b) := by
  by_cases e : a = b
  · subst e; simp
  · have h : ¬ (Sum.inl a : Key) = Sum.inl b := fun q => e (Sum.inl.inj q)
    rw [decide_eq_false h]
    exact (beq_eq_false_iff_ne.mpr e).symm
theorem key_rr (a b : Str) : decide ((Sum.inr a : Key) = Sum.inr b) = decide (a = b) := by
  by_cases e : a = b
  · subst e; simp
  · have h : ¬ (Sum.inr a : Key) = Sum.inr b := fun q => e (Sum.inr.inj q)
    rw [decide_eq_false h, decide_eq_false e]
theorem key_lr (a : Int) (b : Str) : decide ((Sum.inl a : Key) = Sum.inr b) = false := decide_eq_false (fun q => nomatch q)
theorem key_rl (a : Str) (b : Int) : decide ((Sum.inr a : Key) = Sum.inl b) = false := decide_eq_false (fun q => nomatch q)
def mixKind (prog : Program) (w : World) : PySem.KeyKind prog w Key where
  is := keyIs
  hash := keyH w
  inj := fun v a b ha hb => by
    rcases keyIs_shape ha with ⟨i, t, rfl, rfl⟩ | ⟨x, t, rfl, rfl⟩
    · rcases keyIs_shape hb with ⟨j, u, rfl, e⟩ | ⟨y, u, rfl, e⟩
      · injection e with e1 _; rw [e1]
      · exact nomatch e
    · rcases keyIs_shape hb with ⟨j, u, rfl, e⟩ | ⟨y, u, rfl, e⟩
      · exact nomatch e
      · injection e with e1 _; rw [e1]
  byValue := fun k v h => by
    rcases keyIs_shape h with ⟨i, t, rfl, rfl⟩ | ⟨x, t, rfl, rfl⟩ <;> rfl
  pyHash := fun hv h => by
    rcases keyIs_shape hv with ⟨i, t, rfl, rfl⟩ | ⟨x, t, rfl, rfl⟩
    · exact wpAny_pyHash_int h
    · exact wpAny_pyHash_str h
  eqBool := fun hu hv h => by
    rcases keyIs_shape hu with ⟨i, t, rfl, rfl⟩ | ⟨x, t, rfl, rfl⟩
    · rcases keyIs_shape hv with ⟨j, u, rfl, rfl⟩ | ⟨y, u, rfl, rfl⟩
      · rw [key_ll] at h; exact wpAny_eqBool_int h
      · rw [key_lr] at h; exact SeqAt.EqAt.int_str i t y u _ _ _ _ h
    · rcases keyIs_shape hv with ⟨j, u, rfl, rfl⟩ | ⟨y, u, rfl, rfl⟩
      · rw [key_rl] at h; exact SeqAt.EqAt.str_int x t j u _ _ _ _ h
      · rw [key_rr] at h; exact wpAny_eqBool_str h
  «strs» := fun k x t v h => by
    rcases keyIs_shape h with ⟨i, u, rfl, e⟩ | ⟨y, u, rfl, e⟩
    · exact nomatch e
    · injection e with e1 _
      subst e1
      cases v <;> rfl
theorem mixKind_int (prog : Program) (w : World) (i : Int) (t : Tok) : (mixKind prog w).is (.inl i) (.int i t) = true := keyIs_int i t
theorem mixKind_str (prog : Program) (w : World) (x : Str) (t : Tok) : (mixKind prog w).is (.inr x) (.str x t) = true := keyIs_str x t
end L2
namespace L2
open PySem PySem.Spec PyProof.Rows
inductive V where
  | non | bl (b : Bool) | int (i : Int) | str (x : Str) | byt (b : Array UInt8) | flt (b : UInt64) | ref (a : Addr) | ty (n : String)
  deriving DecidableEq
def RelV : V → Value → Prop
  | .non, u => u = Value.none
  | .bl b, u => u = Value.bool b
  | .int i, u => ∃ t, u = Value.int i t
  | .str x, u => ∃ t, u = Value.str x t
  | .byt b, u => ∃ t, u = Value.bytes b t
  | .flt b, u => ∃ t, u = Value.float b t
  | .ref a, u => u = Value.ref a
  | .ty n, u => u = Value.type n
abbrev Vals : List V → List Value → Prop := Paired RelV
theorem Vals.length {xs : List V} {us : List Value} (r : Vals xs us) : xs.length = us.length := Paired.length r
theorem Vals.get : ∀ {xs : List V} {us : List Value} {i : Nat} {x : V}, Vals xs us → xs[i]? = some x → ∃ u, us[i]? = some u ∧ RelV x u
  | _, _, _, _, .nil, e => by simp at e
  | _, _, 0, _, .cons r _, e => by simp at e; subst e; exact ⟨_, rfl, r⟩
  | _, _, i + 1, x, .cons _ t, e => by
    obtain ⟨u, h1, h2⟩ := Vals.get (i := i) (x := x) t (by simpa using e)
    exact ⟨u, by simpa using h1, h2⟩
theorem Vals.set {x : V} {u : Value} (r : RelV x u) : ∀ {xs : List V} {us : List Value} (i : Nat), Vals xs us → Vals (xs.set i x) (us.set i u)
  | _, _, _, .nil => .nil
  | _, _, 0, .cons _ t => .cons r t
  | _, _, i + 1, .cons q t => .cons q (Vals.set r i t)
theorem Vals.append : ∀ {xs ys : List V} {us ws : List Value}, Vals xs us → Vals ys ws → Vals (xs ++ ys) (us ++ ws)
  | _, _, _, _, .nil, s => s
  | _, _, _, _, .cons r t, s => .cons r (Vals.append t s)
theorem Vals.take : ∀ {xs : List V} {us : List Value} (n : Nat), Vals xs us → Vals (xs.take n) (us.take n)
  | _, _, 0, _ => .nil
  | _, _, _ + 1, .nil => .nil
  | _, _, n + 1, .cons r t => .cons r (Vals.take n t)
theorem Vals.drop : ∀ {xs : List V} {us : List Value} (n : Nat), Vals xs us → Vals (xs.drop n) (us.drop n)
  | _, _, 0, r => r
  | _, _, _ + 1, .nil => .nil
  | _, _, n + 1, .cons _ t => Vals.drop n t
def RelO : Option V → Option Value → Prop
  | some v, some u => RelV v u
  | none, none => True
  | _, _ => False
def KV {κ : Type} : List (κ × V) → List (κ × Value) → Prop := Paired fun (p : κ × V) (q : κ × Value) => p.1 = q.1 ∧ RelV p.2 q.2
def kV : Key → V
  | .inl i => .int i
  | .inr x => .str x
inductive HO where
  /-- a list -/
  | lst (xs : List V)
  /-- a tuple (never changes) -/
  | tup (xs : List V)
  /-- a dict whose keys are ints and texts; one whose keys are tuples of ints and texts (the empty one is both) -/
  | dK (kvs : List (Key × V)) | dT (kvs : List (List Key × V))
  /-- a set of ints: its members, its size -/
  | set (S : Int → Bool) (n : Nat)
  /-- an instance of the class at C, its dict at dx, its attributes -/
  | ins (C dx : Addr) (fs : List (Str × V))
  /-- the dict of the instance at x -/
  | own (x : Addr)
  /-- the dict of an exception -/
  | xd (fs : List (Str × V))
  /-- a bound method, f of x -/
  | met (f x : Addr)
  /-- a range object lo, lo + 1, .. below hi -/
  | rng (lo hi : Int)
  /-- a thing that is known to the object (the script; a dict while a loop walks it): read, never written while it is so -/
  | frz (o : Obj) (u : HO)
  /-- a code object's table -/
  | tbl (ps : Array Value)
  /-- any other thing, by what is true of its one object (a def of one's own: SetO a S n := HO.ext fun h => ..) -/
  | ext (φ : Heap → Prop)
abbrev Hp := Addr → Option HO
def upd (H : Hp) (a : Addr) (o : HO) : Hp := fun b => if b = a then some o else H b
theorem upd_same {H : Hp} {a : Addr} {o : HO} : upd H a o a = some o := by unfold upd; rw [if_pos rfl]
theorem upd_ne {H : Hp} {a b : Addr} {o : HO} (h : b ≠ a) : upd H a o b = H b := by unfold upd; rw [if_neg h]
theorem upd_upd {H : Hp} {a : Addr} {o u : HO} : upd (upd H a o) a u = upd H a u := by
  funext b; unfold upd; split <;> rfl
theorem ne_of {H : Hp} {a b : Addr} {o u : HO} (h : H a = some o) (h' : H b = some u) (d : o ≠ u) : a ≠ b := by
  intro e; subst e; rw [h] at h'; exact d (Option.some.inj h')
theorem ne_of_none {H : Hp} {a b : Addr} {o : HO} (h : H a = some o) (h' : H b = none) : a ≠ b := by
  intro e; subst e; rw [h] at h'; cases h'
section
variable (P : Program) (w : World)
def ObjOk (H : Hp) (h : Heap) (a : Addr) : HO → Prop
  | .lst xs => xs.length ≤ sizeLine ∧ ∃ (its : List Value) (n : Nat), Vals xs its ∧ h.get? a = some { cls := .type "list", data := .seq its.toArray n }
  | .tup xs => xs.length ≤ sizeLine ∧ ∃ its : List Value, Vals xs its ∧ IsTup h a its.toArray
  | .dK kvs => kvs.length ≤ sizeLine ∧ (a == sysModules) = false ∧ ∃ vs, KV kvs vs ∧ h.DictOf (mixKind P w) a vs
  | .dT kvs => kvs.length ≤ sizeLine ∧ (a == sysModules) = false ∧ ∃ xs : List (List Key × Addr × Value),
      Paired (fun (p : List Key × V) (q : List Key × Addr × Value) => p.1 = q.1 ∧ H q.2.1 = some (.tup (p.1.map kV)) ∧ RelV p.2 q.2.2) kvs xs ∧
      ∃ o es ep, h.get? a = some o ∧ o.ExactDict ∧ o.data = .dict es ep ∧ es.toList = xs.map (entryOfKey (tupleKind (mixKind P w))) ∧ (xs.map (·.1)).Nodup
  | .set S n => h.SetOf (intKind P w) a S n
  | .ins C dx fs => H dx = some (.own a) ∧ fs.length ≤ 1000 ∧ dx ≠ a ∧ h.get? a = some (PySem.W.instObj C dx) ∧
      ∃ mA, h.Ns1 dx mA ∧ (∀ f, RelO (fs.lookup f) (mA f)) ∧ PySem.Within mA (fs.map (·.1))
  | .own _ => ∃ o, h.get? a = some o
  | .xd fs => ∃ mA, h.Ns1 a mA ∧ ∀ f, RelO (fs.lookup f) (mA f)
  | .rng lo hi => ∃ t u v, h.get? a = some { cls := .type "range", data := .fields #[.int lo t, .int hi u, .int 1 v] }
  | .frz o u => h.get? a = some o ∧ ObjOk H h a u
  | .tbl ps => h.get? a = some { cls := .none, data := .fields ps }
  | .met f x => h.get? a = some (PySem.W.methodObj (.ref f) (.ref x))
  | .ext φ => φ h ∧ (∃ o, h.get? a = some o) ∧ ∀ h1 h2 : Heap, φ h1 → (∀ o, h1.get? a = some o → h2.get? a = some o) → φ h2
def HOk (H : Hp) (h : Heap) : Prop := ∀ a o, H a = some o → ObjOk P w H h a o
end
section
variable {P : Program} {w : World} {H H' : Hp} {h h' : Heap} {a : Addr} {o : HO}
theorem ObjOk.lt (x : ObjOk P w H h a o) : a < h.objs.size := by
  cases o with
  | lst xs => obtain ⟨_, _, _, _, e⟩ := x; exact Heap.lt_size e
  | tup xs => obtain ⟨_, _, _, p⟩ := x; exact p.lt
  | dK kvs => obtain ⟨_, _, _, _, o, _, _, e, _⟩ := x; exact Heap.lt_size e
  | dT kvs => obtain ⟨_, _, _, _, o, _, _, e, _⟩ := x; exact Heap.lt_size e
  | set S n => obtain ⟨o, _, _, _, e, _⟩ := x; exact Heap.lt_size e
  | ins C dx fs => obtain ⟨_, _, _, e, _⟩ := x; exact Heap.lt_size e
  | own y => obtain ⟨_, e⟩ := x; exact Heap.lt_size e
  | xd fs => obtain ⟨_, ⟨_, _, _, e, _⟩, _⟩ := x; exact Heap.lt_size e
  | rng lo hi => obtain ⟨_, _, _, e⟩ := x; exact Heap.lt_size e
  | frz ob u => obtain ⟨e, _⟩ := x; exact Heap.lt_size e
  | tbl ps => exact Heap.lt_size (show h.get? a = some _ from x)
  | met f y => exact Heap.lt_size (show h.get? a = some _ from x)
  | ext φ => obtain ⟨_, ⟨_, e⟩, _⟩ := x; exact Heap.lt_size e
theorem Paired.mapP {α β : Type} {F G : α → β → Prop} : ∀ {l₁ : List α} {l₂ : List β}, Paired F l₁ l₂ → (∀ a b, F a b → G a b) → Paired G l₁ l₂
  | _, _, .nil, _ => .nil
  | _, _, .cons r t, f => .cons (f _ _ r) (Paired.mapP t f)
theorem ObjOk.stay (x : ObjOk P w H h a o) (k : ∀ b u, (b = a ∨ H b = some (.own a)) → h.get? b = some u → h'.get? b = some u)
    (ho : ∀ b, H b = some (.own a) → H' b = some (.own a)) (ht : ∀ b xs, H b = some (.tup xs) → H' b = some (.tup xs)) : ObjOk P w H' h' a o := by
  induction o with
  | lst xs => obtain ⟨z, its, n, r, e⟩ := x; exact ⟨z, its, n, r, k _ _ (.inl rfl) e⟩
  | tup xs => obtain ⟨z, its, r, ob, e, c⟩ := x; exact ⟨z, its, r, ob, k _ _ (.inl rfl) e, c⟩
  | dK kvs => obtain ⟨z, y, vs, r, ob, es, ep, e, c⟩ := x; exact ⟨z, y, vs, r, ob, es, ep, k _ _ (.inl rfl) e, c⟩
  | dT kvs =>
    obtain ⟨z, y, xs, r, ob, es, ep, e, c⟩ := x
    exact ⟨z, y, xs, Paired.mapP r fun p q z => ⟨z.1, ht _ _ z.2.1, z.2.2⟩, ob, es, ep, k _ _ (.inl rfl) e, c⟩
  | set S n => obtain ⟨ob, es, ep, t, e, c⟩ := x; exact ⟨ob, es, ep, t, k _ _ (.inl rfl) e, c⟩
  | ins C dx fs =>
    obtain ⟨d, z, ne, e, mA, ⟨od, es, ep, e2, c⟩, r⟩ := x
    exact ⟨ho _ d, z, ne, k _ _ (.inl rfl) e, mA, ⟨od, es, ep, k _ _ (.inr d) e2, c⟩, r⟩
  | own y => obtain ⟨ob, e⟩ := x; exact ⟨ob, k _ _ (.inl rfl) e⟩
  | xd fs => obtain ⟨mA, ⟨od, es, ep, e, c⟩, r⟩ := x; exact ⟨mA, ⟨od, es, ep, k _ _ (.inl rfl) e, c⟩, r⟩
  | rng lo hi => obtain ⟨t, u, v, e⟩ := x; exact ⟨t, u, v, k _ _ (.inl rfl) e⟩
  | frz ob u ih => obtain ⟨e, q⟩ := x; exact ⟨k _ _ (.inl rfl) e, ih q⟩
  | tbl ps =>
    have e : h.get? a = some { cls := .none, data := .fields ps } := x
    show h'.get? a = some { cls := .none, data := .fields ps }
    exact k a _ (.inl rfl) e
  | met f y =>
    have e : h.get? a = some (PySem.W.methodObj (.ref f) (.ref y)) := x
    show h'.get? a = some (PySem.W.methodObj (.ref f) (.ref y))
    exact k a _ (.inl rfl) e
  | ext φ => obtain ⟨p, ⟨o, e⟩, st⟩ := x; exact ⟨st _ _ p fun o q => k _ _ (.inl rfl) q, ⟨o, k _ _ (.inl rfl) e⟩, st⟩
theorem HOk.lt (x : HOk P w H h) (e : H a = some o) : a < h.objs.size := (x a o e).lt
theorem HOk.fresh (x : HOk P w H h) (e : h.objs.size ≤ a) : H a = none := by
  cases q : H a with
  | none => rfl
  | some u => exact absurd (Nat.lt_of_lt_of_le (x.lt q) e) (Nat.lt_irrefl _)
theorem HOk.kept (x : HOk P w H h) (k : ∀ b u, h.get? b = some u → h'.get? b = some u) : HOk P w H h' := fun a o e =>
  (x a o e).stay (fun b u _ q => k b u q) (fun _ q => q) fun _ _ q => q
theorem HOk.laid (x : HOk P w H h) (k : ∀ b u, h.get? b = some u → h'.get? b = some u) (hp : h.objs.size ≤ a) (new : ObjOk P w (upd H a o) h' a o) : HOk P w (upd H a o) h' := fun b u e => by
  have hn := x.fresh hp
  by_cases hb : b = a
  · subst hb; rw [upd_same] at e; cases e; exact new
  · rw [upd_ne hb] at e
    exact (x b u e).stay (fun c v _ q => k c v q) (fun c q => by rw [upd_ne (ne_of_none q hn)]; exact q) fun c xs q => by rw [upd_ne (ne_of_none q hn)]; exact q
end
def Rd (H : Hp) (a : Addr) (u : HO) : Prop := H a = some u ∨ ∃ o, H a = some (.frz o u)
theorem Rd.ok {P : Program} {w : World} {H : Hp} {h : Heap} {a : Addr} {u : HO} (r : Rd H a u) (x : HOk P w H h) : ObjOk P w H h a u := by
  rcases r with r | ⟨o, r⟩
  · exact x a u r
  · obtain ⟨_, q⟩ := x a _ r
    exact q
def Mut : Option HO → Prop
  | some (.lst _) => True
  | some (.dK _) => True
  | some (.dT _) => True
  | some (.set _ _) => True
  | some (.ins _ _ _) => True
  | some (.ext _) => True
  | _ => False
section
variable {P : Program} {w : World} {H : Hp} {h h' : Heap} {x e : Addr} {o' : HO}
theorem HOk.write (ok : HOk P w H h) (mu : Mut (H x)) (he : e = x ∨ H e = some (.own x)) (k : ∀ b u, b ≠ e → h.get? b = some u → h'.get? b = some u) (heo : ∃ u, h'.get? e = some u)
    (new : ObjOk P w (upd H x o') h' x o') : HOk P w (upd H x o') h' := fun b u q => by
  have nown : ∀ c y, H c = some (.own y) → c ≠ x := fun c y r z => by subst z; rw [r] at mu; exact mu
  have ntup : ∀ c xs, H c = some (.tup xs) → c ≠ x := fun c xs r z => by subst z; rw [r] at mu; exact mu
  by_cases hb : b = x
  · subst hb; rw [upd_same] at q; cases q; exact new
  · rw [upd_ne hb] at q
    by_cases hbe : b = e
    · have q' : H b = some (.own x) := by
        rcases he with z | z
        · exact absurd (hbe.trans z) hb
        · rw [hbe]; exact z
      rw [q] at q'; cases q'
      obtain ⟨v, hv⟩ := heo
      exact ⟨v, by rw [hbe]; exact hv⟩
    · refine (ok b u q).stay (fun c v hc r => k c v ?_ r) (fun c r => by rw [upd_ne (nown c b r)]; exact r) fun c xs r => by rw [upd_ne (ntup c xs r)]; exact r
      rcases hc with rfl | hc
      · exact hbe
      · rintro rfl
        rcases he with z | z
        · exact nown c b hc z
        · rw [hc] at z; cases z; exact hb rfl
end
structure Un (fs ex : List Addr) (H H' : Hp) (h h' : Heap) : Prop where
  keep : ∀ b o, h.get? b = some o → H b = none → b ∉ fs → b ∉ ex → h'.get? b = some o
  slot : ∀ b o, h.get? b = some o → H b = none → b ∈ fs → b ∉ ex → ∃ sl, h'.get? b = some { o with slots := sl }
  free : ∀ b o, h.get? b = some o → H b = none → b ∉ ex → H' b = none
  there : ∀ b o, h.get? b = some o → b ∉ ex → ∃ o', h'.get? b = some o'
  tups : ∀ b xs, H b = some (.tup xs) → H' b = some (.tup xs)
  frzs : ∀ b o u, H b = some (.frz o u) → H' b = some (.frz o u)
  tbls : ∀ b ps, H b = some (.tbl ps) → ∃ more, H' b = some (.tbl (ps ++ more))
section
variable {fs fs' ex ex' : List Addr} {H H1 H2 : Hp} {h h1 h2 h' : Heap} {a x e : Addr} {o : HO}
theorem Un.any (u : Un fs ex H H1 h h1) {b : Addr} {ob : Obj} (q : h.get? b = some ob) (n : H b = none) (hx : b ∉ ex) : ∃ sl, h1.get? b = some { ob with slots := sl } := by
  by_cases hb : b ∈ fs
  · exact u.slot b ob q n hb hx
  · exact ⟨ob.slots, u.keep b ob q n hb hx⟩
theorem Un.kept (k : ∀ b u, h.get? b = some u → h'.get? b = some u) : Un fs ex H H h h' :=
  ⟨fun b ob q _ _ _ => k b ob q, fun b ob q _ _ _ => ⟨ob.slots, k b ob q⟩, fun _ _ _ n _ => n, fun b ob q _ => ⟨ob, k b ob q⟩, fun _ _ q => q, fun _ _ _ q => q, fun _ ps q => ⟨#[], by rw [q]; simp⟩⟩
theorem Un.refl : Un fs ex H H h h := Un.kept fun _ _ q => q
theorem Un.laid (k : ∀ b u, h.get? b = some u → h'.get? b = some u) (hp : h.objs.size ≤ a) (hn : H a = none) : Un fs ex H (upd H a o) h h' where
  keep := fun b u q _ _ _ => k b u q
  slot := fun b u q _ _ _ => ⟨u.slots, k b u q⟩
  free := fun b u q n _ => by rw [upd_ne (Nat.ne_of_lt (Nat.lt_of_lt_of_le (Heap.lt_size q) hp))]; exact n
  there := fun b u q _ => ⟨u, k b u q⟩
  tups := fun b xs q => by rw [upd_ne (ne_of_none q hn)]; exact q
  frzs := fun b u xs q => by rw [upd_ne (ne_of_none q hn)]; exact q
  tbls := fun b ps q => ⟨#[], by rw [upd_ne (ne_of_none q hn), q]; simp⟩
theorem Un.write (mu : Mut (H x)) (he : e = x ∨ H e = some (.own x)) (k : ∀ b u, b ≠ e → h.get? b = some u → h'.get? b = some u) (heo : ∃ u, h'.get? e = some u) : Un fs ex H (upd H x o) h h' := by
  have hx : ∀ b, H b = none → b ≠ x := fun b n z => by subst z; rw [n] at mu; exact mu
  have hb : ∀ b, H b = none → b ≠ e := fun b n z => by
    subst z
    rcases he with r | r
    · exact hx b n r
    · rw [n] at r; cases r
  have hm : ∀ b u, H b = some u → ¬ Mut (some u) → b ≠ x := fun b u q nm z => by subst z; rw [q] at mu; exact nm mu
  refine ⟨fun b u q n _ _ => k b u (hb b n) q, fun b u q n _ _ => ⟨u.slots, k b u (hb b n) q⟩, fun b u q n _ => by rw [upd_ne (hx b n)]; exact n, fun b u q _ => ?_,
    fun b xs q => by rw [upd_ne (hm b _ q fun z => z)]; exact q, fun b u xs q => by rw [upd_ne (hm b _ q fun z => z)]; exact q, fun b ps q => ⟨#[], by rw [upd_ne (hm b _ q fun z => z), q]; simp⟩⟩
  by_cases hbe : b = e
  · subst hbe; exact heo
  · exact ⟨u, k b u hbe q⟩
end
def trk (h : Heap) (H : Hp) : List Addr := (List.range h.objs.size).filter fun a => (H a).isSome
def hidT (h : Heap) (H : Hp) : Heap := PySem.W.hideAll h (trk h H)
theorem hidT_size (h : Heap) (H : Hp) : (hidT h H).objs.size = h.objs.size := PySem.W.hideAll_size _ _
theorem hidT_get {h : Heap} {H : Hp} {b : Addr} {o : Obj} (e : h.get? b = some o) (n : H b = none) : (hidT h H).get? b = some o :=
  PySem.W.hideAll_get _ e fun hm => by
    have q : (H b).isSome = true := (List.mem_filter.mp hm).2
    rw [n] at q; simp at q
theorem of_hidT {h : Heap} {H : Hp} {b : Addr} {o : Obj} (e : (hidT h H).get? b = some o) : h.get? b = some o ∧ H b = none := by
  have e' : h.get? b = some o := PySem.W.of_hideAll (trk h H) e
  refine ⟨e', ?_⟩
  cases q : H b with
  | none => rfl
  | some x =>
    have hm : b ∈ trk h H := List.mem_filter.mpr ⟨List.mem_range.mpr (Heap.lt_size e'), by simp [q]⟩
    have z : (hidT h H).get? b = none := PySem.W.hideAll_none (trk h H) hm
    rw [z] at e; cases e
end L2
namespace L2
open PySem PySem.Spec PyProof.Rows
structure Mod (K : PySem.W.Frag) (mg : Str → Option Value) (base : Heap) : Prop where
  kin : K.In base
  glob : base.Ns mainGlobals mg
  blt : ∃ mb, base.Ns builtinsNs mb ∧ ∀ x : Str, x ≠ "__name__" → mb x = bootBuiltins x
  nolimit : base.NoLimit
structure Cx where
  prog : Program
  w : World
  K : PySem.W.Frag
  mg : Str → Option Value
  base : Heap
  A : Around
  N : List Str
  s_0 : Shared
  H_0 : Hp
  env : Env
  outer : List Env
  stack : List Env
  ex : List Addr
  fn : Str → Bool
  calm : Bool
  pn : List (Addr × Obj)
  xe : Value → Shared → Prop
def frs (l : List Env) : List Addr := l.filterMap (·.frame)
abbrev Cx.fs (X : Cx) : List Addr := frs X.outer
def Vis (sc : Scope) (x : Str) : Prop := sc.names.lookup x = some .local ∨ sc.names.lookup x = some .cell ∨ sc.names.lookup x = some .free
def Loc (sc : Scope) (x : Str) : Prop := sc.names.lookup x = some .local ∨ sc.names.lookup x = some .cell
def Look (env : Env) (h : Heap) (m : Str → Option Value) (x : Str) (u : Value) : Prop :=
  (env.kindOf x = some .local ∧ m x = some u) ∨ ((env.kindOf x = some .cell ∨ env.kindOf x = some .free) ∧ ∃ c, env.cells.lookup x = some c ∧ h.IsCell c (some u))
structure Cx.Ok (X : Cx) : Prop where
  mod : Mod X.K X.mg X.base
  kind : X.env.scope.kind = .function
  glob : X.env.globals = mainGlobals
  blt : X.env.builtins = builtinsNs
  above : X.s_0.heap.objs.size ≤ X.env.locals
  inj : ∀ x y c, X.env.cells.lookup x = some c → X.env.cells.lookup y = some c → x = y
  has : ∀ x, (X.env.kindOf x = some .cell ∨ X.env.kindOf x = some .free) → ∃ c, X.env.cells.lookup x = some c
  cab : ∀ x c, X.fn x = true → X.env.cells.lookup x = some c → X.s_0.heap.objs.size ≤ c
  hd : X.calm = true → X.A.handled = none
  frames : X.A.frames = some X.stack
  stk : X.stack = X.outer ∨ (X.stack = X.env :: X.outer ∧ X.env.frame = some X.env.locals)
  exf : ∀ b ∈ X.ex, b ≠ X.env.locals ∧ ∀ x c, X.env.cells.lookup x = some c → c ≠ b
  bs : ∀ b o, X.base.get? b = some o → X.s_0.heap.get? b = some o ∧ X.H_0 b = none
  bsz : X.base.objs.size ≤ X.s_0.heap.objs.size
  noex : ∀ b o, X.base.get? b = some o → b ∉ X.ex
  exfs : ∀ b ∈ X.ex, b ∉ X.fs
  funs : X.s_0.heap.FunFrames X.base X.outer
  frf : ∀ b ∈ X.fs, X.H_0 b = none
structure Inv (X : Cx) (pins : List (Addr × Obj)) (σ : List (Option V)) (H : Hp) (s : Shared) : Prop where
  ok : X.Ok
  os : s.os = X.s_0.os
  bare : AllBare s.gens
  base : Un X.fs X.ex X.H_0 H X.s_0.heap s.heap
  loc : ∃ m, s.heap.Ns X.env.locals m ∧ ∀ (i : Nat) (x : Str) (v : V), X.N[i]? = some x → σ[i]? = some (some v) → Vis X.env.scope x → ∃ u, RelV v u ∧ Look X.env s.heap m x u
  cell : ∀ x c, X.env.cells.lookup x = some c → ∃ v, s.heap.IsCell c v
  free : H X.env.locals = none
  freeC : ∀ x c, X.env.cells.lookup x = some c → H c = none
  pin : ∀ p ∈ X.pn ++ pins, s.heap.get? p.1 = some p.2 ∧ H p.1 = none ∧ p.1 ≠ X.env.locals ∧ p.1 ∉ X.fs ∧ ∀ v, p.2.data ≠ .cell v
  hok : HOk X.prog X.w H s.heap
  len : σ.length = X.N.length
section
variable {X : Cx} {pins : List (Addr × Obj)} {σ : List (Option V)} {H H' : Hp} {s : Shared} {h' : Heap}
theorem Cx.Ok.nofr (ok : X.Ok) {b : Addr} {o : Obj} (e : X.base.get? b = some o) : b ∉ X.fs := fun hb => by
  have := (ok.funs.mem hb).1
  rw [e] at this; cases this
theorem Inv.bs (I : Inv X pins σ H s) : ∀ b o, X.base.get? b = some o → s.heap.get? b = some o ∧ H b = none := fun b o e =>
  ⟨I.base.keep b o (I.ok.bs b o e).1 (I.ok.bs b o e).2 (I.ok.nofr e) (I.ok.noex b o e), I.base.free b o (I.ok.bs b o e).1 (I.ok.bs b o e).2 (I.ok.noex b o e)⟩
theorem Inv.bk (I : Inv X pins σ H s) : ∀ b o, X.base.get? b = some o → s.heap.get? b = some o := fun b o e => (I.bs b o e).1
theorem Inv.mod (I : Inv X pins σ H s) : Mod X.K X.mg X.base := I.ok.mod
theorem Inv.kIn (I : Inv X pins σ H s) : X.K.In s.heap := I.ok.mod.kin.keeps I.bk
theorem Inv.lt (I : Inv X pins σ H s) : X.env.locals < s.heap.objs.size := let ⟨_, hn, _⟩ := I.loc; hn.lt
theorem Inv.sz (I : Inv X pins σ H s) : X.s_0.heap.objs.size ≤ s.heap.objs.size := Nat.le_trans I.ok.above (Nat.le_of_lt I.lt)
theorem Inv.nofs (I : Inv X pins σ H s) {a : Addr} (h : s.heap.objs.size ≤ a) : a ∉ X.fs := fun hb => by
  obtain ⟨_, o, ho, _⟩ := I.ok.funs.mem hb
  exact absurd (Nat.lt_of_lt_of_le (Heap.lt_size ho) (Nat.le_trans I.sz h)) (Nat.lt_irrefl _)
theorem Inv.cne (I : Inv X pins σ H s) : ∀ x c, X.env.cells.lookup x = some c → c ≠ X.env.locals := fun x c e z => by
  obtain ⟨v, o, ho, hd⟩ := I.cell x c e
  obtain ⟨m, ⟨o', es, ep, ho', hd', _⟩, _⟩ := I.loc
  rw [z, ho'] at ho; cases ho; rw [hd'] at hd; cases hd
theorem Inv.funs (I : Inv X pins σ H s) : s.heap.FunFrames X.base X.outer := by
  have all : ∀ (l : List Env), (∀ b ∈ frs l, b ∈ X.fs) → X.s_0.heap.FunFrames X.base l → s.heap.FunFrames X.base l := by
    intro l
    induction l with
    | nil => intro _ _; trivial
    | cons env r ih =>
      intro hs hl
      obtain ⟨hk, ⟨L, o, hf, hn, ho, hd⟩, hr⟩ := hl
      have hL : L ∈ X.fs := hs L (by unfold frs; rw [List.filterMap_cons, hf]; exact List.mem_cons_self)
      obtain ⟨sl, e⟩ := I.base.slot L o ho (I.ok.frf L hL) hL fun z => I.ok.exfs L z hL
      exact ⟨hk, ⟨L, _, hf, hn, e, hd⟩, ih (fun b hb => hs b (by unfold frs; rw [List.filterMap_cons, hf]; exact List.mem_cons_of_mem _ hb)) hr⟩
  exact all X.outer (fun _ hb => hb) I.ok.funs
theorem Inv.stack (I : Inv X pins σ H s) : s.heap.FunFrames X.base X.stack := by
  rcases I.ok.stk with e | ⟨e, hf⟩
  · rw [e]; exact I.funs
  · rw [e]
    obtain ⟨m, hn, _⟩ := I.loc
    refine .cons (by rw [I.ok.kind]; decide) hf hn ?_ I.funs
    exact Heap.get?_none_of_le (Nat.le_trans I.ok.bsz I.ok.above)
theorem Inv.stkSub (I : Inv X pins σ H s) : ∀ b ∈ frs X.stack, b ∈ X.env.locals :: X.fs := fun b hb => by
  rcases I.ok.stk with e | ⟨e, hf⟩
  · rw [e] at hb; exact List.mem_cons_of_mem _ hb
  · rw [e] at hb
    unfold frs at hb
    rw [List.filterMap_cons, hf] at hb
    exact hb
theorem Inv.stkFree (I : Inv X pins σ H s) : ∀ b ∈ frs X.stack, H b = none := fun b hb => by
  rcases List.mem_cons.mp (I.stkSub b hb) with e | hb
  · rw [e]; exact I.free
  · obtain ⟨_, o, ho, _⟩ := I.ok.funs.mem hb
    exact I.base.free b o ho (I.ok.frf b hb) fun z => I.ok.exfs b z hb
theorem Inv.step {g' : Array GenState} {t' : Nat} {d' : Drawn} {ch : List Addr} (I : Inv X pins σ H s)
    (hch : ∀ b ∈ ch, (b ∈ X.ex ∨ X.s_0.heap.objs.size ≤ b) ∧ b ≠ X.env.locals ∧ (∀ x c, X.env.cells.lookup x = some c → c ≠ b) ∧ ∀ p ∈ X.pn ++ pins, p.1 ≠ b)
    (keep : ∀ b o, b ≠ X.env.locals → b ∉ X.fs → b ∉ ch → s.heap.get? b = some o → H b = none → h'.get? b = some o)
    (slot : ∀ b o, b ≠ X.env.locals → b ∈ X.fs → b ∉ ch → s.heap.get? b = some o → H b = none → ∃ sl, h'.get? b = some { o with slots := sl }) (free : ∀ b o, b ∉ ch → s.heap.get? b = some o → H b = none → H' b = none)
    (there : ∀ b o, b ∉ ch → s.heap.get? b = some o → ∃ o', h'.get? b = some o')
    (tups : ∀ b xs, H b = some (.tup xs) → H' b = some (.tup xs)) (frzs : ∀ b o u, H b = some (.frz o u) → H' b = some (.frz o u)) (tbls : ∀ b ps, H b = some (.tbl ps) → ∃ more, H' b = some (.tbl (ps ++ more)))
    (ns : ∀ m, s.heap.Ns X.env.locals m → h'.Ns X.env.locals m) (hok : HOk X.prog X.w H' h') (hg : AllBare g') :
    Inv X pins σ H' { s with heap := h', gens := g', drawn := d', toks := t' } := by
  have neL : ∀ b o, X.s_0.heap.get? b = some o → b ≠ X.env.locals := fun b o e => Nat.ne_of_lt (Nat.lt_of_lt_of_le (Heap.lt_size e) I.ok.above)
  have neC : ∀ b o, X.s_0.heap.get? b = some o → b ∉ X.ex → b ∉ ch := fun b o e hx hb => by
    rcases (hch b hb).1 with z | z
    · exact hx z
    · exact absurd (Nat.lt_of_lt_of_le (Heap.lt_size e) z) (Nat.lt_irrefl _)
  have cellK : ∀ x c, X.env.cells.lookup x = some c → ∀ v, s.heap.IsCell c v → h'.IsCell c v := fun x c e v ⟨o, ho, hd⟩ => by
    have nch : c ∉ ch := fun z => (hch c z).2.2.1 x c e rfl
    by_cases hc : c ∈ X.fs
    · obtain ⟨sl, q⟩ := slot c o (I.cne x c e) hc nch ho (I.freeC x c e)
      exact ⟨_, q, hd⟩
    · exact ⟨o, keep c o (I.cne x c e) hc nch ho (I.freeC x c e), hd⟩
  refine ⟨I.ok, I.os, hg, ⟨fun b o e n hb hx => ?_, fun b o e n hb hx => ?_, fun b o e n hx => ?_, fun b o e hx => ?_, fun b xs e => tups b xs (I.base.tups b xs e), fun b o xs e => frzs b o xs (I.base.frzs b o xs e), fun b ps e => ?_⟩, ?_, fun x c e => ?_, ?_, fun x c e => ?_, fun p hp => ?_, hok, I.len⟩
  · exact keep b o (neL b o e) hb (neC b o e hx) (I.base.keep b o e n hb hx) (I.base.free b o e n hx)
  · obtain ⟨sl, e1⟩ := I.base.slot b o e n hb hx
    obtain ⟨sl', e2⟩ := slot b _ (neL b o e) hb (neC b o e hx) e1 (I.base.free b o e n hx)
    exact ⟨sl', e2⟩
  · obtain ⟨o', e1⟩ := I.base.there b o e hx
    exact free b o' (neC b o e hx) e1 (I.base.free b o e n hx)
  · obtain ⟨o', e1⟩ := I.base.there b o e hx
    exact there b o' (neC b o e hx) e1
  · obtain ⟨m1, e1⟩ := I.base.tbls b ps e
    obtain ⟨m2, e2⟩ := tbls b _ e1
    exact ⟨m1 ++ m2, by rw [e2, Array.append_assoc]⟩
  · obtain ⟨m, hn, hl⟩ := I.loc
    refine ⟨m, ns m hn, fun i x v e1 e2 e3 => ?_⟩
    obtain ⟨u, r, l⟩ := hl i x v e1 e2 e3
    refine ⟨u, r, ?_⟩
    rcases l with l | ⟨k, c, e, z⟩
    · exact .inl l
    · exact .inr ⟨k, c, e, cellK x c e _ z⟩
  · obtain ⟨v, z⟩ := I.cell x c e
    exact ⟨v, cellK x c e v z⟩
  · obtain ⟨m, ⟨o, _, _, ho, _⟩, _⟩ := I.loc
    exact free _ o (fun z => (hch _ z).2.1 rfl) ho I.free
  · obtain ⟨v, o, ho, hd⟩ := I.cell x c e
    exact free c o (fun z => (hch c z).2.2.1 x c e rfl) ho (I.freeC x c e)
  · obtain ⟨e, n, ne, nf, d⟩ := I.pin p hp
    have nch : p.1 ∉ ch := fun z => (hch p.1 z).2.2.2 p hp rfl
    exact ⟨keep p.1 p.2 ne nf nch e n, free p.1 p.2 nch e n, ne, nf, d⟩
theorem Inv.un {t' : Nat} (I : Inv X pins σ H s) (u : Un X.fs [] H H' s.heap h') (hok : HOk X.prog X.w H' h') : Inv X pins σ H' { s with heap := h', toks := t' } := by
  obtain ⟨m, ⟨o, es, ep, ho, r⟩, _⟩ := id I.loc
  obtain ⟨sl, hL⟩ := u.any ho I.free (by simp)
  exact I.step (g' := s.gens) (d' := s.drawn) (ch := []) (fun _ z => nomatch z) (fun b o _ hb _ e n => u.keep b o e n hb (by simp)) (fun b o _ hb _ e n => u.slot b o e n hb (by simp)) (fun b o _ e n => u.free b o e n (by simp)) (fun b o _ e => u.there b o e (by simp)) u.tups u.frzs u.tbls (fun m' hm => by
    obtain ⟨o', es', ep', ho', r'⟩ := hm
    rw [ho] at ho'; cases ho'
    exact ⟨_, es', ep', hL, r'⟩) hok I.bare
theorem Inv.call {g' : Array GenState} {t' : Nat} {d' : Drawn} {ch : List Addr} (I : Inv X pins σ H s) (u : Un (frs X.stack) ch H H' s.heap h') (hok : HOk X.prog X.w H' h') (hg : AllBare g')
    (hch : ∀ b ∈ ch, (b ∈ X.ex ∨ X.s_0.heap.objs.size ≤ b) ∧ b ≠ X.env.locals ∧ (∀ x c, X.env.cells.lookup x = some c → c ≠ b) ∧ ∀ p ∈ X.pn ++ pins, p.1 ≠ b) :
    Inv X pins σ H' { s with heap := h', gens := g', drawn := d', toks := t' } := by
  obtain ⟨m, ⟨o, es, ep, ho, r⟩, _⟩ := id I.loc
  obtain ⟨sl, hL⟩ := u.any ho I.free fun z => (hch _ z).2.1 rfl
  exact I.step (ch := ch) hch (fun b o hL hb hc e n => u.keep b o e n (fun z => (List.mem_cons.mp (I.stkSub b z)).elim hL hb) hc) (fun b o _ _ hc e n => u.any e n hc) (fun b o hc e n => u.free b o e n hc) (fun b o hc e => u.there b o e hc) u.tups u.frzs u.tbls (fun m' hm => by
    obtain ⟨o', es', ep', ho', r'⟩ := hm
    rw [ho] at ho'; cases ho'
    exact ⟨_, es', ep', hL, r'⟩) hok hg
theorem Inv.turned {t' : Nat} {it : Addr} (I : Inv X pins σ H s) (k : ∀ b o, b ≠ it → s.heap.get? b = some o → h'.get? b = some o) (hn : H it = none) (hL : it ≠ X.env.locals)
    (h1 : it ∈ X.ex ∨ X.s_0.heap.objs.size ≤ it) (h2 : ∀ x c, X.env.cells.lookup x = some c → c ≠ it) (h3 : ∀ p ∈ X.pn ++ pins, p.1 ≠ it) : Inv X pins σ H { s with heap := h', toks := t' } := by
  have nit : ∀ b u, H b = some u → b ≠ it := fun b u e z => by rw [z, hn] at e; cases e
  refine I.step (g' := s.gens) (d' := s.drawn) (ch := [it]) (fun b hb => ?_) (fun b o _ _ hc e _ => k b o (fun z => hc (by simp [z])) e) (fun b o _ _ hc e _ => ⟨o.slots, k b o (fun z => hc (by simp [z])) e⟩) (fun _ _ _ _ n => n)
    (fun b o hc e => ⟨o, k b o (fun z => hc (by simp [z])) e⟩) (fun _ _ e => e) (fun _ _ _ e => e) (fun b ps e => ⟨#[], by rw [e]; simp⟩) (fun m hm => ?_) (fun b u e => ?_) I.bare
  · have e : b = it := by simpa using hb
    subst e
    exact ⟨h1, hL, h2, h3⟩
  · obtain ⟨o, es, ep, ho, r⟩ := hm
    exact ⟨o, es, ep, k _ o (Ne.symm hL) ho, r⟩
  · refine (I.hok b u e).stay (fun c v hc q => k c v ?_ q) (fun _ q => q) fun _ _ q => q
    rcases hc with z | z
    · rw [z]; exact nit b u e
    · exact nit c _ z
theorem Inv.tok (I : Inv X pins σ H s) (t : Nat) : Inv X pins σ H { s with toks := t } := I.un (h' := s.heap) (t' := t) Un.refl I.hok
theorem Inv.kept {t' : Nat} (I : Inv X pins σ H s) (k : ∀ b u, s.heap.get? b = some u → h'.get? b = some u) : Inv X pins σ H { s with heap := h', toks := t' } := I.un (Un.kept k) (I.hok.kept k)
theorem Inv.laid {a : Addr} {o : HO} {t' : Nat} (I : Inv X pins σ H s) (k : ∀ b u, s.heap.get? b = some u → h'.get? b = some u) (hp : s.heap.objs.size ≤ a) (new : ObjOk X.prog X.w (upd H a o) h' a o) :
    Inv X pins σ (upd H a o) { s with heap := h', toks := t' } := I.un (Un.laid k hp (I.hok.fresh hp)) (I.hok.laid k hp new)
theorem Inv.write {x e : Addr} {o : HO} {t' : Nat} (I : Inv X pins σ H s) (mu : Mut (H x)) (he : e = x ∨ H e = some (.own x)) (k : ∀ b u, b ≠ e → s.heap.get? b = some u → h'.get? b = some u) (heo : ∃ u, h'.get? e = some u)
    (new : ObjOk X.prog X.w (upd H x o) h' x o) : Inv X pins σ (upd H x o) { s with heap := h', toks := t' } := I.un (Un.write mu he k heo) (I.hok.write mu he k heo new)
theorem Inv.weak {σ' : List (Option V)} (I : Inv X pins σ H s) (hl : σ'.length = σ.length) (w : ∀ (i : Nat) v, σ'[i]? = some (some v) → σ[i]? = some (some v)) : Inv X pins σ' H s :=
  ⟨I.ok, I.os, I.bare, I.base, let ⟨m, hn, hl'⟩ := I.loc; ⟨m, hn, fun i x v e1 e2 e3 => hl' i x v e1 (w i v e2) e3⟩, I.cell, I.free, I.freeC, I.pin, I.hok, hl.trans I.len⟩
theorem Inv.pins_of {pins' : List (Addr × Obj)} (I : Inv X pins σ H s) (h : ∀ p ∈ pins', s.heap.get? p.1 = some p.2 ∧ H p.1 = none ∧ p.1 ≠ X.env.locals ∧ p.1 ∉ X.fs ∧ ∀ v, p.2.data ≠ .cell v) : Inv X pins' σ H s :=
  ⟨I.ok, I.os, I.bare, I.base, I.loc, I.cell, I.free, I.freeC, fun p hp => (List.mem_append.mp hp).elim (fun z => I.pin p (List.mem_append_left _ z)) (h p), I.hok, I.len⟩
theorem nodup_ix {N : List Str} (hN : N.Nodup) {i j : Nat} {x : Str} (a : N[i]? = some x) (b : N[j]? = some x) : i = j := by
  obtain ⟨h1, e1⟩ := List.getElem?_eq_some_iff.mp a
  obtain ⟨h2, e2⟩ := List.getElem?_eq_some_iff.mp b
  exact (List.getElem_inj hN).mp (e1.trans e2.symm)
theorem store_ok2 {M : Model} {A : Around} {E : Value → Shared → Prop} {i : Nat} {x : Str} {v : V} {u : Value} {Q : Unit → Shared → Prop} (I : Inv X pins σ H s) (hN : X.N.Nodup) (hi : X.N[i]? = some x) (hx : Loc X.env.scope x) (r : RelV v u)
    (h : ∀ s', Inv X pins (σ.set i (some v)) H s' → (∃ a, Heap.SameBut a s.heap s'.heap ∧ (a = X.env.locals ∨ X.env.cells.lookup x = some a)) → Q () s') (hf : X.fn x = true ∨ X.env.scope.names.lookup x = some .local := by first | exact .inl rfl | exact .inr rfl | assumption) : wpAny M A (storeName X.env x u) Q E s := by
  obtain ⟨m, hn, hl⟩ := id I.loc
  have hcls : (X.env.scope.kind == .class || (X.env.scope.kind == .module && X.env.locals != X.env.globals)) = false := by rw [I.ok.kind]; rfl
  have hiσ : i < σ.length := by rw [I.len]; exact (List.getElem?_eq_some_iff.mp hi).1
  have cne := I.cne
  have tracked : ∀ {a : Addr} {h' : Heap}, (∃ o, s.heap.get? a = some o ∧ H a = none) → Heap.SameBut a s.heap h' → HOk X.prog X.w H h' := fun {a h'} ha hs b ob e => by
    obtain ⟨_, _, hfree⟩ := ha
    refine (I.hok b ob e).stay (fun c w' hc q => (hs.2 c ?_).trans q) (fun _ q => q) fun _ _ q => q
    rintro rfl
    rcases hc with rfl | hc
    · rw [hfree] at e; cases e
    · rw [hfree] at hc; cases hc
  rcases hx with hk | hk
  · refine wpAny_storeName_local hk hn (fun h' hn' hs => ?_) hcls
    obtain ⟨oL, _, _, hoL, _⟩ := id hn
    refine h _ ⟨I.ok, I.os, I.bare, ⟨fun b o e n hb hx => ?_, fun b o e n hb hx => ?_, I.base.free, fun b o e hx => ?_, I.base.tups, I.base.frzs, I.base.tbls⟩, ⟨_, hn', fun j y v' e1 e2 e3 => ?_⟩, fun y c e => ?_, I.free, I.freeC, fun p hp => ?_, tracked ⟨oL, hoL, I.free⟩ hs, by simpa using I.len⟩ ⟨_, hs, .inl rfl⟩
    · exact (hs.2 b (Nat.ne_of_lt (Nat.lt_of_lt_of_le (Heap.lt_size e) I.ok.above))).trans (I.base.keep b o e n hb hx)
    · obtain ⟨sl, e1⟩ := I.base.slot b o e n hb hx
      exact ⟨sl, (hs.2 b (Nat.ne_of_lt (Nat.lt_of_lt_of_le (Heap.lt_size e) I.ok.above))).trans e1⟩
    · obtain ⟨o', e1⟩ := I.base.there b o e hx
      exact ⟨o', (hs.2 b (Nat.ne_of_lt (Nat.lt_of_lt_of_le (Heap.lt_size e) I.ok.above))).trans e1⟩
    · by_cases hj : j = i
      · subst hj
        rw [hi] at e1; cases e1
        rw [List.getElem?_set_self hiσ] at e2
        cases e2
        exact ⟨u, r, .inl ⟨hk, by simp⟩⟩
      · rw [List.getElem?_set_ne (Ne.symm hj)] at e2
        obtain ⟨u', r', q⟩ := hl j y v' e1 e2 e3
        refine ⟨u', r', ?_⟩
        rcases q with ⟨k, e⟩ | ⟨k, c, e, z⟩
        · refine .inl ⟨k, ?_⟩
          have : y ≠ x := fun e => hj (nodup_ix hN e1 (e ▸ hi))
          simp [this, e]
        · exact .inr ⟨k, c, e, z.sameBut hs (cne y c e)⟩
    · obtain ⟨w', z⟩ := I.cell y c e
      exact ⟨w', z.sameBut hs (cne y c e)⟩
    · obtain ⟨e, n, ne, nf, d⟩ := I.pin p hp
      exact ⟨(hs.2 p.1 ne).trans e, n, ne, nf, d⟩
  · have hfn : X.fn x = true := by
      rcases hf with z | z
      · exact z
      · rw [z] at hk; cases hk
    obtain ⟨c, hc⟩ := I.ok.has x (.inl hk)
    obtain ⟨w', z⟩ := I.cell x c hc
    refine wpAny_storeName_cell I.ok.kind hk hc z (fun h' hc' hs => ?_)
    obtain ⟨oc, hoc, hocd⟩ := id z
    refine h { s with heap := h' } ⟨I.ok, I.os, I.bare, ⟨fun b o e n hb hx => ?_, fun b o e n hb hx => ?_, I.base.free, fun b o e hx => ?_, I.base.tups, I.base.frzs, I.base.tbls⟩, ⟨m, hn.sameBut hs (Ne.symm (cne x c hc)), fun j y v' e1 e2 e3 => ?_⟩, fun y c' e => ?_, I.free, I.freeC, fun p hp => ?_, tracked ⟨oc, hoc, I.freeC x c hc⟩ hs, by simpa using I.len⟩ ⟨c, hs, .inr hc⟩
    · exact (hs.2 b (Nat.ne_of_lt (Nat.lt_of_lt_of_le (Heap.lt_size e) (I.ok.cab x c hfn hc)))).trans (I.base.keep b o e n hb hx)
    · obtain ⟨sl, e1⟩ := I.base.slot b o e n hb hx
      exact ⟨sl, (hs.2 b (Nat.ne_of_lt (Nat.lt_of_lt_of_le (Heap.lt_size e) (I.ok.cab x c hfn hc)))).trans e1⟩
    · obtain ⟨o', e1⟩ := I.base.there b o e hx
      exact ⟨o', (hs.2 b (Nat.ne_of_lt (Nat.lt_of_lt_of_le (Heap.lt_size e) (I.ok.cab x c hfn hc)))).trans e1⟩
    · by_cases hj : j = i
      · subst hj
        rw [hi] at e1; cases e1
        rw [List.getElem?_set_self hiσ] at e2
        cases e2
        exact ⟨u, r, .inr ⟨.inl hk, c, hc, hc'⟩⟩
      · rw [List.getElem?_set_ne (Ne.symm hj)] at e2
        obtain ⟨u', r', q⟩ := hl j y v' e1 e2 e3
        refine ⟨u', r', ?_⟩
        rcases q with q | ⟨k, c', e, z'⟩
        · exact .inl q
        · refine .inr ⟨k, c', e, z'.sameBut hs ?_⟩
          rintro rfl
          exact hj (nodup_ix hN e1 (I.ok.inj _ _ _ e hc ▸ hi))
    · by_cases hcc : c' = c
      · subst hcc; exact ⟨_, hc'⟩
      · obtain ⟨w2, z2⟩ := I.cell y c' e
        exact ⟨w2, z2.sameBut hs hcc⟩
    · obtain ⟨e, n, ne, nf, d⟩ := I.pin p hp
      refine ⟨(hs.2 p.1 ?_).trans e, n, ne, nf, d⟩
      intro q
      rw [q, hoc] at e
      have q' : oc = p.2 := Option.some.inj e
      exact d w' (by rw [← q']; exact hocd)
theorem store_ok {M : Model} {A : Around} {E : Value → Shared → Prop} {i : Nat} {x : Str} {v : V} {u : Value} {Q : Unit → Shared → Prop} (I : Inv X pins σ H s) (hN : X.N.Nodup) (hi : X.N[i]? = some x) (hx : Loc X.env.scope x) (r : RelV v u)
    (h : ∀ s', Inv X pins (σ.set i (some v)) H s' → Q () s') (hf : X.fn x = true ∨ X.env.scope.names.lookup x = some .local := by first | exact .inl rfl | exact .inr rfl | assumption) : wpAny M A (storeName X.env x u) Q E s :=
  store_ok2 I hN hi hx r (fun s' I' _ => h s' I') hf
theorem Inv.call' {s' : Shared} {ch : List Addr} (I : Inv X pins σ H s) (ho : s'.os = s.os) (u : Un (frs X.stack) ch H H' s.heap s'.heap) (hok : HOk X.prog X.w H' s'.heap) (hg : AllBare s'.gens)
    (hch : ∀ b ∈ ch, (b ∈ X.ex ∨ X.s_0.heap.objs.size ≤ b) ∧ b ≠ X.env.locals ∧ (∀ x c, X.env.cells.lookup x = some c → c ≠ b) ∧ ∀ p ∈ X.pn ++ pins, p.1 ≠ b) : Inv X pins σ H' s' := by
  obtain ⟨h', g', d', t', o'⟩ := s'
  have e : o' = s.os := ho
  subst e
  exact I.call (g' := g') (t' := t') (d' := d') u hok hg hch
end
abbrev XK := Value → Option Addr → Hp → Prop
abbrev St := List (Option V)
abbrev VK := V → Hp → Prop
abbrev TE := St → Hp → VK → Prop
abbrev TT := St → Hp → (Bool → Hp → Prop) → Prop
abbrev TA := St → Hp → (List V → Hp → Prop) → Prop
structure Ends where
  nx : St → Hp → Prop
  rt : VK
  bk : St → Hp → Prop := fun _ _ => False
  ct : St → Hp → Prop := fun _ _ => False
abbrev TS := Ends → St → Hp → Prop
def EP (X : Cx) (pins : List (Addr × Obj)) (σ : St) (Q : VK) (u : Value) (s' : Shared) : Prop := ∃ v H', Inv X pins σ H' s' ∧ RelV v u ∧ Q v H'
def TP (X : Cx) (pins : List (Addr × Obj)) (σ : St) (Q : Bool → Hp → Prop) (b : Bool) (s' : Shared) : Prop := ∃ H', Inv X pins σ H' s' ∧ Q b H'
def AP (X : Cx) (pins : List (Addr × Obj)) (σ : St) (Q : List V → Hp → Prop) (us : List Value) (s' : Shared) : Prop := ∃ vs H', Inv X pins σ H' s' ∧ Vals vs us ∧ Q vs H'
def SP (X : Cx) (pins : List (Addr × Obj)) (D : Ends) (f : Flow) (s' : Shared) : Prop :=
  match f with
  | .next => ∃ σ' H', Inv X pins σ' H' s' ∧ D.nx σ' H'
  | .brk => ∃ σ' H', Inv X pins σ' H' s' ∧ D.bk σ' H'
  | .cont => ∃ σ' H', Inv X pins σ' H' s' ∧ D.ct σ' H'
  | .ret u => ∃ v σ' H', Inv X pins σ' H' s' ∧ RelV v u ∧ D.rt v H'
def PE (X : Cx) (e : Expr) (t : TE) : Prop :=
  ∀ (pins : List (Addr × Obj)) (s : Shared) (σ : St) (H : Hp) (Q : VK), Inv X pins σ H s → t σ H Q → wpAny (model X.prog X.w) X.A (eval e X.env) (EP X pins σ Q) X.xe s
def PT (X : Cx) (e : Expr) (t : TT) : Prop :=
  ∀ (pins : List (Addr × Obj)) (s : Shared) (σ : St) (H : Hp) (Q : Bool → Hp → Prop), Inv X pins σ H s → t σ H Q → wpAny (model X.prog X.w) X.A (isTrue e X.env (eval e X.env)) (TP X pins σ Q) X.xe s
def PW (X : Cx) (e : Expr) (t : TT) : Prop :=
  ∀ (whole : Sem Value) (pins : List (Addr × Obj)) (s : Shared) (σ : St) (H : Hp) (Q : Bool → Hp → Prop), Inv X pins σ H s → t σ H Q → wpAny (model X.prog X.w) X.A (isTrue e X.env whole) (TP X pins σ Q) X.xe s
theorem PW.pt {X : Cx} {e : Expr} {t : TT} (h : PW X e t) : PT X e t := h _
def PA (X : Cx) (es : List Expr) (t : TA) : Prop :=
  ∀ (pos : Pos) (pins : List (Addr × Obj)) (s : Shared) (σ : St) (H : Hp) (Q : List V → Hp → Prop), Inv X pins σ H s → t σ H Q → wpAny (model X.prog X.w) X.A (spliced (backTo pos (starEach es X.env))) (AP X pins σ Q) X.xe s
def PS (X : Cx) (st : Stmt) (t : TS) : Prop :=
  ∀ (pins : List (Addr × Obj)) (s : Shared) (σ : St) (H : Hp) (D : Ends), Inv X pins σ H s → t D σ H → wpAny (model X.prog X.w) X.A (exec st X.env) (SP X pins D) X.xe s
def PSs (X : Cx) (st : List Stmt) (t : TS) : Prop :=
  ∀ (pins : List (Addr × Obj)) (s : Shared) (σ : St) (H : Hp) (D : Ends), Inv X pins σ H s → t D σ H → wpAny (model X.prog X.w) X.A (execs st X.env) (SP X pins D) X.xe s
theorem thn {α : Type} {t : Sem α} {Q Q' : α → Shared → Prop} {M : Model} {A : Around} {E : Value → Shared → Prop} {s : Shared} (h : wpAny M A t Q E s) (hQ : ∀ a s, Q a s → Q' a s) : wpAny M A t Q' E s := wpAny_mono h hQ fun _ _ x => x
end L2
namespace L2
open PySem PySem.Spec PyProof.Rows
section
variable {X : Cx}
def tVar (i : Nat) : TE := fun σ H Q => ∃ v, σ[i]? = some (some v) ∧ Q v H
def tC (v : V) : TE := fun _ H Q => Q v H
theorem pe_var {i : Nat} {x : Str} {pos : Pos} (hN : X.N[i]? = some x) (hv : Vis X.env.scope x) (hd : (x == ("__debug__" : Str)) = false := by decide) (hcd : (x == ("__classdict__" : Str)) = false := by decide) : PE X (.Name x pos) (tVar i) := by
  intro pins s σ H Q I h
  obtain ⟨v, e, h⟩ := h
  obtain ⟨m, hn, hl⟩ := I.loc
  obtain ⟨u, r, l⟩ := hl i x v hN e hv
  have fin : EP X pins σ Q u s := ⟨v, H, I, r, h⟩
  rcases l with ⟨hk, hm⟩ | ⟨hk, c, hc, hcell⟩
  · exact wpAny_Name (wpAny_loadName_local I.ok.kind hk hn hm fin) hd
  · rcases hk with hk | hk
    · exact wpAny_Name (wpAny_loadName_cell I.ok.kind hk hc hcell fin) hd
    · exact wpAny_Name (wpAny_loadName_free I.ok.kind hk hc hcell fin hcd) hd
theorem pe_int {i j pos} : PE X (.Constant (.int i) j pos) (tC (.int i)) := fun _ _ _ H _ I h => wpAny_Constant_int ⟨.int i, H, I.tok _, ⟨_, rfl⟩, h⟩
theorem pe_bl {b j pos} : PE X (.Constant (.bool b) j pos) (tC (.bl b)) := fun _ _ _ H _ I h => Constant_bool ⟨.bl b, H, I, rfl, h⟩
def Gl (X : Cx) (x : Str) : Prop := X.env.kindOf x = some .globalImplicit
theorem ld_glob {E : Value → Shared → Prop} {pins : List (Addr × Obj)} {s : Shared} {σ : St} {H : Hp} {x : Str} {u : Value} {pos : Pos} {Q : Value → Shared → Prop} (I : Inv X pins σ H s) (hg : Gl X x) (hm : X.mg x = some u) (h : Q u s)
    (hd : (x == ("__debug__" : Str)) = false := by decide) : wpAny (model X.prog X.w) X.A (eval (.Name x pos) X.env) Q E s :=
  Calls.Name_function_global I.ok.kind hg (Calls.loadGlobal_global (by rw [I.ok.glob]; exact I.mod.glob.keeps I.bk) hm h) hd
theorem ld_blt {E : Value → Shared → Prop} {pins : List (Addr × Obj)} {s : Shared} {σ : St} {H : Hp} {x : Str} {u : Value} {pos : Pos} {Q : Value → Shared → Prop} (I : Inv X pins σ H s) (hg : Gl X x) (hm : X.mg x = none) (hv : bootBuiltins x = some u) (h : Q u s)
    (hn : x ≠ "__name__" := by decide) (hd : (x == ("__debug__" : Str)) = false := by decide) : wpAny (model X.prog X.w) X.A (eval (.Name x pos) X.env) Q E s := by
  obtain ⟨mb, h1, h2⟩ := I.mod.blt
  exact Calls.Name_function_global I.ok.kind hg (Calls.loadGlobal_builtin (by rw [I.ok.glob]; exact I.mod.glob.keeps I.bk) hm (by rw [I.ok.blt]; exact h1.keeps I.bk) ((h2 x hn).trans hv) h) hd
theorem pe_glob {x : Str} {v : V} {u : Value} {pos : Pos} (hg : Gl X x) (hm : X.mg x = some u) (r : RelV v u) (hd : (x == ("__debug__" : Str)) = false := by decide) : PE X (.Name x pos) (tC v) :=
  fun _ _ _ H _ I h => ld_glob I hg hm ⟨v, H, I, r, h⟩ hd
variable {a b : Expr} {ta tb : TE} {pos : Pos}
def tB (t : TE) : TT := fun σ H Q => t σ H fun x H1 => ∃ c, x = .bl c ∧ Q c H1
theorem pt_val {e : Expr} {t : TE} (h : PE X e t) (he : ∀ whole, isTrue e X.env whole = (do let v ← whole; standAt e.pos; holding [v] (truthy v)) := by intro _; rfl) : PT X e (tB t) := by
  intro pins s σ H Q I hw
  refine isTrue_plain (thn (h pins s σ H _ I hw) fun v s1 ⟨x, H1, I1, r1, q1⟩ => ?_) (he _)
  obtain ⟨d, rfl, q⟩ := q1
  cases r1
  exact wpAny_truthy_bool ⟨H1, I1, q⟩
variable {tA tB' : TT} {rest : List Expr}
def tAnd (t u : TT) : TT := fun σ H Q => t σ H fun c H1 => if c = true then u σ H1 Q else Q false H1
def tNot (t : TT) : TT := fun σ H Q => t σ H fun c H1 => Q (!c) H1
theorem pw_and1 (ha : PT X a tA) : PW X (.BoolOp .And [a] pos) tA := by
  intro wh pins s σ H Q I h
  refine isTrue_and (thn (ha pins s σ H Q I h) fun c s1 e => ?_)
  cases c with
  | true => exact isTrue_and_nil e
  | false => exact e
theorem pw_and (ha : PT X a tA) (hb : PW X (.BoolOp .And (b :: rest) pos) tB') : PW X (.BoolOp .And (a :: b :: rest) pos) (tAnd tA tB') := by
  intro wh pins s σ H Q I h
  refine isTrue_and (thn (ha pins s σ H _ I h) fun c s1 ⟨H1, I1, q1⟩ => ?_)
  cases c with
  | true => exact hb wh pins s1 σ H1 Q I1 q1
  | false => exact ⟨H1, I1, q1⟩
theorem pt_not (ha : PT X a tA) : PT X (.UnaryOp .Not a pos) (tNot tA) := by
  intro pins s σ H Q I h
  exact isTrue_not (ha pins s σ H (fun c H1 => Q (!c) H1) I h)
def tAndV (ta tb : TE) : TE := fun σ H Q => ta σ H fun x H1 => ∃ c, x = .bl c ∧ if c = true then tb σ H1 Q else Q (.bl false) H1
theorem pe_one {op} {t : TE} (h : PE X a t) : PE X (.BoolOp op [a] pos) t := fun pins s σ H Q I hw => BoolOp_one (h pins s σ H Q I hw)
theorem pe_and (ha : PE X a ta) (hb : PE X (.BoolOp .And (b :: rest) pos) tb) : PE X (.BoolOp .And (a :: b :: rest) pos) (tAndV ta tb) := by
  intro pins s σ H Q I h
  refine BoolOp_and (thn (ha pins s σ H _ I h) fun v s1 ⟨x, H1, I1, r1, q1⟩ => ?_)
  obtain ⟨c, rfl, q1⟩ := q1
  cases r1
  refine wpAny_truthy_bool ?_
  cases c with
  | true => exact hb pins s1 σ H1 Q I1 q1
  | false => exact ⟨.bl false, H1, I1, rfl, q1⟩
def tIf (t : TT) (ta tb : TE) : TE := fun σ H Q => t σ H fun c H1 => if c = true then ta σ H1 Q else tb σ H1 Q
theorem pe_ifExp {c : Expr} (hc : PT X c tA) (ha : PE X a ta) (hb : PE X b tb) : PE X (.IfExp c a b pos) (tIf tA ta tb) := by
  intro pins s σ H Q I h
  refine wpAny_IfExp (thn (hc pins s σ H _ I h) fun d s1 ⟨H1, I1, q1⟩ => ?_)
  cases d with
  | true => exact ha pins s1 σ H1 Q I1 q1
  | false => exact hb pins s1 σ H1 Q I1 q1
end
end L2
namespace L2
open PySem PySem.Spec PyProof.Rows
def SqL (K : PySem.W.Frag) (H : Hp) (a : Addr) (xs : List V) : Prop :=
  Rd H a (.lst xs) ∨
    ∃ (o : Obj) (its : Array Value) (n : Nat), K.lookup a = some o ∧ o.cls = .type "list" ∧ o.dict = none ∧ o.data = .seq its n ∧ its.size ≤ sizeLine ∧ Vals xs its.toList
def SqT (K : PySem.W.Frag) (H : Hp) (a : Addr) (xs : List V) : Prop :=
  Rd H a (.tup xs) ∨
    ∃ (o : Obj) (its : Array Value) (n : Nat), K.lookup a = some o ∧ o.cls = .type "tuple" ∧ o.data = .seq its n ∧ its.size ≤ sizeLine ∧ Vals xs its.toList
def absV : Value → Option V
  | .none => some .non
  | .bool b => some (.bl b)
  | .int i _ => some (.int i)
  | .str x _ => some (.str x)
  | .bytes b _ => some (.byt b)
  | .float b _ => some (.flt b)
  | .ref a => some (.ref a)
  | .type n => some (.ty n)
  | _ => none
theorem RelV.abs {x : V} {u : Value} (r : RelV x u) : absV u = some x := by
  cases x with
  | non => cases r; rfl
  | bl _ => cases r; rfl
  | int _ => obtain ⟨t, rfl⟩ := r; rfl
  | str _ => obtain ⟨t, rfl⟩ := r; rfl
  | byt _ => obtain ⟨t, rfl⟩ := r; rfl
  | flt _ => obtain ⟨t, rfl⟩ := r; rfl
  | ref _ => cases r; rfl
  | ty _ => cases r; rfl
theorem RelV.inj {x y : V} {u : Value} (r : RelV x u) (q : RelV y u) : x = y := Option.some.inj (r.abs.symm.trans q.abs)
theorem Vals.inj : ∀ {xs ys : List V} {us : List Value}, Vals xs us → Vals ys us → xs = ys
  | _, _, _, .nil, .nil => rfl
  | _, _, _, .cons r t, .cons r' t' => by rw [r.inj r', Vals.inj t t']
section
variable {X : Cx} {pins : List (Addr × Obj)} {σ : St} {H : Hp} {s : Shared} {a : Addr} {xs ys : List V}
theorem SqL.of {K : PySem.W.Frag} (h : H a = some (.lst xs)) : SqL K H a xs := .inl (.inl h)
theorem SqT.of {K : PySem.W.Frag} (h : H a = some (.tup xs)) : SqT K H a xs := .inl (.inl h)
theorem Inv.list (I : Inv X pins σ H s) (h : SqL X.K H a xs) : ∃ its : List Value, Vals xs its ∧ PlainL s.heap a its.toArray ∧ xs.length ≤ sizeLine := by
  rcases h with h | ⟨o, its, n, hk, hc, hd, hs, hz, r⟩
  · obtain ⟨z, its, n, r, e⟩ := h.ok I.hok
    exact ⟨its, r, ⟨_, n, e, rfl, rfl, rfl⟩, z⟩
  · refine ⟨its.toList, r, ⟨o, n, I.kIn a o hk, hc, hd, by simpa using hs⟩, ?_⟩
    have e := r.length
    simp only [Array.length_toList] at e
    omega
theorem Inv.tuple (I : Inv X pins σ H s) (h : SqT X.K H a xs) : ∃ its : List Value, Vals xs its ∧ IsTup s.heap a its.toArray ∧ xs.length ≤ sizeLine := by
  rcases h with h | ⟨o, its, n, hk, hc, hs, hz, r⟩
  · obtain ⟨z, its, r, p⟩ := h.ok I.hok
    exact ⟨its, r, p, z⟩
  · refine ⟨its.toList, r, ⟨o, I.kIn a o hk, hc, n, by simpa using hs⟩, ?_⟩
    have e := r.length
    simp only [Array.length_toList] at e
    omega
theorem Inv.list_inj (I : Inv X pins σ H s) (h : SqL X.K H a xs) (h' : SqL X.K H a ys) : xs = ys := by
  obtain ⟨its, r, ⟨o, n, e, _, _, d⟩, _⟩ := I.list h
  obtain ⟨its', r', ⟨o', n', e', _, _, d'⟩, _⟩ := I.list h'
  rw [e] at e'; cases e'
  rw [d] at d'
  injection d' with d1 _
  have : its = its' := by simpa using congrArg Array.toList d1
  subst this
  exact r.inj r'
theorem Inv.tuple_inj (I : Inv X pins σ H s) (h : SqT X.K H a xs) (h' : SqT X.K H a ys) : xs = ys := by
  obtain ⟨its, r, ⟨o, e, _, n, d⟩, _⟩ := I.tuple h
  obtain ⟨its', r', ⟨o', e', _, n', d'⟩, _⟩ := I.tuple h'
  rw [e] at e'; cases e'
  rw [d] at d'
  injection d' with d1 _
  have : its = its' := by simpa using congrArg Array.toList d1
  subst this
  exact r.inj r'
end
abbrev Cx.wish (X : Cx) (E : Value → Shared → Prop) : Cx := { X with xe := E }
abbrev Cx.nox (X : Cx) : Cx := X.wish fun _ _ => False
theorem Cx.Ok.wish {X : Cx} (ok : X.Ok) (E : Value → Shared → Prop) : (X.wish E).Ok :=
  ⟨ok.mod, ok.kind, ok.glob, ok.blt, ok.above, ok.inj, ok.has, ok.cab, ok.hd, ok.frames, ok.stk, ok.exf, ok.bs, ok.bsz, ok.noex, ok.exfs, ok.funs, ok.frf⟩
theorem Cx.Ok.unwish {X : Cx} {E : Value → Shared → Prop} (ok : (X.wish E).Ok) : X.Ok :=
  ⟨ok.mod, ok.kind, ok.glob, ok.blt, ok.above, ok.inj, ok.has, ok.cab, ok.hd, ok.frames, ok.stk, ok.exf, ok.bs, ok.bsz, ok.noex, ok.exfs, ok.funs, ok.frf⟩
section
variable {X : Cx} {pins : List (Addr × Obj)} {σ : St} {H : Hp} {s : Shared} {E : Value → Shared → Prop}
theorem Inv.wish (I : Inv X pins σ H s) (E : Value → Shared → Prop) : Inv (X.wish E) pins σ H s := ⟨I.ok.wish E, I.os, I.bare, I.base, I.loc, I.cell, I.free, I.freeC, I.pin, I.hok, I.len⟩
theorem Inv.unwish (I : Inv (X.wish E) pins σ H s) : Inv X pins σ H s := ⟨I.ok.unwish, I.os, I.bare, I.base, I.loc, I.cell, I.free, I.freeC, I.pin, I.hok, I.len⟩
theorem SP.unwish {D : Ends} {f : Flow} {s' : Shared} (h : SP (X.wish E) pins D f s') : SP X pins D f s' := by
  cases f with
  | next => obtain ⟨σ', H', I, q⟩ := h; exact ⟨σ', H', I.unwish, q⟩
  | brk => obtain ⟨σ', H', I, q⟩ := h; exact ⟨σ', H', I.unwish, q⟩
  | cont => obtain ⟨σ', H', I, q⟩ := h; exact ⟨σ', H', I.unwish, q⟩
  | ret u => obtain ⟨v, σ', H', I, r, q⟩ := h; exact ⟨v, σ', H', I.unwish, r, q⟩
theorem PSs.nox {st : List Stmt} {t : TS} (h : PSs X.nox st t) : PSs X st t := fun pins s σ H D I hw =>
  wpAny_mono (h pins s σ H D (I.wish _) hw) (fun _ _ q => q.unwish) fun _ _ z => False.elim z
end
section
variable {X : Cx} {st : Stmt} {rest : List Stmt} {t u : TS} {e : Expr} {te : TE} {pos : Pos}
def tNext : TS := fun D σ H => D.nx σ H
def tSeq (t u : TS) : TS := fun D σ H => t { D with nx := u D } σ H
theorem pss_nil : PSs X [] tNext := fun _ _ σ H _ I h => wpAny_execs_nil ⟨σ, H, I, h⟩
theorem pss_cons (h1 : PS X st t) (h2 : PSs X rest u) : PSs X (st :: rest) (tSeq t u) := by
  intro pins s σ H D I h
  refine wpAny_execs_cons (thn (h1 pins s σ H { D with nx := u D } I h) fun f s1 q => ?_)
  cases f with
  | next =>
    obtain ⟨σ', H', I', q⟩ := q
    exact h2 pins s1 σ' H' D I' q
  | ret v => exact q
  | brk => exact q
  | cont => exact q
theorem pss_one (h1 : PS X st t) : PSs X [st] t := by
  intro pins s σ H D I h
  refine wpAny_execs_cons (thn (h1 pins s σ H D I h) fun f s1 q => ?_)
  cases f with
  | next => exact wpAny_execs_nil q
  | ret v => exact q
  | brk => exact q
  | cont => exact q
theorem Inv.quiet {pins : List (Addr × Obj)} {σ : St} {H : Hp} {s : Shared} (I : Inv X pins σ H s) : interactive X.env = false := by simp [interactive, I.ok.kind]
def tDrop (te : TE) : TS := fun D σ H => te σ H fun _ H1 => D.nx σ H1
theorem ps_expr (he : PE X e te) (hs : swapsWith e none pos.line X.env = pure false := by rfl) : PS X (.Expr e pos) (tDrop te) := by
  intro pins s σ H D I h
  exact wpAny_Expr_any (thn (he pins s σ H _ I h) fun v s1 ⟨x, H1, I1, r1, q1⟩ => ⟨σ, H1, I1, q1⟩) I.quiet hs
def tRet (te : TE) : TS := fun D σ H => te σ H D.rt
theorem ps_ret (he : PE X e te) : PS X (.Return (some e) pos) (tRet te) := by
  intro pins s σ H D I h
  exact wpAny_Return_some (thn (he pins s σ H _ I h) fun v s1 ⟨x, H1, I1, r1, q1⟩ => ⟨x, σ, H1, I1, r1, q1⟩)
def tIfS (c : TT) (t u : TS) : TS := fun D σ H => c σ H fun b H1 => if b = true then t D σ H1 else u D σ H1
theorem ps_if {c : Expr} {a b : List Stmt} {tc : TT} (hc : PT X c tc) (ha : PSs X a t) (hb : PSs X b u) : PS X (.If c a b pos) (tIfS tc t u) := by
  intro pins s σ H D I h
  refine wpAny_If (thn (hc pins s σ H _ I h) fun d s1 ⟨H1, I1, q1⟩ => ?_)
  cases d with
  | true => exact ha pins s1 σ H1 D I1 q1
  | false => exact hb pins s1 σ H1 D I1 q1
end
abbrev TG := V → St → Hp → (St → Hp → Prop) → Prop
abbrev TGs := List V → St → Hp → (St → Hp → Prop) → Prop
def PG (X : Cx) (target : Expr) (t : TG) : Prop :=
  ∀ (pins : List (Addr × Obj)) (s : Shared) (σ : St) (H : Hp) (v : V) (u : Value) (Q : St → Hp → Prop), Inv X pins σ H s → RelV v u → t v σ H Q →
    wpAny (model X.prog X.w) X.A (assign target X.env u) (fun _ s' => ∃ σ' H', Inv X pins σ' H' s' ∧ Q σ' H') X.xe s
def PGs (X : Cx) (ts : List Expr) (t : TGs) : Prop :=
  ∀ (pins : List (Addr × Obj)) (s : Shared) (σ : St) (H : Hp) (vs : List V) (us : List Value) (Q : St → Hp → Prop), Inv X pins σ H s → Vals vs us → t vs σ H Q →
    wpAny (model X.prog X.w) X.A (assignInOrder ((assignEach ts X.env).map (·.2)) us) (fun _ s' => ∃ σ' H', Inv X pins σ' H' s' ∧ Q σ' H') X.xe s
abbrev TSet := V → V → V → Hp → (Hp → Prop) → Prop
def PSet (X : Cx) (t : TSet) : Prop :=
  ∀ (pins : List (Addr × Obj)) (s : Shared) (σ : St) (H : Hp) (o i v : V) (ov iv u : Value) (Q : Hp → Prop), Inv X pins σ H s → RelV o ov → RelV i iv → RelV v u → t o i v H Q →
    wpAny (model X.prog X.w) X.A (setItem ov iv u) (fun _ s' => ∃ H', Inv X pins σ H' s' ∧ Q H') X.xe s
abbrev TIp := V → V → Hp → VK → Prop
def PIp (X : Cx) (op : Operator) (t : TIp) : Prop :=
  ∀ (pins : List (Addr × Obj)) (s : Shared) (σ : St) (H : Hp) (x y : V) (v u : Value) (Q : VK), Inv X pins σ H s → RelV x v → RelV y u → t x y H Q →
    wpAny (model X.prog X.w) X.A (inplaceOp op v u) (EP X pins σ Q) X.xe s
section
variable {X : Cx} {pos : Pos}
def gName (i : Nat) : TG := fun v σ H Q => Q (σ.set i (some v)) H
theorem pg_name {i : Nat} {x : Str} (hN : X.N.Nodup) (hi : X.N[i]? = some x) (hx : Loc X.env.scope x) (hf : X.fn x = true ∨ X.env.scope.names.lookup x = some .local := by first | exact .inl rfl | exact .inr rfl | assumption) : PG X (.Name x pos) (gName i) := by
  intro pins s σ H v u Q I r h
  exact wpAny_assign_Name (store_ok I hN hi hx r (fun s' I' => ⟨_, H, I', h⟩) hf)
def gNil : TGs := fun vs σ H Q => vs = [] ∧ Q σ H
def gCons (t : TG) (u : TGs) : TGs := fun vs σ H Q => ∃ v r, vs = v :: r ∧ t v σ H fun σ' H' => u r σ' H' Q
theorem pgs_nil : PGs X [] gNil := by
  intro pins s σ H vs us Q I r h
  obtain ⟨e, h⟩ := h
  subst e
  cases r
  exact assignInOrder_nil ⟨σ, H, I, h⟩
theorem pgs_cons {e : Expr} {es : List Expr} {t : TG} {u : TGs} (h1 : PG X e t) (h2 : PGs X es u)
    (hs : (assignEach (e :: es) X.env).map (·.2) = assign e X.env :: (assignEach es X.env).map (·.2) := by rfl) : PGs X (e :: es) (gCons t u) := by
  intro pins s σ H vs us Q I r h
  obtain ⟨v, vr, e1, h⟩ := h
  subst e1
  cases r with
  | cons r rr =>
    rw [hs]
    refine assignInOrder_cons (thn (h1 pins s σ H _ _ _ I r h) fun _ s1 ⟨σ1, H1, I1, q1⟩ => ?_)
    exact h2 pins s1 σ1 H1 _ _ Q I1 rr q1
def gTup (K : PySem.W.Frag) (n : Nat) (t : TGs) : TG := fun v σ H Q => ∃ a xs, v = .ref a ∧ SqT K H a xs ∧ xs.length = n ∧ t xs σ H Q
theorem pg_tup {es : List Expr} {k : Nat} {t : TGs} {n : Nat} (hc : X.calm = true) (h : PGs X es t)
    (hn : (assignEach es X.env).length = n := by rfl) (hst : (assignEach es X.env).findIdx? (·.1) = none := by rfl) : PG X (.Tuple es k pos) (gTup X.K n t) := by
  intro pins s σ H v u Q I r hw
  obtain ⟨a, xs, e1, hq, hl, hw⟩ := hw
  subst e1
  cases r
  obtain ⟨its, rv, ht, hz⟩ := I.tuple hq
  refine assign_Tuple_tuple (I.ok.hd hc) ht (by simp [hn, ← hl, rv.length]) hst fun h' hx => ?_
  have I1 : Inv X pins σ H { s with heap := h' } := I.kept (t' := s.toks) fun b o e => hx b o (Nat.ne_of_lt (Heap.lt_size e)) e
  exact h pins _ σ H xs _ Q I1 (by simpa using rv) hw
def gSub (to ti : TE) (t : TSet) : TG := fun v σ H Q => to σ H fun o H1 => ti σ H1 fun i H2 => t o i v H2 fun H3 => Q σ H3
theorem pg_sub {o i : Expr} {to ti : TE} {t : TSet} (ho : PE X o to) (hi : PE X i ti) (hs : PSet X t)
    (ha : ∀ v, assign (.Subscript o i pos) X.env v = (do
      let ov ← holding [v] (eval o X.env)
      let iv ← holding [v, ov] (eval i X.env)
      standAt pos
      holding [v, ov, iv] (setItem ov iv v)
      release [v, ov, iv] []) := by intro _; rfl) : PG X (.Subscript o i pos) (gSub to ti t) := by
  intro pins s σ H v u Q I r h
  rw [ha]
  refine wpAny_bind (wpAny_holding (thn (ho pins s σ H _ I h) fun ov s1 ⟨x, H1, I1, r1, q1⟩ => ?_))
  refine wpAny_bind (wpAny_holding (thn (hi pins s1 σ H1 _ I1 q1) fun iv s2 ⟨y, H2, I2, r2, q2⟩ => ?_))
  refine wpAny_bind (wpAny_standAt (wpAny_bind (wpAny_holding (thn (hs pins s2 σ H2 x y v ov iv u _ I2 r1 r2 r q2) fun _ s3 ⟨H3, I3, q3⟩ => ?_))))
  exact wpAny_release ⟨σ, H3, I3, q3⟩
def tAsg (te : TE) (g : TG) : TS := fun D σ H => te σ H fun x H1 => g x σ H1 D.nx
theorem ps_asg {tg e : Expr} {te : TE} {g : TG} (he : PE X e te) (hg : PG X tg g) (hs : swapsWithSole [tg] e pos.line X.env = pure false := by rfl) (hw : swappedStores [tg] e X.env = pure none := by rfl)
    (h1 : (assignEach [tg] X.env).map (·.2) = [assign tg X.env] := by rfl) : PS X (.Assign [tg] e pos) (tAsg te g) := by
  intro pins s σ H D I h
  refine wpAny_Assign_stores (thn (he pins s σ H _ I h) fun v s1 ⟨x, H1, I1, r1, q1⟩ => ?_) hs hw
  rw [h1]
  exact thn (hg pins s1 σ H1 x v _ I1 r1 q1) fun _ s2 q => q
theorem ps_set {i : Nat} {x : Str} {e : Expr} {te : TE} {pos' : Pos} (hN : X.N.Nodup) (hi : X.N[i]? = some x) (hx : Loc X.env.scope x) (he : PE X e te) (hs : swapsWith e (some (.Name x pos')) pos.line X.env = pure false := by rfl) (hf : X.fn x = true ∨ X.env.scope.names.lookup x = some .local := by first | exact .inl rfl | exact .inr rfl | assumption) :
    PS X (.Assign [.Name x pos'] e pos) (tAsg te (gName i)) := by
  intro pins s σ H D I h
  refine wpAny_Assign_Name (thn (he pins s σ H _ I h) fun v s1 ⟨y, H1, I1, r1, q1⟩ => ?_) hs
  exact store_ok I1 hN hi hx r1 (fun s2 I2 => ⟨_, H1, I2, q1⟩) hf
def tAug (i : Nat) (te : TE) (ti : TIp) : TS := fun D σ H => ∃ x, σ[i]? = some (some x) ∧ te σ H fun y H1 => ti x y H1 fun z H2 => D.nx (σ.set i (some z)) H2
theorem ps_aug {i : Nat} {x : Str} {e : Expr} {te : TE} {op : Operator} {ti : TIp} {pos' : Pos} (hN : X.N.Nodup) (hi : X.N[i]? = some x) (hx : Loc X.env.scope x) (he : PE X e te) (ho : PIp X op ti) (hf : X.fn x = true ∨ X.env.scope.names.lookup x = some .local := by first | exact .inl rfl | exact .inr rfl | assumption) :
    PS X (.AugAssign (.Name x pos') op e pos) (tAug i te ti) := by
  intro pins s σ H D I h
  obtain ⟨v, e1, h⟩ := h
  obtain ⟨m, hn, hl⟩ := I.loc
  have vis : Vis X.env.scope x := by rcases hx with k | k; exact .inl k; exact .inr (.inl k)
  obtain ⟨u, r, l⟩ := hl i x v hi e1 vis
  refine wpAny_AugAssign_Name ?_
  have go : wpAny (model X.prog X.w) X.A (eval e X.env) (fun w s₂ => wpAny (model X.prog X.w) X.A (inplaceOp op u w) (fun r s₃ => wpAny (model X.prog X.w) X.A (storeName X.env x r) (fun _ => SP X pins D .next) X.xe s₃) X.xe s₂) X.xe s := by
    refine thn (he pins s σ H _ I h) fun w s1 ⟨y, H1, I1, r1, q1⟩ => ?_
    refine thn (ho pins s1 σ H1 v y u w _ I1 r r1 q1) fun z s2 ⟨zv, H2, I2, r2, q2⟩ => ?_
    exact store_ok I2 hN hi hx r2 (fun s3 I3 => ⟨_, H2, I3, q2⟩) hf
  rcases l with ⟨hk, hm⟩ | ⟨hk, c, hc, hcell⟩
  · exact wpAny_loadName_local I.ok.kind hk hn hm go
  · rcases hk with hk | hk
    · exact wpAny_loadName_cell I.ok.kind hk hc hcell go
    · rcases hx with k | k
      · have : X.env.scope.names.lookup x = some .free := hk
        rw [k] at this; cases this
      · have : X.env.scope.names.lookup x = some .free := hk
        rw [k] at this; cases this
end
section
variable {X : Cx} {pos : Pos}
def tWhile (c : TT) (tb : TS) : TS := fun D σ H => ∃ W : Nat → St → Hp → Prop, (∃ m, W m σ H) ∧ ∀ m σ H, W m σ H →
  c σ H fun b H1 => if b = true then ∃ N : St → Hp → Prop, (∀ σ' H', N σ' H' → ∃ m', m' < m ∧ W m' σ' H') ∧ tb { D with nx := N, ct := N, bk := D.nx } σ H1 else D.nx σ H1
theorem ps_while {c : Expr} {body : List Stmt} {tc : TT} {tb : TS} (hp : PassesOwn (model X.prog X.w) X.A X.env X.xe) (hc : PT X c tc) (hb : PSs X body tb) : PS X (.While c body [] pos) (tWhile tc tb) := by
  intro pins s σ H D I h
  obtain ⟨W, ⟨m0, w0⟩, turn⟩ := h
  refine wpAny_While (codeAny_whileLoop (fun n s' => ∃ σ' H', Inv X pins σ' H' s' ∧ W n σ' H') ?_ m0 ⟨σ, H, I, w0⟩)
  rintro n s1 ⟨σ1, H1, I1, w1⟩
  refine wpAny_passesOwn hp (thn (hc pins s1 σ1 H1 _ I1 (turn n σ1 H1 w1)) fun b s2 ⟨H2, I2, q2⟩ => ?_)
  cases b with
  | true =>
    obtain ⟨N, hN, q2⟩ := q2
    rw [if_pos rfl]
    refine wpAny_passesOwn hp (thn (hb pins s2 σ1 H2 _ I2 q2) fun f s3 q3 => ?_)
    cases f with
    | next =>
      obtain ⟨σ3, H3, I3, n3⟩ := q3
      obtain ⟨m', hm, w3⟩ := hN σ3 H3 n3
      exact ⟨m', hm, σ3, H3, I3, w3⟩
    | cont =>
      obtain ⟨σ3, H3, I3, n3⟩ := q3
      obtain ⟨m', hm, w3⟩ := hN σ3 H3 n3
      exact ⟨m', hm, σ3, H3, I3, w3⟩
    | brk => exact q3
    | ret v => exact q3
  | false =>
    rw [if_neg Bool.false_ne_true]
    exact wpAny_execs_nil ⟨σ1, H2, I2, q2⟩
end
structure It where
  go : Nat → Hp → Prop
  yld : Nat → Hp → V → Hp → Prop
  stop : Nat → Hp → Prop
def FpOk (X : Cx) (pins : List (Addr × Obj)) (H : Hp) (b : Addr) : Prop :=
  H b = none ∧ b ≠ X.env.locals ∧ b ∉ X.fs ∧ (b ∈ X.ex ∨ X.s_0.heap.objs.size ≤ b) ∧ (∀ x c, X.env.cells.lookup x = some c → c ≠ b) ∧ ∀ p ∈ X.pn ++ pins, p.1 ≠ b
theorem Inv.fpOk {X : Cx} {pins : List (Addr × Obj)} {σ : St} {H H' : Hp} {s : Shared} {b : Addr} (I : Inv X pins σ H s) (hb : s.heap.objs.size ≤ b) (hn : H' b = none) : FpOk X pins H' b := by
  refine ⟨hn, Nat.ne_of_gt (Nat.lt_of_lt_of_le I.lt hb), I.nofs hb, .inr (Nat.le_trans I.sz hb), fun x c e z => ?_, fun p hp z => ?_⟩
  · obtain ⟨v, q⟩ := I.cell x c e
    exact absurd (Nat.lt_of_lt_of_le q.lt (by rw [z]; exact hb)) (Nat.lt_irrefl _)
  · exact absurd (Nat.lt_of_lt_of_le (Heap.lt_size (I.pin p hp).1) (by rw [z]; exact hb)) (Nat.lt_irrefl _)
structure Turn (P : Program) (w : World) (K : PySem.W.Frag) (tg : Expr) (J : It) (fp : List Addr) (it : Addr) (tn : Nat → Heap → Prop) : Prop where
  mem : it ∈ fp
  obj : ∀ i h, tn i h → ∀ b ∈ fp, ∃ o, h.get? b = some o ∧ ∀ v, o.data ≠ .cell v
  keep : ∀ i h h', tn i h → (∀ b ∈ fp, ∀ o, h.get? b = some o → h'.get? b = some o) → tn i h'
  item : ∀ (X : Cx), X.prog = P → X.w = w → X.K = K → X.calm = true → ∀ (i : Nat) (pins : List (Addr × Obj)) (s : Shared) (σ : St) (H : Hp) (E : Value → Shared → Prop), Inv X pins σ H s → (∀ b ∈ fp, FpOk X pins H b) → tn i s.heap → J.go i H →
    wpAny (model P w) X.A (pyNext (.ref it)) (fun r s1 => ∃ u, r = some u ∧
      wpAny (model P w) X.A (letOwnedTupleGo tg (.ref it) u) (fun _ s2 => ∃ x H', Inv X pins σ H' s2 ∧ RelV x u ∧ J.yld i H x H' ∧ tn (i + 1) s2.heap ∧ ∀ b ∈ fp, H' b = none) E s1) E s
  done : ∀ (X : Cx), X.prog = P → X.w = w → X.K = K → X.calm = true → ∀ (i : Nat) (pins : List (Addr × Obj)) (s : Shared) (σ : St) (H : Hp) (E : Value → Shared → Prop), Inv X pins σ H s → (∀ b ∈ fp, FpOk X pins H b) → tn i s.heap → J.stop i H →
    wpAny (model P w) X.A (pyNext (.ref it)) (fun r s1 => r = none ∧ Inv X pins σ H s1) E s
  self : ∀ (A : Around) (i : Nat) (s : Shared) (Q : Value → Shared → Prop) (E : Value → Shared → Prop), tn i s.heap → Q (.ref it) s → wpAny (model P w) A (pyIter (.ref it)) Q E s
abbrev TI := St → Hp → (It → Hp → Prop) → Prop
def PIE (X : Cx) (pins : List (Addr × Obj)) (σ : St) (tg : Expr) (R : It → Hp → Prop) (itv : Value) (s2 : Shared) : Prop :=
  ∃ (it : Addr) (fp : List Addr) (tn : Nat → Heap → Prop) (J : It) (H' : Hp), itv = .ref it ∧ Inv X pins σ H' s2 ∧ Turn X.prog X.w X.K tg J fp it tn ∧ tn 0 s2.heap ∧ (∀ b ∈ fp, FpOk X pins H' b) ∧ R J H'
def PI (X : Cx) (tg iter : Expr) (wi : TI) : Prop :=
  ∀ (pins : List (Addr × Obj)) (s : Shared) (σ : St) (H : Hp) (R : It → Hp → Prop), Inv X pins σ H s → wi σ H R →
    wpAny (model X.prog X.w) X.A (eval iter X.env) (fun v s1 => wpAny (model X.prog X.w) X.A (pyIter v) (PIE X pins σ tg R) X.xe s1) X.xe s
theorem go_of {M : Model} {A : Around} {E : Value → Shared → Prop} {s : Shared} {tg : Expr} {it : Addr} {u : Value} {o : Obj} {n : String} {vs : Array Value} {Q : Unit → Shared → Prop} (ho : s.heap.get? it = some o) (hc : o.cls = .type n) (hd : o.data = .fields vs)
    (hn : ["enumerate", "zip", "dict_itemiterator", "dict_reverseitemiterator", "odict_iterator", "itertools.zip_longest", "itertools.pairwise"].contains n = false) (hQ : Q () s) : wpAny M A (letOwnedTupleGo tg (.ref it) u) Q E s := by
  unfold letOwnedTupleGo
  cases tg <;> first
    | exact wpAny_pure hQ
    | (cases u <;> first
        | exact wpAny_pure hQ
        | (refine wpAny_bind (wpAny_load ho ?_)
           rw [hc, hd]
           show wpAny M A (if (["enumerate", "zip", "dict_itemiterator", "dict_reverseitemiterator", "odict_iterator", "itertools.zip_longest", "itertools.pairwise"].contains n && vs[0]? == some (rawInt _)) = true then _ else _) Q E s
           rw [if_neg (by intro h; rw [hn, Bool.false_and] at h; cases h)]
           exact wpAny_pure hQ))
def Itl (K : PySem.W.Frag) (a : Addr) : It :=
  ⟨fun i H => ∃ xs x, SqL K H a xs ∧ xs[i]? = some x, fun i H x H' => H' = H ∧ ∀ xs, SqL K H a xs → xs[i]? = some x, fun i H => ∃ xs, SqL K H a xs ∧ xs.length ≤ i⟩
def Itt (K : PySem.W.Frag) (a : Addr) : It :=
  ⟨fun i H => ∃ xs x, SqT K H a xs ∧ xs[i]? = some x, fun i H x H' => H' = H ∧ ∀ xs, SqT K H a xs → xs[i]? = some x, fun i H => ∃ xs, SqT K H a xs ∧ xs.length ≤ i⟩
def Itr (lo : Int) (n : Nat) : It := ⟨fun i _ => i < n, fun i H x H' => H' = H ∧ x = .int (lo + i), fun i _ => n ≤ i⟩
theorem turn_list {P : Program} {w : World} {K : PySem.W.Frag} {tg : Expr} (a it : Addr) : Turn P w K tg (Itl K a) [it] it (fun i h => h.IsListIter it a i) where
  mem := by simp
  obj := fun i h st b hb => by
    have e : b = it := by simpa using hb
    subst e
    obtain ⟨o, e, c, d⟩ := st
    exact ⟨o, e, fun v z => by rw [d] at z; cases z⟩
  keep := fun i h h' st k => st.at fun o e => k it (by simp) o e
  item := by
    intro X hP hw hK hc i pins s σ H E I hf st hg
    subst hP hw hK
    obtain ⟨xs, x, hq, hx⟩ := hg
    obtain ⟨its, rv, p, hz⟩ := I.list hq
    obtain ⟨u, hu, ru⟩ := rv.get hx
    obtain ⟨f0, f1, f2, f3, f4, f5⟩ := hf it (by simp)
    refine wpAny_pyNext_list_item st p.isList (x := u) (by simpa using hu) fun h' st' sb => ?_
    have I1 : Inv X pins σ H { s with heap := h' } := I.turned (t' := s.toks) (fun b o hb e => (sb.2 b hb).trans e) f0 f1 f3 f4 f5
    obtain ⟨o, e, c, d⟩ := id st'
    exact ⟨u, rfl, go_of (s := { s with heap := h' }) e c d (by decide) ⟨x, H, I1, ru, ⟨rfl, fun ys hy => by rw [I.list_inj hy hq]; exact hx⟩, st', fun b hb => (hf b hb).1⟩⟩
  done := by
    intro X hP hw hK hc i pins s σ H E I hf st hg
    subst hP hw hK
    obtain ⟨xs, hq, hx⟩ := hg
    obtain ⟨its, rv, p, hz⟩ := I.list hq
    obtain ⟨f0, f1, f2, f3, f4, f5⟩ := hf it (by simp)
    have hl := rv.length
    exact wpAny_pyNext_list_end (I.ok.hd hc) st p.isList (by simp; omega) fun h' eb => ⟨rfl, I.turned (t' := s.toks) (fun b o hb e => eb b o hb e) f0 f1 f3 f4 f5⟩
  self := fun _ _ _ _ _ st h => wpAny_pyIter_listiter st h
theorem turn_tuple {P : Program} {w : World} {K : PySem.W.Frag} {tg : Expr} (a it : Addr) : Turn P w K tg (Itt K a) [it] it (fun i h => h.IsTupleIter it a i) where
  mem := by simp
  obj := fun i h st b hb => by
    have e : b = it := by simpa using hb
    subst e
    obtain ⟨o, e, c, d⟩ := st
    exact ⟨o, e, fun v z => by rw [d] at z; cases z⟩
  keep := fun i h h' st k => st.at fun o e => k it (by simp) o e
  item := by
    intro X hP hw hK hc i pins s σ H E I hf st hg
    subst hP hw hK
    obtain ⟨xs, x, hq, hx⟩ := hg
    obtain ⟨its, rv, p, hz⟩ := I.tuple hq
    obtain ⟨u, hu, ru⟩ := rv.get hx
    obtain ⟨f0, f1, f2, f3, f4, f5⟩ := hf it (by simp)
    refine wpAny_pyNext_tuple_item st (show s.heap.IsTuple a its.toArray from p) (x := u) (by simpa using hu) fun h' st' sb => ?_
    have I1 : Inv X pins σ H { s with heap := h' } := I.turned (t' := s.toks) (fun b o hb e => (sb.2 b hb).trans e) f0 f1 f3 f4 f5
    obtain ⟨o, e, c, d⟩ := id st'
    exact ⟨u, rfl, go_of (s := { s with heap := h' }) e c d (by decide) ⟨x, H, I1, ru, ⟨rfl, fun ys hy => by rw [I.tuple_inj hy hq]; exact hx⟩, st', fun b hb => (hf b hb).1⟩⟩
  done := by
    intro X hP hw hK hc i pins s σ H E I hf st hg
    subst hP hw hK
    obtain ⟨xs, hq, hx⟩ := hg
    obtain ⟨its, rv, p, hz⟩ := I.tuple hq
    obtain ⟨f0, f1, f2, f3, f4, f5⟩ := hf it (by simp)
    have hl := rv.length
    exact wpAny_pyNext_tuple_end (I.ok.hd hc) st (show s.heap.IsTuple a its.toArray from p) (by simp; omega) fun h' eb => ⟨rfl, I.turned (t' := s.toks) (fun b o hb e => eb b o hb e) f0 f1 f3 f4 f5⟩
  self := fun _ _ _ _ _ st h => wpAny_pyIter_tupleiter st h
theorem turn_range {P : Program} {w : World} {K : PySem.W.Frag} {tg : Expr} (it : Addr) (lo : Int) (n : Nat) : Turn P w K tg (Itr lo n) [it] it (fun i h => IsRangeIter h it (lo + (i : Nat) * 1) ((n : Int) - (i : Nat)) 1) where
  mem := by simp
  obj := fun i h st b hb => by
    have e : b = it := by simpa using hb
    subst e
    exact ⟨_, st, fun v z => by
      have z' : Data.fields _ = Data.cell v := z
      cases z'⟩
  keep := fun i h h' st k => k it (by simp) _ st
  item := by
    intro X hP hw hK hc i pins s σ H E I hf st hg
    subst hP hw hK
    obtain ⟨f0, f1, f2, f3, f4, f5⟩ := hf it (by simp)
    have W := Walks.range (prog := X.prog) (w := X.w) (I.ok.hd hc) it lo 1 n
    refine W.item i s _ _ hg st fun v h' tk hv st' kk => ?_
    obtain ⟨t, rfl⟩ := hv
    have I1 : Inv X pins σ H { s with heap := h', toks := tk } := I.turned (fun b o hb e => kk b o (by simpa using hb) e) f0 f1 f3 f4 f5
    refine ⟨_, rfl, go_of (s := { s with heap := h', toks := tk }) (n := "range_iterator") st' rfl rfl (by decide) ⟨.int (lo + i), H, I1, ⟨t, ?_⟩, ⟨rfl, rfl⟩, st', fun b hb => (hf b hb).1⟩⟩
    rw [Int.mul_one]
  done := by
    intro X hP hw hK hc i pins s σ H E I hf st hg
    subst hP hw hK
    obtain ⟨f0, f1, f2, f3, f4, f5⟩ := hf it (by simp)
    exact wpAny_pyNext_range_end (I.ok.hd hc) st (by have : n ≤ i := hg; omega) fun h' eb => ⟨rfl, I.turned (t' := s.toks) (fun b o hb e => eb b o hb e) f0 f1 f3 f4 f5⟩
  self := fun _ _ _ _ _ st h => wpAny_pyIter_rangeiter st h
end L2
namespace L2
open PySem PySem.Spec PyProof.Rows
section
variable {X : Cx} {tg : Expr}
def iList (K : PySem.W.Frag) (tl : TE) : TI := fun σ H R => tl σ H fun x H1 => ∃ a, x = .ref a ∧ (∃ xs, SqL K H1 a xs) ∧ R (Itl K a) H1
def iTup (K : PySem.W.Frag) (tl : TE) : TI := fun σ H R => tl σ H fun x H1 => ∃ a, x = .ref a ∧ (∃ xs, SqT K H1 a xs) ∧ R (Itt K a) H1
theorem pi_list {l : Expr} {tl : TE} (hl : PE X l tl) : PI X tg l (iList X.K tl) := by
  intro pins s σ H R I h
  refine thn (hl pins s σ H _ I h) fun v s1 ⟨x, H1, I1, r1, q1⟩ => ?_
  obtain ⟨a, e, ⟨xs, hq⟩, q⟩ := q1
  subst e
  cases r1
  obtain ⟨its, rv, p, hz⟩ := I1.list hq
  refine wpAny_pyIter_list p.isList ?_
  refine ⟨s1.heap.objs.size, [s1.heap.objs.size], _, _, H1, rfl, I1.kept (t' := s1.toks) fun b o e => Heap.get?_push_of_some _ e, turn_list a _, ⟨_, Heap.get?_push_size _ rfl, rfl, rfl⟩, fun b hb => ?_, q⟩
  have e : b = s1.heap.objs.size := by simpa using hb
  subst e
  exact I1.fpOk (Nat.le_refl _) (I1.hok.fresh (Nat.le_refl _))
theorem pi_tup {l : Expr} {tl : TE} (hl : PE X l tl) : PI X tg l (iTup X.K tl) := by
  intro pins s σ H R I h
  refine thn (hl pins s σ H _ I h) fun v s1 ⟨x, H1, I1, r1, q1⟩ => ?_
  obtain ⟨a, e, ⟨xs, hq⟩, q⟩ := q1
  subst e
  cases r1
  obtain ⟨its, rv, p, hz⟩ := I1.tuple hq
  refine wpAny_pyIter_tuple (show s1.heap.IsTuple a its.toArray from p) ?_
  refine ⟨s1.heap.objs.size, [s1.heap.objs.size], _, _, H1, rfl, I1.kept (t' := s1.toks) fun b o e => Heap.get?_push_of_some _ e, turn_tuple a _, ⟨_, Heap.get?_push_size _ rfl, rfl, rfl⟩, fun b hb => ?_, q⟩
  have e : b = s1.heap.objs.size := by simpa using hb
  subst e
  exact I1.fpOk (Nat.le_refl _) (I1.hok.fresh (Nat.le_refl _))
theorem range_it {pins : List (Addr × Obj)} {σ : St} {H : Hp} {s : Shared} {R : It → Hp → Prop} {E : Value → Shared → Prop} {lo hi : Int} {t u v : Tok} {tk : Nat} (I : Inv X pins σ H s) (h1 : -(2 ^ 62) ≤ lo) (h2 : lo < 2 ^ 62) (h3 : -(2 ^ 62) ≤ hi) (h4 : hi < 2 ^ 62)
    (q : R (Itr lo (hi - lo).toNat) H) : wpAny (model X.prog X.w) X.A (pyIter (.ref s.heap.objs.size)) (PIE X pins σ tg R) E { s with heap := s.heap.push { cls := .type "range", data := .fields #[.int lo t, .int hi u, .int 1 v] }, toks := tk } := by
  refine wpAny_pyIter_range (IsRange.new ..) (small_one h1 h2 h3 h4) ?_
  have I1 : Inv X pins σ H { s with heap := s.heap.push { cls := .type "range", data := .fields #[.int lo t, .int hi u, .int 1 v] }, toks := tk } := I.kept fun b o e => Heap.get?_push_of_some _ e
  refine ⟨(s.heap.push { cls := .type "range", data := .fields #[.int lo t, .int hi u, .int 1 v] }).objs.size, [(s.heap.push { cls := .type "range", data := .fields #[.int lo t, .int hi u, .int 1 v] }).objs.size], _, _, H, rfl,
    I1.kept (t' := tk) fun b o e => Heap.get?_push_of_some _ e, turn_range _ lo (hi - lo).toNat, ?_, fun b hb => ?_, q⟩
  · have e1 : lo + ((0 : Nat) : Int) * 1 = lo := by simp
    have e2 : (((hi - lo).toNat : Nat) : Int) - ((0 : Nat) : Int) = Builtin.Range.rangeSize lo hi 1 := by rw [rangeSize_one]; split <;> omega
    show IsRangeIter _ _ (lo + ((0 : Nat) : Int) * 1) ((((hi - lo).toNat : Nat) : Int) - ((0 : Nat) : Int)) 1
    rw [e1, e2]
    exact Heap.get?_push_size _ rfl
  · have e : b = (s.heap.push { cls := .type "range", data := .fields #[.int lo t, .int hi u, .int 1 v] }).objs.size := by simpa using hb
    subst e
    exact I1.fpOk (Nat.le_refl _) (I1.hok.fresh (Nat.le_refl _))
def iRng1 (ta : TA) : TI := fun σ H R => ta σ H fun vs H1 => ∃ j : Int, vs = [.int j] ∧ -(2 ^ 62) ≤ j ∧ j < 2 ^ 62 ∧ R (Itr 0 j.toNat) H1
def iRng2 (ta : TA) : TI := fun σ H R => ta σ H fun vs H1 => ∃ i j : Int, vs = [.int i, .int j] ∧ (-(2 ^ 62) ≤ i ∧ i < 2 ^ 62 ∧ -(2 ^ 62) ≤ j ∧ j < 2 ^ 62) ∧ R (Itr i (j - i).toNat) H1
theorem pi_range1 {a : Expr} {ta : TA} {p pos : Pos} (hg : Gl X "range") (hm : X.mg "range" = none) (ha : PA X [a] ta) (hs : starEach [a] X.env = [(false, eval a X.env)] := by rfl) : PI X tg (.Call (.Name "range" p) [a] [] pos) (iRng1 ta) := by
  intro pins s σ H R I h
  refine Call_ (ld_blt I hg hm boot_range (PyProof.Rows.callWith_type1 (thn (ha pos pins s σ H _ I h) fun us s1 ⟨vs, H1, I1, r1, q1⟩ => ?_) hs rfl))
  obtain ⟨j, e, q1, q2, q⟩ := q1
  subst e
  cases r1 with
  | cons r rr =>
    cases rr
    obtain ⟨t, rfl⟩ := r
    exact call_range_1 (range_it I1 (by omega) (by omega) q1 q2 (by simpa using q))
theorem pi_range2 {a b : Expr} {ta : TA} {p pos : Pos} (hg : Gl X "range") (hm : X.mg "range" = none) (ha : PA X [a, b] ta) (hs : starEach [a, b] X.env = [(false, eval a X.env), (false, eval b X.env)] := by rfl) (hs2 : starEach [b] X.env = [(false, eval b X.env)] := by rfl) :
    PI X tg (.Call (.Name "range" p) [a, b] [] pos) (iRng2 ta) := by
  intro pins s σ H R I h
  refine Call_ (ld_blt I hg hm boot_range (PyProof.Rows.callWith_type1 (thn (ha pos pins s σ H _ I h) fun us s1 ⟨vs, H1, I1, r1, q1⟩ => ?_) (by rw [hs, hs2]) (by rw [hs2]; rfl)))
  obtain ⟨i, j, e, ⟨q1, q2, q3, q4⟩, q⟩ := q1
  subst e
  cases r1 with
  | cons r rr =>
    cases rr with
    | cons r' rr =>
      cases rr
      obtain ⟨t, rfl⟩ := r
      obtain ⟨t', rfl⟩ := r'
      exact call_range_2 (range_it I1 q1 q2 q3 q4 q)
def tFor (wi : TI) (g : TG) (tb : TS) : TS := fun D σ H => wi σ H fun J H1 => ∃ W : Nat → Nat → St → Hp → Prop, (∃ m, W 0 m σ H1) ∧ ∀ i m σ H, W i m σ H →
  (J.stop i H ∧ D.nx σ H) ∨ (J.go i H ∧ ∃ N : St → Hp → Prop, (∀ σ' H', N σ' H' → ∃ m', m' < m ∧ W (i + 1) m' σ' H') ∧ ∀ x H', J.yld i H x H' → g x σ H' fun σ2 H2 => tb { D with nx := N, ct := N, bk := D.nx } σ2 H2)
def pinsAt (fp : List Addr) (h : Heap) : List (Addr × Obj) := fp.filterMap fun b => (h.get? b).map fun o => (b, o)
theorem mem_pinsAt {fp : List Addr} {h : Heap} {b : Addr} {o : Obj} (hb : b ∈ fp) (e : h.get? b = some o) : (b, o) ∈ pinsAt fp h := List.mem_filterMap.mpr ⟨b, hb, by rw [e]; rfl⟩
theorem of_pinsAt {fp : List Addr} {h : Heap} {p : Addr × Obj} (hp : p ∈ pinsAt fp h) : p.1 ∈ fp ∧ h.get? p.1 = some p.2 := by
  obtain ⟨b, hb, e⟩ := List.mem_filterMap.mp hp
  cases q : h.get? b with
  | none => rw [q] at e; cases e
  | some o =>
    rw [q] at e
    have e' : (b, o) = p := Option.some.inj e
    subst e'
    exact ⟨hb, q⟩
theorem Inv.pinned {pins : List (Addr × Obj)} {σ : St} {H : Hp} {s : Shared} {fp : List Addr} (I : Inv X pins σ H s) (hf : ∀ b ∈ fp, FpOk X pins H b) (ho : ∀ b ∈ fp, ∃ o, s.heap.get? b = some o ∧ ∀ v, o.data ≠ .cell v) : Inv X (pins ++ pinsAt fp s.heap) σ H s :=
  I.pins_of fun p hp => (List.mem_append.mp hp).elim (fun z => I.pin p (List.mem_append_right _ z)) fun z => by
    obtain ⟨hb, e⟩ := of_pinsAt z
    obtain ⟨f0, f1, f2, _⟩ := hf p.1 hb
    obtain ⟨o, e', d⟩ := ho p.1 hb
    rw [e] at e'; cases e'
    exact ⟨e, f0, f1, f2, d⟩
theorem Inv.unpinned {pins pl : List (Addr × Obj)} {σ : St} {H : Hp} {s : Shared} (I : Inv X (pins ++ pl) σ H s) : Inv X pins σ H s := I.pins_of fun p hp => I.pin p (List.mem_append_right _ (List.mem_append_left _ hp))
theorem ps_for {iter : Expr} {body : List Stmt} {wi : TI} {g : TG} {tb : TS} {pos : Pos} (hp : PassesOwn (model X.prog X.w) X.A X.env X.xe) (hc : X.calm = true) (hi : PI X tg iter wi) (hg : PG X tg g) (hb : PSs X body tb)
    (hs : ∀ x, foldedSetIterable iter X.env x = pure x := by intro _; rfl) : PS X (.For tg iter body [] pos) (tFor wi g tb) := by
  intro pins s σ H D I h
  refine wpAny_For (thn (hi pins s σ H _ I h) fun v s1 h1 => thn h1 fun itv s2 h2 => ?_) hs
  obtain ⟨it, fp, tn, J, H2, e, I2, T, st2, f2, W, ⟨m0, w0⟩, turn⟩ := h2
  subst e
  -- what stays true of the iterator's objects through the loop
  have stat : ∀ {H' : Hp}, (∀ b ∈ fp, H' b = none) → ∀ b ∈ fp, FpOk X pins H' b := fun hn b hb => ⟨hn b hb, (f2 b hb).2⟩
  refine codeAny_forLoop_any (fun n s' => ∃ i σ' H', Inv X pins σ' H' s' ∧ tn i s'.heap ∧ (∀ b ∈ fp, H' b = none) ∧ W i n σ' H') ?_ m0 ⟨0, σ, H2, I2, st2, fun b hb => (f2 b hb).1, w0⟩
  rintro n s3 ⟨i, σ3, H3, I3, st3, fr3, w3⟩
  rcases turn i n σ3 H3 w3 with ⟨stop, qn⟩ | ⟨go, N, hN, step⟩
  · refine wpAny_passesOwn hp (thn (T.done X rfl rfl rfl hc i pins s3 σ3 H3 X.xe I3 (stat fr3) st3 stop) fun r s4 ⟨hr, I4⟩ => ?_)
    subst hr
    exact wpAny_execs_nil ⟨σ3, H3, I4, qn⟩
  · refine wpAny_passesOwn hp (thn (T.item X rfl rfl rfl hc i pins s3 σ3 H3 X.xe I3 (stat fr3) st3 go) fun r s4 ⟨u, hr, h4⟩ => ?_)
    subst hr
    refine wpAny_passesOwn hp (thn h4 fun _ s5 ⟨x, H5, I5, r5, y5, st5, fr5⟩ => ?_)
    have I5' := I5.pinned (stat fr5) (T.obj _ _ st5)
    refine wpAny_passesOwn hp (thn (hg _ s5 σ3 H5 x u _ I5' r5 (step x H5 y5)) fun _ s6 ⟨σ6, H6, I6, q6⟩ => ?_)
    refine wpAny_passesOwn hp (thn (hb _ s6 σ6 H6 _ I6 q6) fun f s7 q7 => ?_)
    have again : ∀ {σ7 : St} {H7 : Hp}, Inv X (pins ++ pinsAt fp s5.heap) σ7 H7 s7 → N σ7 H7 → ∃ m, m < n ∧ ∃ i σ' H', Inv X pins σ' H' s7 ∧ tn i s7.heap ∧ (∀ b ∈ fp, H' b = none) ∧ W i m σ' H' := fun {σ7 H7} I7 n7 => by
      obtain ⟨m', hm, w7⟩ := hN σ7 H7 n7
      refine ⟨m', hm, i + 1, σ7, H7, I7.unpinned, T.keep _ _ _ st5 fun b hb o e => (I7.pin (b, o) (List.mem_append_right _ (List.mem_append_right _ (mem_pinsAt hb e)))).1, fun b hb => ?_, w7⟩
      obtain ⟨o, e, d⟩ := T.obj _ _ st5 b hb
      exact (I7.pin (b, o) (List.mem_append_right _ (List.mem_append_right _ (mem_pinsAt hb e)))).2.1
    cases f with
    | next => obtain ⟨σ7, H7, I7, n7⟩ := q7; exact again I7 n7
    | cont => obtain ⟨σ7, H7, I7, n7⟩ := q7; exact again I7 n7
    | brk => obtain ⟨σ7, H7, I7, q7⟩ := q7; exact ⟨σ7, H7, I7.unpinned, q7⟩
    | ret v => obtain ⟨x7, σ7, H7, I7, r7, q7⟩ := q7; exact ⟨x7, σ7, H7, I7.unpinned, r7, q7⟩
end
theorem for_list {K : PySem.W.Frag} {a : Addr} {xs : List V} {g : TG} {tb : TS} {D : Ends} {σ : St} {H : Hp} (Pv : Nat → St → Hp → Prop) (h0 : Pv 0 σ H) (hl : ∀ i σ H, i ≤ xs.length → Pv i σ H → SqL K H a xs)
    (hs : ∀ i x σ H, xs[i]? = some x → Pv i σ H → g x σ H fun σ2 H2 => tb { D with nx := Pv (i + 1), ct := Pv (i + 1), bk := D.nx } σ2 H2) (hd : ∀ σ H, Pv xs.length σ H → D.nx σ H) :
    ∃ W : Nat → Nat → St → Hp → Prop, (∃ m, W 0 m σ H) ∧ ∀ i m σ H, W i m σ H →
      ((Itl K a).stop i H ∧ D.nx σ H) ∨ ((Itl K a).go i H ∧ ∃ N : St → Hp → Prop, (∀ σ' H', N σ' H' → ∃ m', m' < m ∧ W (i + 1) m' σ' H') ∧ ∀ x H', (Itl K a).yld i H x H' → g x σ H' fun σ2 H2 => tb { D with nx := N, ct := N, bk := D.nx } σ2 H2) := by
  refine ⟨fun i m σ H => m = xs.length - i ∧ i ≤ xs.length ∧ Pv i σ H, ⟨xs.length, by simp, Nat.zero_le _, h0⟩, ?_⟩
  rintro i m σ H ⟨rfl, hi, p⟩
  have q := hl i σ H hi p
  by_cases hlt : i < xs.length
  · refine .inr ⟨⟨xs, xs[i], q, by simp [hlt]⟩, Pv (i + 1), fun σ' H' p' => ⟨xs.length - (i + 1), by omega, rfl, hlt, p'⟩, fun x H' y => ?_⟩
    obtain ⟨e, y⟩ := y
    subst e
    exact hs i x σ _ (y xs q) p
  · have e : i = xs.length := by omega
    subst e
    exact .inl ⟨⟨xs, q, Nat.le_refl _⟩, hd σ H p⟩
theorem for_tup {K : PySem.W.Frag} {a : Addr} {xs : List V} {g : TG} {tb : TS} {D : Ends} {σ : St} {H : Hp} (Pv : Nat → St → Hp → Prop) (h0 : Pv 0 σ H) (hl : ∀ i σ H, i ≤ xs.length → Pv i σ H → SqT K H a xs)
    (hs : ∀ i x σ H, xs[i]? = some x → Pv i σ H → g x σ H fun σ2 H2 => tb { D with nx := Pv (i + 1), ct := Pv (i + 1), bk := D.nx } σ2 H2) (hd : ∀ σ H, Pv xs.length σ H → D.nx σ H) :
    ∃ W : Nat → Nat → St → Hp → Prop, (∃ m, W 0 m σ H) ∧ ∀ i m σ H, W i m σ H →
      ((Itt K a).stop i H ∧ D.nx σ H) ∨ ((Itt K a).go i H ∧ ∃ N : St → Hp → Prop, (∀ σ' H', N σ' H' → ∃ m', m' < m ∧ W (i + 1) m' σ' H') ∧ ∀ x H', (Itt K a).yld i H x H' → g x σ H' fun σ2 H2 => tb { D with nx := N, ct := N, bk := D.nx } σ2 H2) := by
  refine ⟨fun i m σ H => m = xs.length - i ∧ i ≤ xs.length ∧ Pv i σ H, ⟨xs.length, by simp, Nat.zero_le _, h0⟩, ?_⟩
  rintro i m σ H ⟨rfl, hi, p⟩
  have q := hl i σ H hi p
  by_cases hlt : i < xs.length
  · refine .inr ⟨⟨xs, xs[i], q, by simp [hlt]⟩, Pv (i + 1), fun σ' H' p' => ⟨xs.length - (i + 1), by omega, rfl, hlt, p'⟩, fun x H' y => ?_⟩
    obtain ⟨e, y⟩ := y
    subst e
    exact hs i x σ _ (y xs q) p
  · have e : i = xs.length := by omega
    subst e
    exact .inl ⟨⟨xs, q, Nat.le_refl _⟩, hd σ H p⟩
theorem for_range {lo : Int} {n : Nat} {g : TG} {tb : TS} {D : Ends} {σ : St} {H : Hp} (Pv : Nat → St → Hp → Prop) (h0 : Pv 0 σ H)
    (hs : ∀ i σ H, i < n → Pv i σ H → g (.int (lo + i)) σ H fun σ2 H2 => tb { D with nx := Pv (i + 1), ct := Pv (i + 1), bk := D.nx } σ2 H2) (hd : ∀ σ H, Pv n σ H → D.nx σ H) :
    ∃ W : Nat → Nat → St → Hp → Prop, (∃ m, W 0 m σ H) ∧ ∀ i m σ H, W i m σ H →
      ((Itr lo n).stop i H ∧ D.nx σ H) ∨ ((Itr lo n).go i H ∧ ∃ N : St → Hp → Prop, (∀ σ' H', N σ' H' → ∃ m', m' < m ∧ W (i + 1) m' σ' H') ∧ ∀ x H', (Itr lo n).yld i H x H' → g x σ H' fun σ2 H2 => tb { D with nx := N, ct := N, bk := D.nx } σ2 H2) := by
  refine ⟨fun i m σ H => m = n - i ∧ i ≤ n ∧ Pv i σ H, ⟨n, by simp, Nat.zero_le _, h0⟩, ?_⟩
  rintro i m σ H ⟨rfl, hi, p⟩
  by_cases hlt : i < n
  · refine .inr ⟨hlt, Pv (i + 1), fun σ' H' p' => ⟨n - (i + 1), by omega, rfl, hlt, p'⟩, fun x H' y => ?_⟩
    obtain ⟨e, y⟩ := y
    subst e y
    exact hs i σ _ hlt p
  · have e : i = n := by omega
    subst e
    exact .inl ⟨Nat.le_refl _, hd σ H p⟩
theorem while_by {c : TT} {tb : TS} {D : Ends} {σ : St} {H : Hp} (Pv : St → Hp → Prop) (μ : St → Hp → Nat) (h0 : Pv σ H)
    (hs : ∀ σ H, Pv σ H → c σ H fun b H1 => if b = true then tb { D with nx := fun σ' H' => Pv σ' H' ∧ μ σ' H' < μ σ H, ct := fun σ' H' => Pv σ' H' ∧ μ σ' H' < μ σ H, bk := D.nx } σ H1 else D.nx σ H1)
    (mono : ∀ σ H Q Q', (∀ b H1, Q b H1 → Q' b H1) → c σ H Q → c σ H Q') : tWhile c tb D σ H := by
  refine ⟨fun m σ H => m = μ σ H ∧ Pv σ H, ⟨_, rfl, h0⟩, ?_⟩
  rintro m σ H ⟨rfl, p⟩
  refine mono σ H _ _ (fun b H1 q => ?_) (hs σ H p)
  cases b with
  | true => exact ⟨_, fun σ' H' ⟨p', l⟩ => ⟨_, l, rfl, p'⟩, q⟩
  | false => exact q
end L2
namespace L2
open PySem PySem.Spec PyProof.Rows
abbrev R2 := V → V → Hp → VK → Prop
def OpR (X : Cx) (f : Value → Value → Sem Value) (r : R2) : Prop :=
  ∀ (pins : List (Addr × Obj)) (s : Shared) (σ : St) (H : Hp) (x y : V) (v u : Value) (Q : VK), Inv X pins σ H s → RelV x v → RelV y u → r x y H Q →
    wpAny (model X.prog X.w) X.A (f v u) (EP X pins σ Q) X.xe s
def UnR (X : Cx) (f : Value → Sem Value) (r : V → Hp → VK → Prop) : Prop :=
  ∀ (pins : List (Addr × Obj)) (s : Shared) (σ : St) (H : Hp) (x : V) (v : Value) (Q : VK), Inv X pins σ H s → RelV x v → r x H Q →
    wpAny (model X.prog X.w) X.A (f v) (EP X pins σ Q) X.xe s
def CallR (X : Cx) (f : Value) (r : List V → Hp → VK → Prop) : Prop :=
  ∀ (pins : List (Addr × Obj)) (s : Shared) (σ : St) (H : Hp) (xs : List V) (us : List Value) (Q : VK), Inv X pins σ H s → Vals xs us → r xs H Q →
    wpAny (model X.prog X.w) X.A (call f us) (EP X pins σ Q) X.xe s
def tOp (r : R2) (ta tb : TE) : TE := fun σ H Q => ta σ H fun x H1 => tb σ H1 fun y H2 => r x y H2 Q
def tUn (r : V → Hp → VK → Prop) (ta : TE) : TE := fun σ H Q => ta σ H fun x H1 => r x H1 Q
def rI (C : Int → Int → Prop) (g : Int → Int → V) : R2 := fun x y H Q => ∃ i j, x = .int i ∧ y = .int j ∧ C i j ∧ Q (g i j) H
def rI0 (g : Int → Int → V) : R2 := fun x y H Q => ∃ i j, x = .int i ∧ y = .int j ∧ Q (g i j) H
def rU (g : Int → V) : V → Hp → VK → Prop := fun x H Q => ∃ i, x = .int i ∧ Q (g i) H
section
variable {X : Cx} {a b c : Expr} {ta tb tc : TE} {pos : Pos}
theorem binT (ha : PE X a ta) (hb : PE X b tb) {pins : List (Addr × Obj)} {s : Shared} {σ : St} {H : Hp} {R : V → V → Hp → Prop} (I : Inv X pins σ H s)
    (h : ta σ H fun x H1 => tb σ H1 fun y H2 => R x y H2) {Q : Value → Shared → Prop} {f : Value → Value → Sem Value}
    (hf : ∀ v u s2 x y H2, Inv X pins σ H2 s2 → RelV x v → RelV y u → R x y H2 → wpAny (model X.prog X.w) X.A (f v u) Q X.xe s2) :
    wpAny (model X.prog X.w) X.A (eval a X.env) (fun v s₁ => wpAny (model X.prog X.w) X.A (eval b X.env) (fun u s₂ => wpAny (model X.prog X.w) X.A (f v u) Q X.xe s₂) X.xe s₁) X.xe s := by
  refine thn (ha pins s σ H _ I h) fun v s1 ⟨x, H1, I1, r1, q1⟩ => ?_
  refine thn (hb pins s1 σ H1 _ I1 q1) fun u s2 ⟨y, H2, I2, r2, q2⟩ => ?_
  exact hf v u s2 x y H2 I2 r1 r2 q2
theorem pe_op {op : Operator} {r : R2} (ho : OpR X (binaryOp op) r) (ha : PE X a ta) (hb : PE X b tb) : PE X (.BinOp a op b pos) (tOp r ta tb) := by
  intro pins s σ H Q I h
  exact wpAny_BinOp (binT ha hb I h fun v u s2 x y H2 I2 rx ry q => ho pins s2 σ H2 x y v u Q I2 rx ry q)
theorem pe_un {op : UnaryOp} {r : V → Hp → VK → Prop} (ho : UnR X (unaryOp op) r) (ha : PE X a ta) : PE X (.UnaryOp op a pos) (tUn r ta) := by
  intro pins s σ H Q I h
  exact UnaryOp_ (thn (ha pins s σ H _ I h) fun v s1 ⟨x, H1, I1, r1, q1⟩ => ho pins s1 σ H1 x v Q I1 r1 q1)
theorem opI {f : Value → Value → Sem Value} {C : Int → Int → Prop} {g : Int → Int → Int}
    (rule : ∀ (i j : Int) (t u : Tok) (s : Shared) (Q : Value → Shared → Prop) (E : Value → Shared → Prop), C i j → Q (.int (g i j) s.toks) { s with toks := s.toks + 1 } → wpAny (model X.prog X.w) X.A (f (.int i t) (.int j u)) Q E s) :
    OpR X f (rI C fun i j => .int (g i j)) := by
  intro pins s σ H x y v u Q I rx ry h
  obtain ⟨i, j, rfl, rfl, hc, q⟩ := h
  obtain ⟨t, rfl⟩ := rx
  obtain ⟨t', rfl⟩ := ry
  exact rule i j t t' s _ _ hc ⟨.int (g i j), H, I.tok _, ⟨_, rfl⟩, q⟩
theorem opI0 {f : Value → Value → Sem Value} {g : Int → Int → Int}
    (rule : ∀ (i j : Int) (t u : Tok) (s : Shared) (Q : Value → Shared → Prop) (E : Value → Shared → Prop), Q (.int (g i j) s.toks) { s with toks := s.toks + 1 } → wpAny (model X.prog X.w) X.A (f (.int i t) (.int j u)) Q E s) :
    OpR X f (rI0 fun i j => .int (g i j)) := by
  intro pins s σ H x y v u Q I rx ry h
  obtain ⟨i, j, rfl, rfl, q⟩ := h
  obtain ⟨t, rfl⟩ := rx
  obtain ⟨t', rfl⟩ := ry
  exact rule i j t t' s _ _ ⟨.int (g i j), H, I.tok _, ⟨_, rfl⟩, q⟩
theorem opB0 {f : Value → Value → Sem Value} {g : Int → Int → Bool}
    (rule : ∀ (i j : Int) (t u : Tok) (s : Shared) (Q : Value → Shared → Prop) (E : Value → Shared → Prop), Q (.bool (g i j)) s → wpAny (model X.prog X.w) X.A (f (.int i t) (.int j u)) Q E s) :
    OpR X f (rI0 fun i j => .bl (g i j)) := by
  intro pins s σ H x y v u Q I rx ry h
  obtain ⟨i, j, rfl, rfl, q⟩ := h
  obtain ⟨t, rfl⟩ := rx
  obtain ⟨t', rfl⟩ := ry
  exact rule i j t t' s _ _ ⟨.bl (g i j), H, I, rfl, q⟩
def CDiv (i j : Int) : Prop := 0 < j ∧ j < 1073741824
def CPow (i j : Int) : Prop := 0 ≤ j ∧ j ≤ 1000000 ∧ i.natAbs < 2 ^ 64
def CMul (i j : Int) : Prop := (-(2 ^ 64) < i ∧ i < 2 ^ 64) ∨ (-(2 ^ 64) < j ∧ j < 2 ^ 64)
theorem CMul.ok {i j : Int} (h : CMul i j) : IntMulOk i j := by
  rcases h with ⟨h1, h2⟩ | ⟨h1, h2⟩
  · exact .of_left (intBits_le_64 h1 h2)
  · exact .of_right (intBits_le_64 h1 h2)
theorem two_pow_nn (k : Nat) : (0 : Int) ≤ 2 ^ k := by
  rw [two_pow_cast]
  exact Int.natCast_nonneg _
theorem op_add : OpR X (binaryOp .Add) (rI0 fun i j => .int (i + j)) := opI0 fun _ _ _ _ _ _ _ q => add_int q
theorem op_sub : OpR X (binaryOp .Sub) (rI0 fun i j => .int (i - j)) := opI0 fun _ _ _ _ _ _ _ q => sub_int q
theorem op_mul : OpR X (binaryOp .Mult) (rI CMul fun i j => .int (i * j)) := opI fun _ _ _ _ _ _ _ hc q => mul_int q hc.ok
theorem op_fdiv : OpR X (binaryOp .FloorDiv) (rI CDiv fun i j => .int (i / j)) := opI fun i j _ _ _ _ _ hc q => by
  have h1 : (0 : Int) < j := hc.1
  have h2 : j < 1073741824 := hc.2
  exact floordiv_int (by omega) (by rw [Int.fdiv_eq_ediv_of_nonneg i (by omega)]; exact q) (.inl (PyProof.noPylong_small (by omega)))
theorem op_mod : OpR X (binaryOp .Mod) (rI (fun _ j => 0 < j) fun i j => .int (i % j)) := opI fun i j _ _ _ _ _ hc q => by
  have h1 : (0 : Int) < j := hc
  exact mod_int' (by omega) (by rw [Int.fmod_eq_emod_of_nonneg i (by omega)]; exact q)
theorem op_shl : OpR X (binaryOp .LShift) (rI CPow fun i j => .int (i * 2 ^ j.toNat)) := opI fun _ _ _ _ _ _ _ hc q => lshift_int_small hc.1 hc.2.1 hc.2.2 q
theorem op_shr : OpR X (binaryOp .RShift) (rI (fun _ j => 0 ≤ j) fun i j => .int (i / 2 ^ j.toNat)) := opI fun i j _ _ _ _ _ hc q =>
  rshift_int hc (by rw [Int.fdiv_eq_ediv_of_nonneg i (two_pow_nn _)]; exact q)
theorem op_and : OpR X (binaryOp .BitAnd) (rI0 fun i j => .int (Builtin.bitAnd i j)) := opI0 fun _ _ _ _ _ _ _ q => and_int q
theorem unI {f : Value → Sem Value} {g : Int → Int}
    (rule : ∀ (i : Int) (t : Tok) (s : Shared) (Q : Value → Shared → Prop) (E : Value → Shared → Prop), Q (.int (g i) s.toks) { s with toks := s.toks + 1 } → wpAny (model X.prog X.w) X.A (f (.int i t)) Q E s) :
    UnR X f (rU fun i => .int (g i)) := by
  intro pins s σ H x v Q I rx h
  obtain ⟨i, rfl, q⟩ := h
  obtain ⟨t, rfl⟩ := rx
  exact rule i t s _ _ ⟨.int (g i), H, I.tok _, ⟨_, rfl⟩, q⟩
theorem un_neg : UnR X (unaryOp .USub) (rU fun i => .int (-i)) := unI fun _ _ _ _ _ q => neg_int q
end
def scal : V → V → Bool
  | .non, .non => true | .non, .int _ => true | .int _, .non => true | .non, .bl _ => true | .bl _, .non => true | .non, .str _ => true | .str _, .non => true
  | .int _, .int _ => true | .bl _, .bl _ => true | .str _, .str _ => true | .byt _, .byt _ => true
  | .int _, .str _ => true | .str _, .int _ => true | .bl _, .str _ => true | .str _, .bl _ => true
  | _, _ => false
def rEq : R2 := fun x y H Q => scal x y = true ∧ Q (.bl (decide (x = y))) H
def rNe : R2 := fun x y H Q => scal x y = true ∧ Q (.bl (!decide (x = y))) H
theorem dec_int {i j : Int} : decide (V.int i = V.int j) = (i == j) := by
  rw [Bool.eq_iff_iff]
  simp
theorem dec_bl {i j : Bool} : decide (V.bl i = V.bl j) = (i == j) := by
  rw [Bool.eq_iff_iff]
  simp
theorem dec_str {i j : Str} : decide (V.str i = V.str j) = (i == j) := by
  rw [Bool.eq_iff_iff]
  simp
theorem dec_byt {i j : Array UInt8} : decide (V.byt i = V.byt j) = (i.toList == j.toList) := by
  rw [Bool.eq_iff_iff]
  cases i
  cases j
  simp
section
variable {X : Cx} {a b c : Expr} {ta tb tc : TE} {pos : Pos}
theorem fin_bl {pins : List (Addr × Obj)} {σ : St} {H : Hp} {s : Shared} {Q : VK} {k k' : Bool} (I : Inv X pins σ H s) (q : Q (.bl k) H) (e : k = k') : EP X pins σ Q (.bool k') s := by
  subst e
  exact ⟨.bl k, H, I, rfl, q⟩
theorem op_eq : OpR X (compareOp .Eq) rEq := by
  intro pins s σ H x y v u Q I rx ry h
  obtain ⟨hs, q⟩ := h
  cases x with
  | non =>
    cases rx
    cases y with
    | non => cases ry; exact PySem.EqNone.eq_none_none (fin_bl I q (by simp))
    | bl j => cases ry; exact PySem.EqNone.eq_none_bool (fin_bl I q (by simp))
    | int j => obtain ⟨t', rfl⟩ := ry; exact PySem.EqNone.eq_none_int (fin_bl I q (by simp))
    | str j => obtain ⟨t', rfl⟩ := ry; exact PySem.EqNone.eq_none_str (fin_bl I q (by simp))
    | _ => exact absurd (show false = true from hs) Bool.false_ne_true
  | bl i =>
    cases rx
    cases y with
    | non => cases ry; exact PySem.EqNone.eq_bool_none (fin_bl I q (by simp))
    | bl j => cases ry; exact eq_bool (fin_bl I q dec_bl)
    | str j => obtain ⟨t', rfl⟩ := ry; exact PySem.EqMixed.eq_bool_str (fin_bl I q (by simp))
    | _ => exact absurd (show false = true from hs) Bool.false_ne_true
  | int i =>
    obtain ⟨t, rfl⟩ := rx
    cases y with
    | non => cases ry; exact PySem.EqNone.eq_int_none (fin_bl I q (by simp))
    | int j => obtain ⟨t', rfl⟩ := ry; exact eq_int (fin_bl I q dec_int)
    | str j => obtain ⟨t', rfl⟩ := ry; exact PySem.EqMixed.eq_int_str (fin_bl I q (by simp))
    | _ => exact absurd (show false = true from hs) Bool.false_ne_true
  | str i =>
    obtain ⟨t, rfl⟩ := rx
    cases y with
    | non => cases ry; exact PySem.EqNone.eq_str_none (fin_bl I q (by simp))
    | bl j => cases ry; exact PySem.EqMixed.eq_str_bool (fin_bl I q (by simp))
    | int j => obtain ⟨t', rfl⟩ := ry; exact PySem.EqMixed.eq_str_int (fin_bl I q (by simp))
    | str j => obtain ⟨t', rfl⟩ := ry; exact eq_str (fin_bl I q dec_str)
    | _ => exact absurd (show false = true from hs) Bool.false_ne_true
  | byt i =>
    obtain ⟨t, rfl⟩ := rx
    cases y with
    | byt j => obtain ⟨t', rfl⟩ := ry; exact PySem.W.eq_bytes (fin_bl I q dec_byt)
    | _ => exact absurd (show false = true from hs) Bool.false_ne_true
  | _ => cases y <;> exact absurd (show false = true from hs) Bool.false_ne_true
theorem op_ne : OpR X (compareOp .NotEq) rNe := by
  intro pins s σ H x y v u Q I rx ry h
  obtain ⟨hs, q⟩ := h
  cases x with
  | non =>
    cases rx
    cases y with
    | non => cases ry; exact PySem.EqNone.ne_none_none (fin_bl I q (by simp))
    | bl j => cases ry; exact PySem.EqNone.ne_none_bool (fin_bl I q (by simp))
    | int j => obtain ⟨t', rfl⟩ := ry; exact PySem.EqNone.ne_none_int (fin_bl I q (by simp))
    | str j => obtain ⟨t', rfl⟩ := ry; exact PySem.EqNone.ne_none_str (fin_bl I q (by simp))
    | _ => exact absurd (show false = true from hs) Bool.false_ne_true
  | bl i =>
    cases rx
    cases y with
    | non => cases ry; exact PySem.EqNone.ne_bool_none (fin_bl I q (by simp))
    | bl j => cases ry; exact ne_bool (fin_bl I q (congrArg not dec_bl))
    | str j => obtain ⟨t', rfl⟩ := ry; exact PySem.EqMixed.ne_bool_str (fin_bl I q (by simp))
    | _ => exact absurd (show false = true from hs) Bool.false_ne_true
  | int i =>
    obtain ⟨t, rfl⟩ := rx
    cases y with
    | non => cases ry; exact PySem.EqNone.ne_int_none (fin_bl I q (by simp))
    | int j => obtain ⟨t', rfl⟩ := ry; exact ne_int (fin_bl I q (congrArg not dec_int))
    | str j => obtain ⟨t', rfl⟩ := ry; exact PySem.EqMixed.ne_int_str (fin_bl I q (by simp))
    | _ => exact absurd (show false = true from hs) Bool.false_ne_true
  | str i =>
    obtain ⟨t, rfl⟩ := rx
    cases y with
    | non => cases ry; exact PySem.EqNone.ne_str_none (fin_bl I q (by simp))
    | bl j => cases ry; exact PySem.EqMixed.ne_str_bool (fin_bl I q (by simp))
    | int j => obtain ⟨t', rfl⟩ := ry; exact PySem.EqMixed.ne_str_int (fin_bl I q (by simp))
    | str j => obtain ⟨t', rfl⟩ := ry; exact ne_str (fin_bl I q (congrArg not dec_str))
    | _ => exact absurd (show false = true from hs) Bool.false_ne_true
  | byt i =>
    obtain ⟨t, rfl⟩ := rx
    cases y with
    | byt j => obtain ⟨t', rfl⟩ := ry; exact PySem.W.ne_bytes (fin_bl I q (congrArg not dec_byt))
    | _ => exact absurd (show false = true from hs) Bool.false_ne_true
  | _ => cases y <;> exact absurd (show false = true from hs) Bool.false_ne_true
theorem op_lt : OpR X (compareOp .Lt) (rI0 fun i j => .bl (decide (i < j))) := opB0 fun _ _ _ _ _ _ _ q => lt_int q
theorem op_le : OpR X (compareOp .LtE) (rI0 fun i j => .bl (decide (i ≤ j))) := opB0 fun _ _ _ _ _ _ _ q => le_int q
theorem op_gt : OpR X (compareOp .Gt) (rI0 fun i j => .bl (decide (j < i))) := opB0 fun _ _ _ _ _ _ _ q => gt_int q
theorem nomark (b : Expr) {op : CmpOp} (h : op ≠ .In := by decide) (h2 : op ≠ .NotIn := by decide) : behindInMarks op b = false := by
  have e1 : (op == CmpOp.In) = false := by cases op <;> first | rfl | exact absurd rfl h
  have e2 : (op == CmpOp.NotIn) = false := by cases op <;> first | rfl | exact absurd rfl h2
  cases b <;> simp [behindInMarks, e1, e2]
theorem pe_cmpR {op : CmpOp} {r : R2} (ho : OpR X (compareOp op) r) (ha : PE X a ta) (hb : PE X b tb) (hm : behindInMarks op b = false) : PE X (.Compare a [op] [b] pos) (tOp r ta tb) := by
  intro pins s σ H Q I h
  exact wpAny_Compare1 (binT ha hb I h fun v u s2 x y H2 I2 rx ry q => ho pins s2 σ H2 x y v u Q I2 rx ry q) hm
def tTest (t : TE) : TT := fun σ H Q => t σ H fun x H' => ∃ k, x = .bl k ∧ Q k H'
theorem pt_cmpR {op : CmpOp} {r : R2} (ho : OpR X (compareOp op) r) (ha : PE X a ta) (hb : PE X b tb) (hm : behindInMarks op b = false) : PT X (.Compare a [op] [b] pos) (tTest (tOp r ta tb)) := by
  intro pins s σ H Q I h
  refine wpAny_isTrue_Compare1 (thn (ha pins s σ H _ I h) fun v s1 ⟨x, H1, I1, r1, q1⟩ => thn (hb pins s1 σ H1 _ I1 q1) fun u s2 ⟨y, H2, I2, r2, q2⟩ =>
    thn (ho pins s2 σ H2 x y v u _ I2 r1 r2 q2) fun c s3 ⟨z, H3, I3, r3, k, e, q3⟩ => ?_) hm
  subst e
  cases r3
  exact wpAny_truthy_bool ⟨H3, I3, q3⟩
def tChain (r r' : R2) (ta tb tc : TE) : TE := fun σ H Q => ta σ H fun x H1 => tb σ H1 fun y H2 => r x y H2 fun z H3 => ∃ k, z = .bl k ∧
  (if k = true then tc σ H3 fun w' H4 => r' y w' H4 Q else Q (.bl false) H3)
theorem pe_chain {op op' : CmpOp} {r r' : R2} (ho : OpR X (compareOp op) r) (ho' : OpR X (compareOp op') r') (ha : PE X a ta) (hb : PE X b tb) (hc : PE X c tc)
    (hm : lastMarks [op, op'] [b, c] = false := by with_unfolding_all rfl) : PE X (.Compare a [op, op'] [b, c] pos) (tChain r r' ta tb tc) := by
  intro pins s σ H Q I h
  refine Compare_chain (thn (ha pins s σ H _ I h) fun v s1 ⟨x, H1, I1, r1, q1⟩ => chain_link (thn (hb pins s1 σ H1 _ I1 q1) fun u s2 ⟨y, H2, I2, r2, q2⟩ =>
    thn (ho pins s2 σ H2 x y v u _ I2 r1 r2 q2) fun d s3 ⟨z, H3, I3, r3, k, e, q3⟩ => ?_)) hm
  subst e
  cases r3
  refine wpAny_truthy_bool ?_
  cases k with
  | false => exact ite_ff ⟨.bl false, H3, I3, rfl, q3⟩
  | true => exact ite_tt (chain_last (thn (hc pins s3 σ H3 _ I3 q3) fun w' s4 ⟨z', H4, I4, r4, q4⟩ => ho' pins s4 σ H4 y z' u w' Q I4 r2 r4 q4))
theorem pt_chain {op op' : CmpOp} {r r' : R2} (ho : OpR X (compareOp op) r) (ho' : OpR X (compareOp op') r') (ha : PE X a ta) (hb : PE X b tb) (hc : PE X c tc)
    (hm : lastMarks [op, op'] [b, c] = false := by with_unfolding_all rfl) : PT X (.Compare a [op, op'] [b, c] pos) (tTest (tChain r r' ta tb tc)) := by
  intro pins s σ H Q I h
  refine isTrue_chain (thn (ha pins s σ H _ I h) fun v s1 ⟨x, H1, I1, r1, q1⟩ => test_link (thn (hb pins s1 σ H1 _ I1 q1) fun u s2 ⟨y, H2, I2, r2, q2⟩ =>
    thn (ho pins s2 σ H2 x y v u _ I2 r1 r2 q2) fun d s3 ⟨z, H3, I3, r3, k, e, q3⟩ => ?_)) hm
  subst e
  cases r3
  refine wpAny_truthy_bool ?_
  cases k with
  | false =>
    obtain ⟨k', e', q'⟩ := q3
    cases e'
    exact ite_ff ⟨H3, I3, q'⟩
  | true =>
    refine ite_tt (test_last (thn (hc pins s3 σ H3 _ I3 q3) fun w' s4 ⟨z', H4, I4, r4, q4⟩ => thn (ho' pins s4 σ H4 y z' u w' _ I4 r2 r4 q4) fun d' s5 ⟨z2, H5, I5, r5, k2, e2, q5⟩ => ?_))
    subst e2
    cases r5
    exact wpAny_truthy_bool ⟨H5, I5, q5⟩
theorem line63 : (sizeLine : Nat) < 2 ^ 63 := by rw [sizeLine_eq]; decide
theorem vals1 {x : V} {us : List Value} (r : Vals [x] us) : ∃ u, us = [u] ∧ RelV x u := by
  cases r with
  | cons r1 r2 => cases r2; exact ⟨_, rfl, r1⟩
theorem vals2 {x y : V} {us : List Value} (r : Vals [x, y] us) : ∃ u w', us = [u, w'] ∧ RelV x u ∧ RelV y w' := by
  cases r with
  | cons r1 r2 =>
    cases r2 with
    | cons r3 r4 => cases r4; exact ⟨_, _, rfl, r1, r3⟩
theorem call_max2 (hc : X.calm = true) : CallR X (.builtin "max") (fun xs H Q => ∃ i j, xs = [.int i, .int j] ∧ Q (.int (if j > i then j else i)) H) := by
  intro pins s σ H xs us Q I r h
  obtain ⟨i, j, rfl, q⟩ := h
  obtain ⟨u, w', rfl, ⟨t, rfl⟩, ⟨t', rfl⟩⟩ := vals2 r
  refine max_two_ints (I.ok.hd hc) fun h' tk k => ⟨_, H, I.kept k, ?_, q⟩
  by_cases hj : j > i
  · rw [if_pos hj, if_pos hj]; exact ⟨_, rfl⟩
  · rw [if_neg hj, if_neg hj]; exact ⟨_, rfl⟩
theorem call_min2 (hc : X.calm = true) : CallR X (.builtin "min") (fun xs H Q => ∃ i j, xs = [.int i, .int j] ∧ Q (.int (if j < i then j else i)) H) := by
  intro pins s σ H xs us Q I r h
  obtain ⟨i, j, rfl, q⟩ := h
  obtain ⟨u, w', rfl, ⟨t, rfl⟩, ⟨t', rfl⟩⟩ := vals2 r
  refine min_two_ints (I.ok.hd hc) fun h' tk k => ⟨_, H, I.kept k, ?_, q⟩
  by_cases hj : j < i
  · rw [if_pos hj, if_pos hj]; exact ⟨_, rfl⟩
  · rw [if_neg hj, if_neg hj]; exact ⟨_, rfl⟩
end
end L2
namespace L2
open PySem PySem.Spec PyProof.Rows
structure ObjM (h : Heap) (x dx C : Addr) (mA : Str → Option Value) : Prop where
  obj : h.get? x = some (PySem.W.instObj C dx)
  ns : h.Ns1 dx mA
  ne : dx ≠ x
theorem lookIn_ns {h : Heap} {dx : Addr} {mA : Str → Option Value} (n : h.Ns1 dx mA) : ∃ od, h.get? dx = some od ∧ ∀ name, PySem.W.lookIn name od = some (mA name) := by
  obtain ⟨o, es, ep, ho, hd, hk, _, hm⟩ := n
  refine ⟨o, ho, fun name => ?_⟩
  have e := hm name
  unfold nsFind findBy at e
  rw [← Array.find?_toList] at e
  unfold PySem.W.lookIn
  rw [hd]
  dsimp only
  split
  · rename_i y q
    rw [q] at e
    exact congrArg some e
  · rename_i q
    rw [q] at e
    have a : es.toList.any (·.refKey) = false := by
      rw [List.any_eq_false]
      intro y hy
      obtain ⟨z, t, hkey⟩ := hk y (Array.mem_toList_iff.mp hy)
      simp [DictEntry.refKey, hkey]
    have a' : ¬ es.toList.any (·.refKey) = true := by rw [a]; exact Bool.false_ne_true
    rw [if_neg a']
    exact congrArg some e
theorem ObjM.look {h : Heap} {x dx C : Addr} {mA : Str → Option Value} (I : ObjM h x dx C mA) : ∃ od, PySem.W.InstAt h x (PySem.W.instObj C dx) C (some od) ∧ ∀ name, PySem.W.lookIn name od = some (mA name) :=
  let ⟨od, ho, hl⟩ := lookIn_ns I.ns
  ⟨od, ⟨I.obj, rfl, rfl, ho⟩, hl⟩
section
variable {prog : Program} {w : World} {A : Around} {E : Value → Shared → Prop} {s : Shared} {K : PySem.W.Frag} {x dx C f : Addr} {mA : Str → Option Value} {name : Str} {v : Value}
theorem get_map {expr : Bool} {Q : Value → Shared → Prop} (X : K.In s.heap) (I : ObjM s.heap x dx C mA) (hg : PySem.W.plainGet K C name = true) (hh : PySem.W.hasDictIn K C = true)
    (ha : PySem.W.findIn K (.ref C) name = some none) (hv : mA name = some v) (hv' : PySem.W.handedIn v = true) (h : Q v { s with toks := s.toks + 1 }) :
    wpAny (model prog w) A (getAttr (.ref x) name expr) Q E s := by
  obtain ⟨od, J, hl⟩ := I.look
  exact PySem.W.get_value X J (PySem.W.plainGet_of hg).1 (PySem.W.findObj_own hh ha rfl (by rw [hl, hv])) hv' h
theorem get_meth {pl : Sem Bool} {Q : Value × List Value → Shared → Prop} (X : K.In s.heap) (I : ObjM s.heap x dx C mA) (hg : PySem.W.plainGet K C name = true)
    (hf : PySem.W.findIn K (.ref C) name = some (some (.ref f))) (ht : PySem.W.isFn K (.ref f) = true) (hv : mA name = none) (h : Q (.ref f, [.ref x]) s) :
    wpAny (model prog w) A (getMethod (.ref x) name pl) Q E s := by
  obtain ⟨od, J, hl⟩ := I.look
  exact PySem.W.method_fn X J (PySem.W.plainGet_of hg).1 (PySem.W.plainGet_of hg).2 hf (beq_iff_eq.mp ht) (by show (PySem.W.lookIn name od).map (·.isSome) = some false; rw [hl, hv]; rfl) h
theorem set_map {ns : List Str} {Q : Unit → Shared → Prop} (X : K.In s.heap) (I : ObjM s.heap x dx C mA)
    (hs : PySem.W.findIn K (.ref C) "__setattr__" = some (some (.builtin "object.__setattr__"))) (hp : PySem.W.plainOver K C = true) (ht : PySem.W.takerIn K C name = some none) (hh : PySem.W.hasDictIn K C = true)
    (hw : PySem.Within mA ns) (hsz : ns.length ≤ sizeLine)
    (h : ∀ h', ObjM h' x dx C (fun y => if y = name then some v else mA y) → Heap.SameBut dx s.heap h' → Q () { s with heap := h', toks := s.toks + 2 }) :
    wpAny (model prog w) A (setAttr (.ref x) name v) Q E s := by
  obtain ⟨od, J, hl⟩ := I.look
  refine PySem.W.set_plain X J hs (PySem.W.osa_open (s := { s with toks := s.toks + 1 }) (r := none) X J hp ht fun b => ?_)
  obtain ⟨cd, hc, hd'⟩ := PySem.W.any_some hh
  have hx : s.heap.get? x = some ⟨.ref C, some dx, .plain, #[]⟩ := I.obj
  refine wpAny_bind (wpAny_pure (wpAny_bind (wpAny_bind (wpAny_loadPart hx (wpAny_bind (PySem.W.Looks.here (s := { s with toks := s.toks + 1 }) (PySem.W.looks_clsIn X hc) ?_))))))
  rw [hd']
  refine wpAny_pure (a := some dx) (wpAny_bind (wpAny_pure (wpAny_bind ?_)))
  refine wpAny_nsSet1 (s := { s with toks := s.toks + 1 }) I.ns fun h' hn2 hs2 => ?_
  obtain ⟨oD, esD, epD, hoD, hdD, hcD⟩ := hn2.count (PySem.Within.cons name v hw)
  refine wpAny_bind (wpAny_lookBehind hoD (by rw [hdD]; exact pastItsLine_dict (Nat.le_trans hcD (by rw [List.length_cons]; omega))) ?_)
  exact wpAny_pure (h _ ⟨(hs2.2 _ (Ne.symm I.ne)).trans I.obj, hn2, I.ne⟩ hs2)
theorem make_map {R : Result → Shared → Prop} {vs : List Value} {kw : List (Str × Value)} (X : K.In s.heap) (hm : PySem.W.makesIn K C = true)
    (hi : PySem.W.findIn K (.ref C) "__init__" = some (some (.ref f))) (hf : PySem.W.typeIn K (.ref f) = some (.type "function"))
    (h : codeAny (model prog w) (A.under (.builtin "type.__call__" ⟨.ref C :: vs, kw⟩)) (.call (.ref f) ⟨.ref (s.heap.objs.size + 1) :: vs, kw⟩) (PySem.W.InitBack (s.heap.objs.size + 1) R)
      { s with heap := (s.heap.push PySem.W.emptyDict).push (PySem.W.instObj C s.heap.objs.size) }) :
    codeAny (model prog w) A (.call (.ref C) ⟨vs, kw⟩) R s := by
  obtain ⟨hh, g, d, t, os⟩ := s
  exact PySem.W.make_core (PySem.W.makes_of X hm) (PySem.W.looks_findIn X hi) (fun self => PySem.W.bind_fn X self hf) (.inl rfl) h
end
def putF (f : Str) (v : V) : List (Str × V) → List (Str × V)
  | [] => [(f, v)]
  | (g, x) :: r => if g = f then (g, v) :: r else (g, x) :: putF f v r
theorem lookup_putF (f g : Str) (v : V) : ∀ fs : List (Str × V), (putF f v fs).lookup g = if g = f then some v else fs.lookup g
  | [] => by
    show List.lookup g [(f, v)] = _
    by_cases h : g = f
    · have hb : (g == f) = true := beq_iff_eq.mpr h
      simp only [List.lookup, hb, if_pos h]
    · have hb : (g == f) = false := beq_eq_false_iff_ne.mpr h
      simp only [List.lookup, hb, if_neg h]
  | (k, x) :: r => by
    have ih := lookup_putF f g v r
    rw [show putF f v ((k, x) :: r) = (if k = f then (k, v) :: r else (k, x) :: putF f v r) from rfl]
    by_cases hk : k = f
    · rw [if_pos hk]
      by_cases h : g = k
      · have hb : (g == k) = true := beq_iff_eq.mpr h
        simp only [List.lookup, hb, if_pos (h.trans hk)]
      · have hb : (g == k) = false := beq_eq_false_iff_ne.mpr h
        simp only [List.lookup, hb, if_neg (fun e : g = f => h (e.trans hk.symm))]
    · rw [if_neg hk]
      by_cases h : g = k
      · have hb : (g == k) = true := beq_iff_eq.mpr h
        simp only [List.lookup, hb, if_neg (fun e : g = f => hk (h.symm.trans e))]
      · have hb : (g == k) = false := beq_eq_false_iff_ne.mpr h
        simp only [List.lookup, hb]
        exact ih
theorem keys_putF (f : Str) (v : V) : ∀ fs : List (Str × V), f ∈ (putF f v fs).map (·.1) ∧ ∀ g, g ∈ fs.map (·.1) → g ∈ (putF f v fs).map (·.1)
  | [] => ⟨by simp [putF], fun g h => by simp at h⟩
  | (k, x) :: r => by
    obtain ⟨i1, i2⟩ := keys_putF f v r
    rw [show putF f v ((k, x) :: r) = (if k = f then (k, v) :: r else (k, x) :: putF f v r) from rfl]
    by_cases hk : k = f
    · rw [if_pos hk]
      subst hk
      exact ⟨by simp, fun g h => by simpa using h⟩
    · rw [if_neg hk]
      refine ⟨?_, fun g h => ?_⟩
      · rw [List.map_cons]
        exact List.mem_cons_of_mem _ i1
      · rw [List.map_cons] at h ⊢
        rcases List.mem_cons.mp h with e | e
        · exact List.mem_cons.mpr (.inl e)
        · exact List.mem_cons_of_mem _ (i2 g e)
theorem length_putF (f : Str) (v : V) : ∀ fs : List (Str × V), (putF f v fs).length ≤ fs.length + 1
  | [] => by simp [putF]
  | (k, x) :: r => by
    have ih := length_putF f v r
    rw [show putF f v ((k, x) :: r) = (if k = f then (k, v) :: r else (k, x) :: putF f v r) from rfl]
    by_cases hk : k = f
    · rw [if_pos hk, List.length_cons, List.length_cons]; omega
    · rw [if_neg hk, List.length_cons, List.length_cons]; omega
theorem RelO.some_of {v : V} {o : Option Value} (r : RelO (some v) o) : ∃ u, o = some u ∧ RelV v u := by
  cases o with
  | none => exact (show False from r).elim
  | some u => exact ⟨u, rfl, r⟩
theorem RelO.none_of {o : Option Value} (r : RelO none o) : o = none := by
  cases o with
  | none => rfl
  | some u => exact (show False from r).elim
theorem handed_of {v : V} {u : Value} (r : RelV v u) : PySem.W.handedIn u = true := by
  cases v with
  | non => cases (show u = Value.none from r); rfl
  | bl b => cases (show u = Value.bool b from r); rfl
  | int i => obtain ⟨t, e⟩ := (show ∃ t, u = Value.int i t from r); cases e; rfl
  | str x => obtain ⟨t, e⟩ := (show ∃ t, u = Value.str x t from r); cases e; rfl
  | byt b => obtain ⟨t, e⟩ := (show ∃ t, u = Value.bytes b t from r); cases e; rfl
  | flt b => obtain ⟨t, e⟩ := (show ∃ t, u = Value.float b t from r); cases e; rfl
  | ref a => cases (show u = Value.ref a from r); rfl
  | ty n => cases (show u = Value.type n from r); rfl
section
variable {P : Program} {w : World} {H H' : Hp} {h h' : Heap} {a C dx : Addr} {fs fs' : List (Str × V)}
theorem ins_get (hok : HOk P w H h) (e : H a = some (.ins C dx fs)) : ∃ mA, ObjM h a dx C mA ∧ (∀ f, RelO (fs.lookup f) (mA f)) ∧ PySem.Within mA (fs.map (·.1)) ∧ fs.length ≤ 1000 ∧ H dx = some (.own a) := by
  obtain ⟨d, z, ne, ob, mA, n, r, q⟩ := (show ObjOk P w H h a (.ins C dx fs) from hok a _ e)
  exact ⟨mA, ⟨ob, n, ne⟩, r, q, z, d⟩
end
structure Cls (K : PySem.W.Frag) (C : Addr) : Prop where
  pg : PySem.W.plainGet K C Str.empty = true
  hd : PySem.W.hasDictIn K C = true
  po : PySem.W.plainOver K C = true
  sa : PySem.W.findIn K (.ref C) "__setattr__" = some (some (.builtin "object.__setattr__"))
theorem Cls.get {K : PySem.W.Frag} {C : Addr} (c : Cls K C) (f : Str) : PySem.W.plainGet K C f = true := c.pg
def NoAttr (K : PySem.W.Frag) (C : Addr) (f : Str) : Prop := PySem.W.findIn K (.ref C) f = some none
theorem NoAttr.taker {K : PySem.W.Frag} {C : Addr} {f : Str} (n : NoAttr K C f) : PySem.W.takerIn K C f = some none := by
  unfold PySem.W.takerIn
  rw [show PySem.W.findIn K (.ref C) f = some none from n]
  rfl
structure Meth (K : PySem.W.Frag) (C : Addr) (m : Str) (f : Addr) : Prop where
  at_ : PySem.W.findIn K (.ref C) m = some (some (.ref f))
  fn : PySem.W.isFn K (.ref f) = true
  kp : PySem.W.keepIn K (.ref f) = true
section
variable {X : Cx} {pins : List (Addr × Obj)} {σ : St} {H : Hp} {s : Shared} {a C dx : Addr} {fs : List (Str × V)} {f : Str} {v : V} {A : Around} {E : Value → Shared → Prop}
theorem getattr_ok {b : Bool} {Q : Value → Shared → Prop} (I : Inv X pins σ H s) (e : H a = some (.ins C dx fs)) (c : Cls X.K C) (n : NoAttr X.K C f) (l : fs.lookup f = some v)
    (h : ∀ u s', Inv X pins σ H s' → RelV v u → Q u s') : wpAny (model X.prog X.w) A (getAttr (.ref a) f b) Q E s := by
  obtain ⟨mA, O, r, _, _, _⟩ := ins_get I.hok e
  obtain ⟨u, hu, ru⟩ := RelO.some_of (v := v) (o := mA f) (by rw [← l]; exact r f)
  exact get_map I.kIn O (c.get f) c.hd n hu (handed_of ru) (h u _ (I.tok _) ru)
theorem getmeth_ok {m : Str} {g : Addr} {pl : Sem Bool} {Q : Value × List Value → Shared → Prop} (I : Inv X pins σ H s) (e : H a = some (.ins C dx fs)) (c : Cls X.K C) (k : Meth X.K C m g) (l : fs.lookup m = none)
    (h : Q (.ref g, [.ref a]) s) : wpAny (model X.prog X.w) A (getMethod (.ref a) m pl) Q E s := by
  obtain ⟨mA, O, r, _, _, _⟩ := ins_get I.hok e
  have hn : mA m = none := RelO.none_of (by rw [← l]; exact r m)
  exact get_meth I.kIn O (c.get m) k.at_ k.fn hn h
theorem setattr_ok {y : V} {u : Value} {Q : Unit → Shared → Prop} (I : Inv X pins σ H s) (e : H a = some (.ins C dx fs)) (c : Cls X.K C) (n : NoAttr X.K C f) (hl : fs.length < 1000) (ry : RelV y u)
    (h : ∀ s', Inv X pins σ (upd H a (.ins C dx (putF f y fs))) s' → Q () s') : wpAny (model X.prog X.w) A (setAttr (.ref a) f u) Q E s := by
  obtain ⟨mA, O, r, wi, _, ho⟩ := ins_get I.hok e
  have hz : (fs.map (·.1)).length ≤ sizeLine := by rw [List.length_map, sizeLine_eq]; omega
  refine set_map I.kIn O c.sa c.po n.taker c.hd wi hz fun h' O' sb => h _ ?_
  have hd : ∃ o, h'.get? dx = some o := let ⟨o, _, _, e', _⟩ := O'.ns; ⟨o, e'⟩
  refine I.write (x := a) (e := dx) (by rw [e]; exact True.intro) (.inr ho) (fun b q hb z => (sb.2 b hb).trans z) hd ?_
  refine ⟨by rw [upd_ne O.ne]; exact ho, ?_, O.ne, O'.obj, _, O'.ns, fun g => ?_, fun g hg => ?_⟩
  · have := length_putF f y fs; omega
  · show RelO ((putF f y fs).lookup g) (if g = f then some u else mA g)
    rw [lookup_putF]
    by_cases q : g = f
    · rw [if_pos q, if_pos q]; exact ry
    · rw [if_neg q, if_neg q]; exact r g
  · by_cases q : g = f
    · rw [q]; exact (keys_putF f y fs).1
    · refine (keys_putF f y fs).2 g (wi g fun z => hg ?_)
      show (if g = f then some u else mA g) = none
      rw [if_neg q]; exact z
theorem Inv.made (I : Inv X pins σ H s) : Inv X pins σ (upd (upd H s.heap.objs.size (.own (s.heap.objs.size + 1))) (s.heap.objs.size + 1) (.ins C s.heap.objs.size []))
    { s with heap := (s.heap.push PySem.W.emptyDict).push (PySem.W.instObj C s.heap.objs.size) } := by
  have e1 : (s.heap.push PySem.W.emptyDict).get? s.heap.objs.size = some PySem.W.emptyDict := Heap.get?_push_size s.heap rfl
  have e2 : ((s.heap.push PySem.W.emptyDict).push (PySem.W.instObj C s.heap.objs.size)).get? (s.heap.objs.size + 1) = some (PySem.W.instObj C s.heap.objs.size) := by
    have := Heap.get?_push_size (s.heap.push PySem.W.emptyDict) (o := PySem.W.instObj C s.heap.objs.size) rfl
    rwa [Heap.size_push] at this
  have e3 : (s.heap.push PySem.W.emptyDict).Ns s.heap.objs.size (fun _ => none) := ⟨PySem.W.emptyDict, #[], _, e1, rfl, (fun e he => absurd he (by simp)), fun _ => rfl⟩
  have I1 := I.laid (a := s.heap.objs.size) (o := .own (s.heap.objs.size + 1)) (h' := s.heap.push PySem.W.emptyDict) (t' := s.toks) (fun b u q => Heap.get?_push_of_some _ q) (Nat.le_refl _) ⟨_, e1⟩
  refine I1.laid (a := s.heap.objs.size + 1) (o := .ins C s.heap.objs.size []) (t' := s.toks) (fun b u q => Heap.get?_push_of_some _ q) (Nat.le_of_eq (Heap.size_push _ _)) ?_
  have ne : s.heap.objs.size ≠ s.heap.objs.size + 1 := Nat.ne_of_lt (Nat.lt_succ_self _)
  refine ⟨by rw [upd_ne ne, upd_same], Nat.zero_le _, ne, e2, fun _ => none, (Heap.Ns1.of_empty e3).at fun o q => Heap.get?_push_of_some _ q, fun _ => True.intro, fun y hy => absurd rfl hy⟩
theorem attr_of {prog : Program} {w : World} {env : Env} {e : Expr} {f : Str} {pos : Pos} {s : Shared} {Q : Value → Shared → Prop} (hb : attributeBase e f env (eval e env) = eval e env)
    (h : wpAny (model prog w) A (eval e env) (fun o s₁ => wpAny (model prog w) A (getAttr o f true) Q E s₁) E s) : wpAny (model prog w) A (eval (.Attribute e f pos) env) Q E s :=
  Attribute_any_ h (by rw [arm_eval_Attribute, hb])
end
def tFld (K : PySem.W.Frag) (ta : TE) (f : Str) : TE := fun σ H Q => ta σ H fun x H1 => ∃ a C dx fs v, x = .ref a ∧ H1 a = some (.ins C dx fs) ∧ Cls K C ∧ NoAttr K C f ∧ fs.lookup f = some v ∧ Q v H1
def sFld (K : PySem.W.Frag) (ta tv : TE) (f : Str) : TS := fun D σ H => tv σ H fun y H1 => ta σ H1 fun x H2 => ∃ a C dx fs, x = .ref a ∧ H2 a = some (.ins C dx fs) ∧ Cls K C ∧ NoAttr K C f ∧ fs.length < 1000 ∧
  D.nx σ (upd H2 a (.ins C dx (putF f y fs)))
def InOp (X : Cx) (op : Operator) (rd : V → V → Hp → VK → Prop) : Prop :=
  ∀ (pins : List (Addr × Obj)) (s : Shared) (σ : St) (H : Hp) (x y : V) (u v : Value) (Q : VK), Inv X pins σ H s → RelV x u → RelV y v → rd x y H Q → wpAny (model X.prog X.w) X.A (inplaceOp op u v) (EP X pins σ Q) X.xe s
def sFldAug (K : PySem.W.Frag) (ta tv : TE) (rd : V → V → Hp → VK → Prop) (f : Str) : TS := fun D σ H => ta σ H fun x H1 => ∃ a C dx fs v, x = .ref a ∧ H1 a = some (.ins C dx fs) ∧ Cls K C ∧ NoAttr K C f ∧ fs.lookup f = some v ∧
  tv σ H1 fun y H2 => rd v y H2 fun z H3 => ∃ dx' fs', H3 a = some (.ins C dx' fs') ∧ fs'.length < 1000 ∧ D.nx σ (upd H3 a (.ins C dx' (putF f z fs')))
section
variable {X : Cx} {o e value : Expr} {f : Str} {pos pos' tpos : Pos} {ta tv : TE}
theorem pe_fld (he : PE X e ta) (hb : attributeBase e f X.env (eval e X.env) = eval e X.env) : PE X (.Attribute e f pos) (tFld X.K ta f) := by
  intro pins s σ H Q I h
  refine attr_of hb (thn (he pins s σ H _ I h) fun u s1 ⟨x, H1, I1, rx, a, C, dx, fs, v, ex, ea, c, n, l, q⟩ => ?_)
  subst ex
  obtain rfl : u = Value.ref a := rx
  exact getattr_ok I1 ea c n l fun u' s2 I2 ru => ⟨v, H1, I2, ru, q⟩
theorem ps_fld (ha : PE X o ta) (hv : PE X value tv) (hs : swapsWith value (some (.Attribute o f pos')) pos.line X.env = pure false) : PS X (.Assign [.Attribute o f pos'] value pos) (sFld X.K ta tv f) := by
  intro pins s σ H D I h
  refine plainObj_wpAny_Assign_Attribute (thn (hv pins s σ H _ I h) fun u s1 ⟨y, H1, I1, ry, q⟩ => thn (ha pins s1 σ H1 _ I1 q) fun ov s2 ⟨x, H2, I2, rx, a, C, dx, fs, ex, ea, c, n, l, q2⟩ => ?_) hs
  subst ex
  obtain rfl : ov = Value.ref a := rx
  exact setattr_ok I2 ea c n l ry fun s3 I3 => ⟨σ, _, I3, q2⟩
theorem ps_fldaug {op : Operator} {rd : V → V → Hp → VK → Prop} (ha : PE X o ta) (hv : PE X value tv) (hop : InOp X op rd) : PS X (.AugAssign (.Attribute o f tpos) op value pos) (sFldAug X.K ta tv rd f) := by
  intro pins s σ H D I h
  refine wpAny_AugAssign_AttributeAny (thn (ha pins s σ H _ I h) fun ov s1 ⟨x, H1, I1, rx, a, C, dx, fs, v, ex, ea, c, n, l, q⟩ => ?_)
  subst ex
  obtain rfl : ov = Value.ref a := rx
  refine getattr_ok I1 ea c n l fun u s2 I2 ru => thn (hv pins s2 σ H1 _ I2 q) fun w3 s3 ⟨y, H2, I3, ry, q3⟩ => thn (hop pins s3 σ H2 v y u w3 _ I3 ru ry q3) fun w4 s4 ⟨z, H3, I4, rz, dx', fs', ea', l', q4⟩ => ?_
  exact setattr_ok I4 ea' c n l' rz fun s5 I5 => ⟨σ, _, I5, q4⟩
def rAdd : V → V → Hp → VK → Prop := fun x y H Q => ∃ i j, x = .int i ∧ y = .int j ∧ Q (.int (i + j)) H
theorem in_add : InOp X .Add rAdd := by
  rintro pins s σ H x y u v Q I rx ry ⟨i, j, rfl, rfl, q⟩
  obtain ⟨t, rfl⟩ := (show ∃ t, u = Value.int i t from rx)
  obtain ⟨t', rfl⟩ := (show ∃ t', v = Value.int j t' from ry)
  exact PyProof.Rows.iadd_int ⟨.int (i + j), H, I.tok _, ⟨_, rfl⟩, q⟩
end
section
variable {X : Cx} {pins : List (Addr × Obj)} {σ : St} {H : Hp} {s : Shared} {A : Around} {E : Value → Shared → Prop} {Q : Value → Shared → Prop} {c : Value} {b : Bool}
end
end L2
namespace L2
open PySem PySem.Spec PyProof.Rows
structure Room (k : Nat) (A : Around) : Prop where
  hd : A.handled = none
  dp : A.depth + 3 * k + 5 < recursionLimit
  un : A.units + 16 * k + 200 < cLine
theorem Room.mono {j k : Nat} {A : Around} (r : Room k A) (h : j ≤ k) : Room j A := ⟨r.hd, by have := r.dp; omega, by have := r.un; omega⟩
theorem Room.deeper {k : Nat} {A : Around} (r : Room (k + 1) A) (env : Env) : Room k (A.deeper env) :=
  ⟨r.hd, by have := r.dp; show A.depth + 1 + 3 * k + 5 < _; omega, by have := r.un; show A.units + 3 + 16 * k + 200 < _; omega⟩
theorem make_depth {A : Around} {C : Addr} {us : List Value} {kw : List (Str × Value)} : (A.under (.builtin "type.__call__" ⟨.ref C :: us, kw⟩)).depth = A.depth + 1 := by
  first | rfl | simp [Around.under, Code.weight, Code.isCreation, Code.isGuard, Code.isCaller, Code.frames, Code.isFrame, guardIds]
theorem make_units {A : Around} {C : Addr} {us : List Value} {kw : List (Str × Value)} : (A.under (.builtin "type.__call__" ⟨.ref C :: us, kw⟩)).units = A.units + 1 := by
  first | rfl | simp [Around.under, Code.cUnits, Code.frames, Code.isFrame]
theorem Room.make {k : Nat} {A : Around} (r : Room (k + 1) A) (C : Addr) (us : List Value) (kw : List (Str × Value)) : Room k (A.under (.builtin "type.__call__" ⟨.ref C :: us, kw⟩)) :=
  ⟨r.hd, by have := r.dp; rw [make_depth]; omega, by have := r.un; rw [make_units]; omega⟩
theorem Room.depth {k : Nat} {A : Around} (r : Room k A) : A.depth < recursionLimit := by have := r.dp; omega
theorem Room.units {k : Nat} {A : Around} (r : Room k A) : A.units + 64 < cLine := by have := r.un; omega
def tNil : TA := fun _ H Q => Q [] H
def tCons (ta : TE) (tr : TA) : TA := fun σ H Q => ta σ H fun x H1 => tr σ H1 fun xs H2 => Q (x :: xs) H2
section
variable {X : Cx} {e : Expr} {es : List Expr} {te : TE} {t : TA} {pos : Pos}
theorem pa_nil : PA X [] tNil := fun _ _ _ _ H Q I h => Calls.spliced_nil ⟨[], H, I, .nil, h⟩
theorem pa_cons (ha : PE X e te) (hr : PA X es t) (hs : starEach (e :: es) X.env = (false, eval e X.env) :: starEach es X.env := by rfl) : PA X (e :: es) (tCons te t) := by
  intro pos pins s σ H Q I h
  rw [hs]
  show wpAny _ _ (spliced ((false, eval e X.env) :: backTo pos (starEach es X.env))) _ _ s
  refine Calls.spliced_cons (thn (ha pins s σ H _ I h) fun u s1 ⟨x, H1, I1, r1, q1⟩ => ?_)
  exact thn (hr pos pins s1 σ H1 _ I1 q1) fun us s2 ⟨xs, H2, I2, r2, q2⟩ => ⟨x :: xs, H2, I2, .cons r1 r2, q2⟩
def tTup (t : TA) : TE := fun σ H Q => t σ H fun xs H1 => xs.length ≤ sizeLine ∧ ∀ p, H1 p = none → Q (.ref p) (upd H1 p (.tup xs))
def tLst (t : TA) : TE := fun σ H Q => t σ H fun xs H1 => xs.length ≤ sizeLine ∧ ∀ p, H1 p = none → Q (.ref p) (upd H1 p (.lst xs))
theorem pe_tup {x1} (h : PA X es t) : PE X (.Tuple es x1 pos) (tTup t) := by
  intro pins s σ H Q I hq
  refine wpAny_Tuple_spliced (thn (h pos pins s σ H _ I hq) fun us s1 ⟨xs, H1, I1, r, z, q⟩ => ⟨by rw [← r.length]; exact z, ?_⟩)
  have hf : H1 s1.heap.objs.size = none := I1.hok.fresh (Nat.le_refl _)
  refine ⟨.ref s1.heap.objs.size, upd H1 s1.heap.objs.size (.tup xs), I1.laid (t' := s1.toks) (fun b u e => Heap.get?_push_of_some _ e) (Nat.le_refl _) ?_, rfl, q _ hf⟩
  exact ⟨z, us, r, ⟨_, Heap.get?_push_size _ rfl, rfl, _, rfl⟩⟩
theorem pe_lst (h : PA X es t) : PE X (.List es pos) (tLst t) := by
  intro pins s σ H Q I hq
  refine wpAny_List_spliced (thn (h pos pins s σ H _ I hq) fun us s1 ⟨xs, H1, I1, r, z, q⟩ => ⟨by rw [← r.length]; exact z, ?_⟩)
  have hf : H1 s1.heap.objs.size = none := I1.hok.fresh (Nat.le_refl _)
  refine ⟨.ref s1.heap.objs.size, upd H1 s1.heap.objs.size (.lst xs), I1.laid (t' := s1.toks) (fun b u e => Heap.get?_push_of_some _ e) (Nat.le_refl _) ?_, rfl, q _ hf⟩
  exact ⟨z, us, 0, r, Heap.get?_push_size _ rfl⟩
end
abbrev Sp := List V → Hp → VK → XK → Prop
abbrev CXT := List Env → Hp → Shared → XK → Value → Shared → Prop
structure Env0 (P : Program) (w : World) (K : PySem.W.Frag) (mg : Str → Option Value) (base : Heap) (A : Around) (outer : List Env) (s : Shared) (H : Hp) : Prop where
  frames : A.frames = some outer
  mod : Mod K mg base
  bs : ∀ b o, base.get? b = some o → s.heap.get? b = some o ∧ H b = none
  bsz : base.objs.size ≤ s.heap.objs.size
  funs : s.heap.FunFrames base outer
  frf : ∀ b ∈ frs outer, H b = none
  hok : HOk P w H s.heap
  bare : AllBare s.gens
def CE (outer : List Env) (P : Program) (w : World) (H : Hp) (s : Shared) (Q : VK) (u : Value) (s' : Shared) : Prop :=
  ∃ v H', s'.os = s.os ∧ AllBare s'.gens ∧ Un (frs outer) [] H H' s.heap s'.heap ∧ HOk P w H' s'.heap ∧ RelV v u ∧ Q v H'
def CR (CX : CXT) (outer : List Env) (P : Program) (w : World) (H : Hp) (s : Shared) (Q : VK) (E : XK) (r : Result) (s' : Shared) : Prop :=
  match r with
  | .ok (.ret u) => CE outer P w H s Q u s'
  | .ok _ => False
  | .error e => CX outer H s E e s'
structure FnOk (P : Program) (w : World) (K : PySem.W.Frag) (mg : Str → Option Value) (base : Heap) (CX : CXT) (k : Nat) (f : Addr) (fd : FuncData) (ps : List Str) (sp : Sp) : Prop where
  len : ∀ vs H Q E, sp vs H Q E → vs.length = ps.length
  run : ∀ (A : Around) (outer : List Env) (s : Shared) (H : Hp) (args : Args) (us : List Value) (vs : List V) (Q : VK) (E : XK), Room k A → Env0 P w K mg base A outer s H → BindsTo s fd args (ps.zip us) → Vals vs us → sp vs H Q E →
    codeAny (model P w) A (.call (.ref f) args) (CR CX outer P w H s Q E) s
theorem FnOk.mono {P : Program} {w : World} {K : PySem.W.Frag} {mg : Str → Option Value} {base : Heap} {CX : CXT} {j k : Nat} {f : Addr} {fd : FuncData} {ps : List Str} {sp : Sp} (F : FnOk P w K mg base CX j f fd ps sp) (h : j ≤ k) :
    FnOk P w K mg base CX k f fd ps sp := ⟨F.len, fun A outer s H args us vs Q E hr => F.run A outer s H args us vs Q E (hr.mono h)⟩
theorem Env0.make {P : Program} {w : World} {K : PySem.W.Frag} {mg : Str → Option Value} {base : Heap} {A : Around} {outer : List Env} {s : Shared} {H : Hp} (e : Env0 P w K mg base A outer s H) (C : Addr) (us : List Value) (kw : List (Str × Value)) :
    Env0 P w K mg base (A.under (.builtin "type.__call__" ⟨.ref C :: us, kw⟩)) outer s H := ⟨by first | exact e.frames | (simpa [Around.under, Code.envs, Code.isFrame, pushEnvs] using e.frames), e.mod, e.bs, e.bsz, e.funs, e.frf, e.hok, e.bare⟩
section
variable {X : Cx} {pins : List (Addr × Obj)} {σ : St} {H : Hp} {s s' : Shared}
theorem Inv.env0 (I : Inv X pins σ H s) : Env0 X.prog X.w X.K X.mg X.base X.A X.stack s H :=
  ⟨I.ok.frames, I.ok.mod, I.bs, Nat.le_trans I.ok.bsz I.sz, I.stack, I.stkFree, I.hok, I.bare⟩
theorem Inv.after {Q : VK} {u : Value} (I : Inv X pins σ H s) (h : CE X.stack X.prog X.w H s Q u s') : EP X pins σ Q u s' := by
  obtain ⟨v, H', os, bare, un, hok, r, q⟩ := h
  obtain ⟨hh, g, d, t, os'⟩ := s'
  obtain rfl : os' = s.os := os
  exact ⟨v, H', I.call (h' := hh) (g' := g) (d' := d) (t' := t) (ch := []) un hok bare (fun b z => absurd z (by simp)), r, q⟩
end
def tCall (sp : Sp) (dvs : List V) (E : XK) (t : TA) : TE := fun σ H Q => t σ H fun vs H1 => sp (vs ++ dvs) H1 Q E
def tMeth (C : Addr) (m : Str) (sp : Sp) (dvs : List V) (E : XK) (ta : TE) (t : TA) : TE := fun σ H Q => ta σ H fun x H1 => ∃ a dx fs, x = .ref a ∧ H1 a = some (.ins C dx fs) ∧ fs.lookup m = none ∧
  t σ H1 fun vs H2 => sp (x :: (vs ++ dvs)) H2 Q E
def tMake (C : Addr) (sp : Sp) (dvs : List V) (E : XK) (t : TA) : TE := fun σ H Q => t σ H fun vs H1 => ∀ x dx, H1 x = none → H1 dx = none → dx ≠ x →
  sp (.ref x :: (vs ++ dvs)) (upd (upd H1 dx (.own x)) x (.ins C dx [])) (fun v H2 => v = .non ∧ Q (.ref x) H2) E
def Binds (K : PySem.W.Frag) (fd : FuncData) (ps : List Str) (ds : List Value) : Prop :=
  ∀ (s : Shared) (us : List Value), K.In s.heap → (us ++ ds).length = ps.length → BindsTo s fd ⟨us, []⟩ (ps.zip (us ++ ds))
theorem Binds.all {K : PySem.W.Frag} {fd : FuncData} {ps : List Str} (h : ∀ us : List Value, us.length = ps.length → bindArgs fd ⟨us, []⟩ = pure (ps.zip us)) : Binds K fd ps [] := fun s us _ hl => by
  rw [List.append_nil] at hl ⊢
  exact .of_eq (h us hl)
def Passes (CX : CXT) (X : Cx) (E : XK) : Prop := ∀ (pins : List (Addr × Obj)) (σ : St) (H : Hp) (s : Shared) (e : Value) (s' : Shared), Inv X pins σ H s → CX X.stack H s E e s' → X.xe e s'
section
variable {X : Cx} {CX : CXT} {k : Nat} {f C : Addr} {fd : FuncData} {ps : List Str} {sp : Sp} {dvs : List V} {ds : List Value} {E : XK} {x m : Str} {p pos apos : Pos} {e o : Expr} {es : List Expr} {ta : TE} {t : TA}
theorem run_fn {pins : List (Addr × Obj)} {σ : St} {H : Hp} {s : Shared} {Q : VK} {us : List Value} {vs : List V} (F : FnOk X.prog X.w X.K X.mg X.base CX k f fd ps sp) (hr : Room k X.A) (hb : Binds X.K fd ps ds) (hd : Vals dvs ds) (hx : Passes CX X E)
    (I : Inv X pins σ H s) (r : Vals vs us) (h : sp (vs ++ dvs) H Q E) : wpAny (model X.prog X.w) X.A (call (.ref f) us) (EP X pins σ Q) X.xe s := by
  have r2 : Vals (vs ++ dvs) (us ++ ds) := r.append hd
  have hl : (us ++ ds).length = ps.length := by rw [← r2.length]; exact F.len _ _ _ _ h
  refine wpAny_call (codeAny_mono (F.run X.A X.stack s H ⟨us, []⟩ (us ++ ds) (vs ++ dvs) Q E hr I.env0 (hb s us I.kIn hl) r2 h) fun r s' hq => ?_)
  cases r with
  | error e => exact hx pins σ H s e s' I hq
  | ok fl =>
    cases fl with
    | ret u => exact I.after hq
    | next => exact False.elim hq
    | brk => exact False.elim hq
    | cont => exact False.elim hq
theorem pe_call (F : FnOk X.prog X.w X.K X.mg X.base CX k f fd ps sp) (hr : Room k X.A) (hg : Gl X x) (hm : X.mg x = some (.ref f)) (hk : PySem.W.keepIn X.K (.ref f) = true) (hb : Binds X.K fd ps ds) (hd : Vals dvs ds) (hx : Passes CX X E)
    (ha : PA X (e :: es) t) (hdb : (x == ("__debug__" : Str)) = false := by decide) (he : starEach (e :: es) X.env = (false, eval e X.env) :: starEach es X.env := by rfl) (hpl : (backTo pos (starEach es X.env)).any (·.1) = false := by rfl) :
    PE X (.Call (.Name x p) (e :: es) [] pos) (tCall sp dvs E t) := by
  intro pins s σ H Q I h
  refine wpAny_Call_Name_kw (ld_glob I hg hm ?_ hdb)
  refine PySem.W.callWith_K (h₀ := X.base) I.ok.mod.kin hk (thn (ha pos pins s σ H _ I h) fun us s1 ⟨vs, H1, I1, r, q⟩ => ⟨I1.kIn, ?_⟩) he hpl
  exact run_fn F hr hb hd hx I1 r q
theorem pe_meth {pl : Sem Bool} (he : PE X o ta) (c : Cls X.K C) (hm : Meth X.K C m f) (F : FnOk X.prog X.w X.K X.mg X.base CX k f fd ps sp) (hr : Room k X.A) (hb : Binds X.K fd ps ds) (hd : Vals dvs ds) (hx : Passes CX X E) (ha : PA X (e :: es) t)
    (hst : starEach (e :: es) X.env = (false, eval e X.env) :: starEach es X.env := by rfl) (hpl : (backTo pos (starEach es X.env)).any (·.1) = false := by rfl)
    (ht : eval (.Call (.Attribute o m apos) (e :: es) [] pos) X.env = (do
      let ov ← eval o X.env
      standAt apos.atName
      let (f, first) ← holding [ov] (getMethod ov m pl)
      callWith pos f first (backTo pos (starEach (e :: es) X.env)) (backToKw pos (keywordEach [] X.env))) := by rfl) :
    PE X (.Call (.Attribute o m apos) (e :: es) [] pos) (tMeth C m sp dvs E ta t) := by
  intro pins s σ H Q I h
  refine PySem.W.methodCall_KW (pl := pl) (thn (he pins s σ H _ I h) fun u s1 ⟨x, H1, I1, rx, a, dx, fs, ex, ea, l, q⟩ => ?_) ht
  subst ex
  obtain rfl : u = Value.ref a := rx
  refine getmeth_ok I1 ea c hm l ?_
  refine PySem.W.callWith_K (first := [.ref a]) (h₀ := X.base) I.ok.mod.kin hm.kp (thn (ha pos pins s1 σ H1 _ I1 q) fun us s2 ⟨vs, H2, I2, r, q2⟩ => ⟨I2.kIn, ?_⟩) hst hpl
  exact run_fn (us := .ref a :: us) (vs := .ref a :: vs) F hr hb hd hx I2 (.cons rfl r) q2
theorem pe_meth0 {pl : Sem Bool} (he : PE X o ta) (c : Cls X.K C) (hm : Meth X.K C m f) (F : FnOk X.prog X.w X.K X.mg X.base CX k f fd ps sp) (hr : Room k X.A) (hb : Binds X.K fd ps ds) (hd : Vals dvs ds) (hx : Passes CX X E)
    (ht : eval (.Call (.Attribute o m apos) [] [] pos) X.env = (do
      let ov ← eval o X.env
      standAt apos.atName
      let (f, first) ← holding [ov] (getMethod ov m pl)
      callWith pos f first (backTo pos (starEach [] X.env)) (backToKw pos (keywordEach [] X.env))) := by rfl) :
    PE X (.Call (.Attribute o m apos) [] [] pos) (tMeth C m sp dvs E ta tNil) := by
  intro pins s σ H Q I h
  refine PySem.W.methodCall_KW (pl := pl) (thn (he pins s σ H _ I h) fun u s1 ⟨x, H1, I1, rx, a, dx, fs, ex, ea, l, q⟩ => ?_) ht
  subst ex
  obtain rfl : u = Value.ref a := rx
  refine getmeth_ok I1 ea c hm l ?_
  exact PySem.W.callWith_K0 (first := [.ref a]) I1.kIn hm.kp (run_fn (us := [.ref a]) (vs := [.ref a]) F hr hb hd hx I1 (.cons rfl .nil) q)
structure Mk (K : PySem.W.Frag) (C f : Addr) : Prop where
  makes : PySem.W.makesIn K C = true
  init : PySem.W.findIn K (.ref C) "__init__" = some (some (.ref f))
  fn : PySem.W.isFn K (.ref f) = true
  kp : PySem.W.keepIn K (.ref C) = true
theorem run_make {pins : List (Addr × Obj)} {σ : St} {H : Hp} {s : Shared} {Q : VK} {us : List Value} {vs : List V} (M : Mk X.K C f) (F : FnOk X.prog X.w X.K X.mg X.base CX k f fd ps sp) (hr : Room (k + 1) X.A) (hb : Binds X.K fd ps ds) (hd : Vals dvs ds)
    (hx : Passes CX X E) (I : Inv X pins σ H s) (r : Vals vs us)
    (h : ∀ x dx, H x = none → H dx = none → dx ≠ x → sp (.ref x :: (vs ++ dvs)) (upd (upd H dx (.own x)) x (.ins C dx [])) (fun v H2 => v = .non ∧ Q (.ref x) H2) E) :
    wpAny (model X.prog X.w) X.A (call (.ref C) us) (EP X pins σ Q) X.xe s := by
  have hq := h (s.heap.objs.size + 1) s.heap.objs.size (I.hok.fresh (Nat.le_succ _)) (I.hok.fresh (Nat.le_refl _)) (Nat.ne_of_lt (Nat.lt_succ_self _))
  have I2 := Inv.made (C := C) I
  have r2 : Vals (V.ref (s.heap.objs.size + 1) :: (vs ++ dvs)) (Value.ref (s.heap.objs.size + 1) :: (us ++ ds)) := .cons rfl (r.append hd)
  have hl : (Value.ref (s.heap.objs.size + 1) :: us ++ ds).length = ps.length := by
    have e := r2.length
    rw [F.len _ _ _ _ hq] at e
    exact e.symm
  refine wpAny_call (make_map (f := f) I.kIn M.makes M.init (beq_iff_eq.mp M.fn) (codeAny_mono (F.run _ X.stack _ _ ⟨Value.ref (s.heap.objs.size + 1) :: us, []⟩ (Value.ref (s.heap.objs.size + 1) :: (us ++ ds)) _ _ E (hr.make C us [])
    (I2.env0.make C us []) (hb _ (Value.ref (s.heap.objs.size + 1) :: us) I2.kIn hl) r2 hq) fun r s' hq' => ?_))
  cases r with
  | error e => exact hx pins σ _ _ e s' I2 hq'
  | ok fl =>
    cases fl with
    | ret u =>
      obtain ⟨v, H', I3, rv, ev, q3⟩ := I2.after hq'
      subst ev
      exact ⟨rv, ⟨V.ref (s.heap.objs.size + 1), H', I3, rfl, q3⟩⟩
    | next => exact False.elim hq'
    | brk => exact False.elim hq'
    | cont => exact False.elim hq'
theorem pe_make (M : Mk X.K C f) (F : FnOk X.prog X.w X.K X.mg X.base CX k f fd ps sp) (hr : Room (k + 1) X.A) (hg : Gl X x) (hm : X.mg x = some (.ref C)) (hb : Binds X.K fd ps ds) (hd : Vals dvs ds) (hx : Passes CX X E)
    (ha : PA X (e :: es) t) (hdb : (x == ("__debug__" : Str)) = false := by decide) (he : starEach (e :: es) X.env = (false, eval e X.env) :: starEach es X.env := by rfl) (hpl : (backTo pos (starEach es X.env)).any (·.1) = false := by rfl) :
    PE X (.Call (.Name x p) (e :: es) [] pos) (tMake C sp dvs E t) := by
  intro pins s σ H Q I h
  refine wpAny_Call_Name_kw (ld_glob I hg hm ?_ hdb)
  refine PySem.W.callWith_K (h₀ := X.base) I.ok.mod.kin M.kp (thn (ha pos pins s σ H _ I h) fun us s1 ⟨vs, H1, I1, r, q⟩ => ⟨I1.kIn, ?_⟩) he hpl
  exact run_make M F hr hb hd hx I1 r q
theorem pe_make0 (M : Mk X.K C f) (F : FnOk X.prog X.w X.K X.mg X.base CX k f fd ps sp) (hr : Room (k + 1) X.A) (hg : Gl X x) (hm : X.mg x = some (.ref C)) (hb : Binds X.K fd ps ds) (hd : Vals dvs ds) (hx : Passes CX X E)
    (hdb : (x == ("__debug__" : Str)) = false := by decide) : PE X (.Call (.Name x p) [] [] pos) (tMake C sp dvs E tNil) := by
  intro pins s σ H Q I h
  refine wpAny_Call_Name_kw (ld_glob I hg hm ?_ hdb)
  exact PySem.W.callWith_K0 I.kIn M.kp (run_make (us := []) M F hr hb hd hx I .nil h)
end
section
variable {X : Cx} {CX : CXT} {k : Nat} {f C : Addr} {fd : FuncData} {ps ks : List Str} {sp : Sp} {E : XK} {x m : Str} {p pos apos kpos : Pos} {e o : Expr} {es : List Expr} {kws : List Keyword} {te ta : TE} {t tk : TA} {nm : Option Str}
variable {g : List Value → List Value → List Value} {gV : List V → List V → List V}
end
structure FnScope (N P : List Str) (sc : Scope) : Prop where
  kind : sc.kind = .function
  co : sc.isCoroutine = false
  gen : sc.isGenerator = false
  nd : N.Nodup
  pre : N.take P.length = P
  par : ∀ x ∈ P, sc.names.lookup x = some .local ∨ sc.names.lookup x = some .cell
  nofree : ∀ y ∈ sc.names, y.2 ≠ .free
theorem bindL_out {kindOf : Str → Option NameKind} {x : Str} : ∀ {binds : List (Str × Value)} {m : Str → Option Value}, (∀ v, (x, v) ∉ binds) → bindL kindOf binds m x = m x
  | [], _, _ => rfl
  | (n, v) :: r, m, h => by
    unfold bindL
    rw [bindL_out fun w hw => h w (List.mem_cons_of_mem _ hw)]
    split
    · have : x ≠ n := by rintro rfl; exact h v List.mem_cons_self
      simp [this]
    · rfl
theorem bindC_out {kindOf : Str → Option NameKind} {x : Str} : ∀ {binds : List (Str × Value)} {m : Str → Option Value}, (∀ v, (x, v) ∉ binds) → bindC kindOf binds m x = m x
  | [], _, _ => rfl
  | (n, v) :: r, m, h => by
    unfold bindC
    rw [bindC_out fun w hw => h w (List.mem_cons_of_mem _ hw)]
    split
    · rfl
    · have : x ≠ n := by rintro rfl; exact h v List.mem_cons_self
      simp [this]
theorem bindL_get {kindOf : Str → Option NameKind} {x : Str} {v : Value} : ∀ {P : List Str} {vs : List Value} {i : Nat} {m : Str → Option Value}, P.Nodup → P[i]? = some x → vs[i]? = some v → kindOf x = some .local →
    bindL kindOf (P.zip vs) m x = some v
  | [], _, _, _, _, h, _, _ => by simp at h
  | _ :: _, [], _, _, _, _, h, _ => by simp at h
  | p :: P, w :: vs, 0, m, nd, h1, h2, hk => by
    simp at h1 h2; subst h1; subst h2
    show bindL kindOf ((p, w) :: P.zip vs) m p = _
    unfold bindL
    rw [bindL_out fun v hv => (List.nodup_cons.mp nd).1 (List.of_mem_zip hv).1, if_pos hk]
    simp
  | p :: P, w :: vs, i + 1, m, nd, h1, h2, hk => by
    show bindL kindOf ((p, w) :: P.zip vs) m x = _
    unfold bindL
    exact bindL_get (i := i) (List.nodup_cons.mp nd).2 (by simpa using h1) (by simpa using h2) hk
theorem bindC_get {kindOf : Str → Option NameKind} {x : Str} {v : Value} : ∀ {P : List Str} {vs : List Value} {i : Nat} {m : Str → Option Value}, P.Nodup → P[i]? = some x → vs[i]? = some v → kindOf x ≠ some .local →
    bindC kindOf (P.zip vs) m x = some v
  | [], _, _, _, _, h, _, _ => by simp at h
  | _ :: _, [], _, _, _, _, h, _ => by simp at h
  | p :: P, w :: vs, 0, m, nd, h1, h2, hk => by
    simp at h1 h2; subst h1; subst h2
    show bindC kindOf ((p, w) :: P.zip vs) m p = _
    unfold bindC
    rw [bindC_out fun v hv => (List.nodup_cons.mp nd).1 (List.of_mem_zip hv).1, if_neg hk]
    simp
  | p :: P, w :: vs, i + 1, m, nd, h1, h2, hk => by
    show bindC kindOf ((p, w) :: P.zip vs) m x = _
    unfold bindC
    exact bindC_get (i := i) (List.nodup_cons.mp nd).2 (by simpa using h1) (by simpa using h2) hk
def start (N : List Str) (vs : List V) : St := vs.map some ++ List.replicate (N.length - vs.length) none
def cxOf (CX : CXT) (P : Program) (w : World) (K : PySem.W.Frag) (mg : Str → Option Value) (base : Heap) (N : List Str) (qual : Str) (scope : Scope) (f : Addr) (cd : Value) (A : Around) (outer : List Env) (s : Shared) (H : Hp) (E : XK) : Cx where
  prog := P
  w := w
  K := K
  mg := mg
  base := base
  A := A.deeper (envOfC qual scope s.heap.objs.size f cd)
  N := N
  s_0 := s
  H_0 := H
  env := envOfC qual scope s.heap.objs.size f cd
  outer := outer
  stack := envOfC qual scope s.heap.objs.size f cd :: outer
  ex := []
  calm := true
  fn := fun _ => true
  pn := []
  xe := fun e s' => wpAny (model P w) (A.deeper (envOfC qual scope s.heap.objs.size f cd)) (leaving (envOfC qual scope s.heap.objs.size f cd) e) (fun _ s'' => CX outer H s E e s'') (fun e' s'' => CX outer H s E e' s'') s'
theorem cell_has {sc : Scope} {n : Nat} {x : Str} (h : sc.names.lookup x = some .cell) : ∃ c, (cellsFrom n sc.names []).lookup x = some c := by
  have q := PySem.W.cellsFrom_some sc.names n [] (.inl h)
  exact Option.isSome_iff_exists.mp q
theorem inv_start {CX : CXT} {P : Program} {w : World} {K : PySem.W.Frag} {mg : Str → Option Value} {base : Heap} {N ps : List Str} {qual : Str} {scope : Scope} {f : Addr} {cd : Value} {A : Around} {outer : List Env} {s s1 : Shared} {H : Hp} {E : XK} {us : List Value} {vs : List V}
    (S : FnScope N ps scope) (hd : A.handled = none) (e0 : Env0 P w K mg base A outer s H) (hl : vs.length = ps.length) (r : Vals vs us)
    (x : InCallC s s.heap.objs.size (bindL (envOfC qual scope s.heap.objs.size f cd).kindOf (ps.zip us) fun _ => none) (cellsFrom (s.heap.objs.size + 1) scope.names []) (bindC (envOfC qual scope s.heap.objs.size f cd).kindOf (ps.zip us) fun _ => none) s1) :
    Inv (cxOf CX P w K mg base N qual scope f cd A outer s H E) [] (start N vs) H s1 := by
  have hpl : ps.length ≤ N.length := by have := congrArg List.length S.pre; rw [List.length_take] at this; omega
  obtain ⟨h1, tk, rfl, hk⟩ := x.done
  have noA : ∀ b : Addr, b ∉ (cxOf CX P w K mg base N qual scope f cd A outer s H E).ex := fun b z => absurd (show b ∈ ([] : List Addr) from z) (by simp)
  refine ⟨⟨e0.mod, S.kind, rfl, rfl, Nat.le_refl _, fun y z c h1 h2 => ?_, fun y hy => ?_, fun y c _ h => ?_, fun _ => hd, Around.frames_deeper e0.frames, .inr ⟨rfl, rfl⟩, fun b z => absurd z (noA b), e0.bs, e0.bsz, fun b _ _ => noA b, fun b z => absurd z (noA b), e0.funs, e0.frf⟩,
    rfl, e0.bare, Un.kept hk, ⟨_, x.toInCall.ns, fun i y v h1 h2 h3 => ?_⟩, fun y c h => ⟨_, x.cell y c h⟩, e0.hok.fresh (Nat.le_refl _), fun y c h => ?_, fun p hp => absurd (show p ∈ ([] : List (Addr × Obj)) from hp) (by simp), e0.hok.kept hk, ?_⟩
  · exact name_of_addr x.apart (PySem.mem_of_lookup h1) (PySem.mem_of_lookup h2)
  · have hy : scope.names.lookup y = some .cell ∨ scope.names.lookup y = some .free := hy
    rcases hy with hy | hy
    · exact cell_has hy
    · exact absurd rfl (S.nofree _ (PySem.mem_of_lookup hy))
  · exact Nat.le_of_lt (x.above y c (PySem.mem_of_lookup h))
  · have hi : i < vs.length := by
      unfold start at h2
      by_cases hi : i < vs.length
      · exact hi
      · rw [List.getElem?_append_right (by simpa using hi)] at h2
        rw [List.getElem?_replicate] at h2
        split at h2 <;> cases h2
    have ha : vs[i]? = some v := by
      unfold start at h2
      rw [List.getElem?_append_left (by simpa using hi), List.getElem?_map] at h2
      cases e : vs[i]? with
      | none => rw [e] at h2; cases h2
      | some a => rw [e] at h2; cases h2; rfl
    obtain ⟨u, hu, rv⟩ := r.get ha
    have hp : ps[i]? = some y := by
      rw [← S.pre, List.getElem?_take_of_lt (by omega)]; exact h1
    have ndP : ps.Nodup := by rw [← S.pre]; exact S.nd.sublist (List.take_sublist _ _)
    refine ⟨u, rv, ?_⟩
    rcases S.par y (List.mem_of_getElem? hp) with k | k
    · exact .inl ⟨k, bindL_get ndP hp hu k⟩
    · obtain ⟨c, e⟩ := cell_has (n := s.heap.objs.size + 1) k
      refine .inr ⟨.inl k, c, e, ?_⟩
      have q := x.cell y c e
      rw [bindC_get ndP hp hu (by show scope.names.lookup y ≠ _; rw [k]; decide)] at q
      exact q
  · exact e0.hok.fresh (Nat.le_of_lt (x.above y c (PySem.mem_of_lookup h)))
  · unfold start
    show _ = N.length
    rw [List.length_append, List.length_map, List.length_replicate]
    omega
theorem fn_of {CX : CXT} {P : Program} {w : World} {K : PySem.W.Frag} {mg : Str → Option Value} {base : Heap} {k : Nat} {f : Addr} {name qual : Str} {params : Arguments} {body : List Stmt} {scope : Scope} {dV kV doc pm cdv ct oc : Value} {an od : Option Addr}
    {osl : Array (Option Value)} {N ps : List Str} {sp : Sp} (lk : K.lookup f = some ⟨oc, od, .func (PySem.W.fnOf name qual params body scope dV kV doc pm an cdv ct), osl⟩) (hcd : PySem.W.codeIn K cdv qual = true) (S : FnScope N ps scope)
    (len : ∀ vs H Q E, sp vs H Q E → vs.length = ps.length)
    (hbody : ∀ (A : Around) (outer : List Env) (s : Shared) (H : Hp) (vs : List V) (Q : VK) (E : XK), Room k (A.deeper (envOfC qual scope s.heap.objs.size f cdv)) → sp vs H Q E →
      ∃ t, PSs (cxOf CX P w K mg base N qual scope f cdv A outer s H E) body t ∧ t { nx := fun _ H' => Q .non H', rt := Q } (start N vs) H) :
    FnOk P w K mg base CX (k + 1) f (PySem.W.fnOf name qual params body scope dV kV doc pm an cdv ct) ps sp := by
  refine ⟨len, fun A outer s H args us vs Q E hr e0 hb r hsp => ?_⟩
  have hl := len _ _ _ _ hsp
  have KX : K.In s.heap := e0.mod.kin.keeps fun b o e => (e0.bs b o e).1
  have lim : s.heap.NoLimit := e0.mod.nolimit.keeps fun b o e => (e0.bs b o e).1
  have hkind : ∀ y ∈ ps.zip us, scope.names.lookup y.1 = some .local ∨ (scope.names.lookup y.1 = some .cell ∧ ((cellsFrom (s.heap.objs.size + 1) scope.names []).lookup y.1).isSome = true) := fun ⟨n, v⟩ hy => by
    rcases S.par n (List.of_mem_zip hy).1 with q | q
    · exact .inl q
    · exact .inr ⟨q, PySem.W.cellsFrom_some _ _ _ (.inl q)⟩
  refine codeAny_call_function hr.depth (KX _ _ lk) rfl S.co S.gen rfl (PySem.W.codeRec_of KX hcd) (hb _ _ _ _ ?_)
  refine wpAny_newFunctionEnv_cells S.kind hkind fun env he s1 x => ?_
  subst he
  refine ⟨lim.keeps x.toInCall.keep, codeAny_func ?_⟩
  obtain ⟨t, ht, hq⟩ := hbody A outer s H vs Q E (hr.deeper _) hsp
  have I : Inv (cxOf CX P w K mg base N qual scope f cdv A outer s H E) [] (start N vs) H s1 := inv_start S hr.hd e0 hl r x
  refine wpAny_mono (ht [] s1 (start N vs) H _ I hq) (fun fl s' hs => ?_) fun e s' hs => hs
  have fin : ∀ {σ' : St} {H' : Hp} {v : V} {u : Value}, Inv (cxOf CX P w K mg base N qual scope f cdv A outer s H E) [] σ' H' s' → RelV v u → Q v H' → CE outer P w H s Q u s' :=
    fun {σ' H' v u} J rv q => ⟨v, H', J.os, J.bare, J.base, J.hok, rv, q⟩
  cases fl with
  | ret u =>
    obtain ⟨v, σ', H', J, rv, q⟩ := hs
    exact fin J rv q
  | next =>
    obtain ⟨σ', H', J, q⟩ := hs
    exact fin (v := V.non) (u := Value.none) J rfl q
  | brk =>
    obtain ⟨_, _, _, q⟩ := hs
    exact False.elim q
  | cont =>
    obtain ⟨_, _, _, q⟩ := hs
    exact False.elim q
end L2
namespace L2
open PySem PySem.Spec PyProof.Rows
section
variable {X : Cx} {x : Str} {p pos : Pos} {e : Expr} {es : List Expr} {t : TA} {id T : String} {r : List V → Hp → VK → Prop}
def tCB (r : List V → Hp → VK → Prop) (t : TA) : TE := fun σ H Q => t σ H fun vs H1 => r vs H1 Q
theorem pe_callB (hc : CallR X (.builtin id) r) (hg : Gl X x) (hm : X.mg x = none) (hv : bootBuiltins x = some (.builtin id)) (ha : PA X (e :: es) t) (hn : x ≠ "__name__" := by decide) (hdb : (x == ("__debug__" : Str)) = false := by decide)
    (he : starEach (e :: es) X.env = (false, eval e X.env) :: starEach es X.env := by rfl) (hpl : (backTo pos (starEach es X.env)).any (·.1) = false := by rfl) : PE X (.Call (.Name x p) (e :: es) [] pos) (tCB r t) := by
  intro pins s σ H Q I h
  refine wpAny_Call_Name_kw (ld_blt I hg hm hv ?_ hn hdb)
  exact PyProof.Rows.callWith_builtin1 (thn (ha pos pins s σ H _ I h) fun us s1 ⟨vs, H1, I1, r1, q1⟩ => hc pins s1 σ H1 vs us Q I1 r1 q1) he hpl
end
end L2
namespace HT
open PySem PyProof.Rows
section
open PySem.SeqAt
open PySem.AutoSeq1 (wpAny_loadPart')
open PySem.MeetsSeq PySem.MeetsSeq2 PySem.MeetsSeq3
end
section
variable {prog : Program} {w : World} {A : Around} {E : Value → Shared → Prop} {s : Shared}
def sIx (n d : Nat) : Option Int → Nat
  | none => d
  | some v => if v < 0 then (v + (n : Int)).toNat else min v.toNat n
theorem sIx_none (n d : Nat) : sIx n d none = d := rfl
theorem sIx_nat (n d k : Nat) : sIx n d (some (k : Int)) = min k n := by
  show (if (k : Int) < 0 then ((k : Int) + (n : Int)).toNat else min (k : Int).toNat n) = min k n
  rw [if_neg (by omega), Int.toNat_natCast]
end
end HT
namespace L2
open PySem PySem.Spec PyProof.Rows
abbrev TO := St → Hp → (Option Int → Hp → Prop) → Prop
def PO (X : Cx) (e : Option Expr) (t : TO) : Prop :=
  ∀ (pins : List (Addr × Obj)) (s : Shared) (σ : St) (H : Hp) (Q : Option Int → Hp → Prop), Inv X pins σ H s → t σ H Q →
    wpAny (model X.prog X.w) X.A (evalPart e X.env) (fun u s' => ∃ o H', Inv X pins σ H' s' ∧ IsPart u o ∧ Q o H') X.xe s
def tNoPart : TO := fun _ H Q => Q none H
def tPart (t : TE) : TO := fun σ H Q => t σ H fun x H1 => ∃ i, x = .int i ∧ Q (some i) H1
section
variable {X : Cx} {e : Expr} {te : TE} {lo hi : Option Expr} {tl th : TO} {pos p2 : Pos}
theorem po_none : PO X none tNoPart := by
  intro pins s σ H Q I h
  rw [evalPart_none]
  exact wpAny_pure ⟨none, H, I, .none, h⟩
theorem po_some (h : PE X e te) : PO X (some e) (tPart te) := by
  intro pins s σ H Q I hw
  rw [evalPart_some]
  refine thn (h pins s σ H _ I hw) fun u s1 ⟨x, H1, I1, r1, q1⟩ => ?_
  obtain ⟨i, rfl, q⟩ := q1
  obtain ⟨t, rfl⟩ := r1
  exact ⟨some i, H1, I1, .int i t, q⟩
def SlR (X : Cx) (r : V → Option Int → Option Int → Hp → VK → Prop) : Prop :=
  ∀ (pins : List (Addr × Obj)) (s : Shared) (σ : St) (H : Hp) (x : V) (v vl vu : Value) (lo hi : Option Int) (sl : Addr) (Q : VK), Inv X pins σ H s → RelV x v → s.heap.IsSliceOf sl vl vu .none → IsPart vl lo → IsPart vu hi → r x lo hi H Q →
    ∃ T id, typeLookup (.type T) "__getitem__" = pure (some (.builtin id)) ∧ s.TypeIs v T ∧ wpAny (model X.prog X.w) X.A (getItem v (.ref sl)) (EP X pins σ Q) X.xe s
def tSl (r : V → Option Int → Option Int → Hp → VK → Prop) (te : TE) (tl th : TO) : TE := fun σ H Q => te σ H fun x H1 => tl σ H1 fun l H2 => th σ H2 fun u H3 => r x l u H3 Q
theorem pe_slice {r : V → Option Int → Option Int → Hp → VK → Prop} (hr : SlR X r) (he : PE X e te) (hl : PO X lo tl) (hu : PO X hi th) : PE X (.Subscript e (.Slice lo hi none p2) pos) (tSl r te tl th) := by
  intro pins s σ H Q I h
  refine Subscript_ (thn (he pins s σ H _ I h) fun v s1 ⟨x, H1, I1, r1, q1⟩ => ?_)
  refine wpAny_Slice (thn (hl pins s1 σ H1 _ I1 q1) fun vl s2 ⟨l, H2, I2, pl, q2⟩ => thn (hu pins s2 σ H2 _ I2 q2) fun vu s3 ⟨u, H3, I3, pu, q3⟩ => ?_)
  rw [evalPart_none]
  refine wpAny_pure ?_
  have I4 : Inv X pins σ H3 { s3 with heap := s3.heap.push { cls := .type "slice", data := .fields #[vl, vu, .none] } } := I3.kept (t' := s3.toks) fun b ob q => Heap.get?_push_of_some _ q
  obtain ⟨T, id, hT, ht, hg⟩ := hr pins { s3 with heap := s3.heap.push { cls := .type "slice", data := .fields #[vl, vu, .none] } } σ H3 x v vl vu l u s3.heap.objs.size Q I4 r1 (Heap.IsSliceOf.new ..) pl pu q3
  show wpAny (model X.prog X.w) X.A (subscriptTail e (.Slice lo hi none p2) v (.ref s3.heap.objs.size)) (EP X pins σ Q) X.xe { s3 with heap := s3.heap.push { cls := .type "slice", data := .fields #[vl, vu, .none] } }
  exact tail_any (ops := [.ref s3.heap.objs.size, v]) ht hT hg (by with_unfolding_all rfl)
def cutV (xs : List V) (lo hi : Option Int) : List V := (xs.drop (HT.sIx xs.length 0 lo)).take (HT.sIx xs.length xs.length hi - HT.sIx xs.length 0 lo)
theorem cutV_length (xs : List V) (lo hi : Option Int) : (cutV xs lo hi).length ≤ xs.length := by
  unfold cutV
  rw [List.length_take, List.length_drop]
  omega
end
end L2
namespace L2
open PySem PySem.Spec PyProof.Rows
def ixN (n : Nat) (i : Int) : Option Nat := if 0 ≤ i then (if i < n then some i.toNat else none) else if -(n : Int) ≤ i then some (i + n).toNat else none
def atI {α : Type} (xs : List α) (i : Int) : Option α := (ixN xs.length i).bind fun j => xs[j]?
theorem ixN_seq {n : Nat} {i : Int} {j : Nat} (h : ixN n i = some j) : seqIndex? i n = some j ∧ j < n ∧ -(n : Int) ≤ i ∧ i < n := by
  unfold ixN at h
  by_cases h0 : 0 ≤ i
  · rw [if_pos h0] at h
    by_cases h1 : i < n
    · rw [if_pos h1] at h
      have e : i.toNat = j := Option.some.inj h
      exact ⟨by rw [seqIndex_of h0 h1, e], by omega, by omega, h1⟩
    · rw [if_neg h1] at h; cases h
  · rw [if_neg h0] at h
    by_cases h1 : -(n : Int) ≤ i
    · rw [if_pos h1] at h
      have e : (i + n).toNat = j := Option.some.inj h
      exact ⟨by rw [seqIndex_neg (by omega) h1, e], by omega, h1, by omega⟩
    · rw [if_neg h1] at h; cases h
theorem atI_get {α : Type} {xs : List α} {i : Int} {v : α} (h : atI xs i = some v) : ∃ j, seqIndex? i xs.length = some j ∧ xs[j]? = some v ∧ j < xs.length ∧ -(xs.length : Int) ≤ i ∧ i < xs.length := by
  unfold atI at h
  cases e : ixN xs.length i with
  | none => rw [e] at h; cases h
  | some j =>
    rw [e] at h
    obtain ⟨h1, h2, h3, h4⟩ := ixN_seq e
    exact ⟨j, h1, h, h2, h3, h4⟩
theorem atI_nat {α : Type} {xs : List α} {j : Nat} {v : α} (h : xs[j]? = some v) : atI xs (j : Int) = some v := by
  have hj : j < xs.length := (List.getElem?_eq_some_iff.mp h).1
  have e : ixN xs.length (j : Int) = some j := by
    unfold ixN
    rw [if_pos (by omega), if_pos (by omega)]; simp
  unfold atI; rw [e]; exact h
theorem atI_last {α : Type} (xs : List α) (v : α) : atI (xs ++ [v]) (-1) = some v := by
  have hl : (xs ++ [v]).length = xs.length + 1 := by simp
  have e : ixN (xs ++ [v]).length (-1) = some xs.length := by
    unfold ixN
    rw [hl, if_neg (by decide), if_pos (by omega)]
    congr 1
    omega
  unfold atI
  rw [e]
  show (xs ++ [v])[xs.length]? = some v
  simp
def PlainIx (b : Expr) : Prop := ∀ o i, subscripted b false o i = operate [o, i] (getItem o i)
def IxR (X : Cx) (r : R2) : Prop :=
  ∀ (value slice : Expr) (pins : List (Addr × Obj)) (s : Shared) (σ : St) (H : Hp) (x y : V) (v u : Value) (Q : VK), Inv X pins σ H s → RelV x v → RelV y u → r x y H Q →
    subscripted slice false v u = operate [v, u] (getItem v u) → wpAny (model X.prog X.w) X.A (subscriptTail value slice v u) (EP X pins σ Q) X.xe s
def MtR (X : Cx) (id : String) (r : V → List V → Hp → VK → Prop) : Prop :=
  ∀ (pins : List (Addr × Obj)) (s : Shared) (σ : St) (H : Hp) (x : V) (xs : List V) (v : Value) (us : List Value) (Q : VK), Inv X pins σ H s → RelV x v → Vals xs us → r x xs H Q →
    wpAny (model X.prog X.w) X.A (call (.builtin id) (v :: us)) (EP X pins σ Q) X.xe s
section
variable {X : Cx} {a b : Expr} {ta tb : TE} {pos : Pos}
theorem pe_ix {r : R2} (hr : IxR X r) (ha : PE X a ta) (hb : PE X b tb) (hs : PlainIx b) : PE X (.Subscript a b pos) (tOp r ta tb) := by
  intro pins s σ H Q I h
  exact Subscript_ (binT ha hb I h fun v u s2 x y H2 I2 rx ry q => hr a b pins s2 σ H2 x y v u Q I2 rx ry q (hs _ _))
def rIxL (K : PySem.W.Frag) : R2 := fun x y H Q => ∃ p xs i v, x = .ref p ∧ y = .int i ∧ SqL K H p xs ∧ atI xs i = some v ∧ Q v H
def rIxT (K : PySem.W.Frag) : R2 := fun x y H Q => ∃ p xs i v, x = .ref p ∧ y = .int i ∧ SqT K H p xs ∧ atI xs i = some v ∧ Q v H
theorem ix_list : IxR X (rIxL X.K) := by
  intro value slice pins s σ H x y v u Q I rx ry h hs
  obtain ⟨p, xs, i, z, rfl, rfl, hq, he, q⟩ := h
  cases rx
  obtain ⟨t, rfl⟩ := ry
  obtain ⟨its, r, pl, hz⟩ := I.list hq
  obtain ⟨j, h1, h2, h3, h4, h5⟩ := atI_get he
  obtain ⟨w, ew, rw'⟩ := r.get h2
  have hl := r.length
  have hn := line63
  have fin : EP X pins σ Q w s := ⟨z, H, I, rw', q⟩
  by_cases h0 : 0 ≤ i
  · have hj : i.toNat = j := by
      rw [seqIndex_of h0 h5] at h1
      exact Option.some.inj h1
    exact item_listR pl.isList h0 (by omega) (by rw [hj]; simpa using ew) fin hs
  · have hj : (i + (its.toArray.size : Int)).toNat = j := by
      rw [seqIndex_neg (by omega) h4] at h1
      rw [List.size_toArray, ← hl]
      exact Option.some.inj h1
    exact subscriptTail_builtinR (x := w) pl.isList.typeIs slot_list_getitem.lookup
      (wpAny_getItem_list_neg (Q := fun r s' => r = w ∧ EP X pins σ Q r s') pl.isList (by omega) (by rw [List.size_toArray] <;> omega) (by omega) (by rw [hj]; simpa using ew) ⟨rfl, fin⟩) hs
theorem ix_tup : IxR X (rIxT X.K) := by
  intro value slice pins s σ H x y v u Q I rx ry h hs
  obtain ⟨p, xs, i, z, rfl, rfl, hq, he, q⟩ := h
  cases rx
  obtain ⟨t, rfl⟩ := ry
  obtain ⟨its, r, pl, hz⟩ := I.tuple hq
  obtain ⟨j, h1, h2, h3, h4, h5⟩ := atI_get he
  obtain ⟨w, ew, rw'⟩ := r.get h2
  have hl := r.length
  have hn := line63
  have fin : EP X pins σ Q w s := ⟨z, H, I, rw', q⟩
  exact subscriptTail_builtinR (x := w) pl.typeIs slot_tuple_getitem.lookup
    (getItem_tuple (j := j) (Q := fun r s' => r = w ∧ EP X pins σ Q r s') pl (by omega) (by omega) (by rw [List.size_toArray, ← hl]; exact h1) (by simpa using ew) ⟨rfl, fin⟩) hs
theorem mapSeq_set (its : List Value) (n j : Nat) (u : Value) : Obj.mapSeq (·.setIfInBounds j u) { cls := .type "list", data := .seq its.toArray n } = { cls := .type "list", data := .seq (its.set j u).toArray n } := by
  simp [Obj.mapSeq]
theorem Inv.lst {pins : List (Addr × Obj)} {σ : St} {H : Hp} {s : Shared} {p : Addr} {xs : List V} (I : Inv X pins σ H s) (h : H p = some (.lst xs)) :
    ∃ (its : List Value) (n : Nat), Vals xs its ∧ s.heap.get? p = some { cls := .type "list", data := .seq its.toArray n } ∧ xs.length ≤ sizeLine := by
  obtain ⟨z, its, n, r, e⟩ := I.hok p _ h
  exact ⟨its, n, r, e, z⟩
theorem Inv.lstUpd {pins : List (Addr × Obj)} {σ : St} {H : Hp} {s : Shared} {p : Addr} {xs ys : List V} {its its' : List Value} {n n' : Nat} {f : Obj → Obj} (I : Inv X pins σ H s) (h : H p = some (.lst xs))
    (ho : s.heap.get? p = some { cls := .type "list", data := .seq its.toArray n }) (hf : f { cls := .type "list", data := .seq its.toArray n } = { cls := .type "list", data := .seq its'.toArray n' }) (r : Vals ys its') (hz : ys.length ≤ sizeLine) (t : Nat) :
    Inv X pins σ (upd H p (.lst ys)) { s with heap := s.heap.update p f, toks := t } := by
  have e : (s.heap.update p f).get? p = some { cls := .type "list", data := .seq its'.toArray n' } := by
    rw [Heap.get?_update_self f ho (by rw [hf] <;> rfl), hf]
  refine I.write (x := p) (e := p) (by rw [h]; trivial) (.inl rfl) (fun b u hb q => (Heap.get?_update_other _ _ (Ne.symm hb)).trans q) ⟨_, e⟩ ?_
  exact ⟨hz, its', n', r, e⟩
def rSetL : V → V → V → Hp → (Hp → Prop) → Prop := fun o i v H Q => ∃ p xs k j, o = .ref p ∧ i = .int k ∧ H p = some (.lst xs) ∧ ixN xs.length k = some j ∧ Q (upd H p (.lst (xs.set j v)))
theorem set_list : PSet X rSetL := by
  intro pins s σ H o i v ov iv u Q I ro ri rv h
  obtain ⟨p, xs, k, j, rfl, rfl, hp, hj, q⟩ := h
  cases ro
  obtain ⟨t, rfl⟩ := ri
  obtain ⟨its, n, r, ho, hz⟩ := I.lst hp
  obtain ⟨h1, h2, h3, h4⟩ := ixN_seq hj
  have hl := r.length
  have hn := line63
  have I' : Inv X pins σ (upd H p (.lst (xs.set j v))) { s with heap := s.heap.update p (Obj.mapSeq (·.setIfInBounds j u)) } :=
    I.lstUpd hp ho (mapSeq_set its n j u) (r.set rv j) (by rw [List.length_set]; exact hz) s.toks
  by_cases h0 : 0 ≤ k
  · have hk : k.toNat = j := by
      rw [seqIndex_of h0 h4] at h1
      exact Option.some.inj h1
    exact PySem.W.ki_setAt ho h0 (by omega) (by rw [List.size_toArray, ← hl]; exact h4) (by rw [hk]; exact ⟨_, I', q⟩)
  · have hk : (k + (its.toArray.size : Int)).toNat = j := by
      rw [seqIndex_neg (by omega) h3] at h1
      rw [List.size_toArray, ← hl]
      exact Option.some.inj h1
    exact PySem.W.ki_setBack ho (by omega) (by rw [List.size_toArray, ← hl]; exact h3) (by omega) (by rw [hk]; exact ⟨_, I', q⟩)
theorem slice_bounds (lo hi : Option Int) (n : Nat) : (sliceBounds lo hi none n).1 = ((HT.sIx n 0 lo : Nat) : Int) ∧ (sliceBounds lo hi none n).2.1 = ((HT.sIx n n hi : Nat) : Int) ∧ (sliceBounds lo hi none n).2.2 = 1 := by
  refine ⟨?_, ?_, rfl⟩
  · cases lo with
    | none => simp [sliceBounds, HT.sIx]
    | some i =>
      simp only [sliceBounds, HT.sIx, Option.getD_none, show (1 : Int) > 0 by decide, if_true]
      by_cases h : i < 0
      · simp only [h, if_true] <;> omega
      · simp only [h, if_false] <;> omega
  · cases hi with
    | none => simp [sliceBounds, HT.sIx]
    | some i =>
      simp only [sliceBounds, HT.sIx, Option.getD_none, show (1 : Int) > 0 by decide, if_true]
      by_cases h : i < 0
      · simp only [h, if_true] <;> omega
      · simp only [h, if_false] <;> omega
theorem slicePick_cut (its : List Value) (lo hi : Option Int) : slicePick its.toArray lo hi none = ((its.drop (HT.sIx its.length 0 lo)).take (HT.sIx its.length its.length hi - HT.sIx its.length 0 lo)).toArray := by
  obtain ⟨h1, h2, h3⟩ := slice_bounds lo hi its.toArray.size
  unfold slicePick
  rw [h1, h2, h3]
  simp only [sliceRange_one, pick_run, List.size_toArray] <;> rfl
def rSlL (K : PySem.W.Frag) : V → Option Int → Option Int → Hp → VK → Prop := fun x lo hi H Q => ∃ a xs, x = .ref a ∧ SqL K H a xs ∧ ∀ p, H p = none → Q (.ref p) (upd H p (.lst (cutV xs lo hi)))
theorem sl_list : SlR X (rSlL X.K) := by
  intro pins s σ H x v vl vu lo hi sl Q I rx hs pl pu h
  obtain ⟨a, xs, rfl, hx, q⟩ := h
  cases rx
  obtain ⟨its, r, ht, hz⟩ := I.list hx
  have hlen := r.length
  refine ⟨"list", _, slot_list_getitem.lookup, ht.isList.typeIs, ?_⟩
  refine wpAny_getItem_list_slice ht.isList hs pl pu .none (by simp) ?_ (by rw [List.size_toArray] <;> omega)
  rw [slicePick_cut, ← hlen]
  refine ⟨.ref s.heap.objs.size, _, I.laid (t' := s.toks) (o := .lst (cutV xs lo hi)) (fun b ob q => Heap.get?_push_of_some _ q) (Nat.le_refl _) ?_, rfl, q _ (I.hok.fresh (Nat.le_refl _))⟩
  exact ⟨Nat.le_trans (cutV_length xs lo hi) hz, _, 0, (r.drop (HT.sIx xs.length 0 lo)).take (HT.sIx xs.length xs.length hi - HT.sIx xs.length 0 lo), Heap.get?_push_size _ rfl⟩
theorem call_len_seq : CallR X (.builtin "len") (fun xs H Q => ∃ p ys, xs = [.ref p] ∧ (SqL X.K H p ys ∨ SqT X.K H p ys) ∧ Q (.int ys.length) H) := by
  intro pins s σ H xs us Q I r h
  obtain ⟨p, ys, rfl, hq, q⟩ := h
  obtain ⟨u, rfl, rx⟩ := vals1 r
  cases rx
  have hn := line63
  rcases hq with hq | hq
  · obtain ⟨its, r', pl, hz⟩ := I.list hq
    have hlen := r'.length
    exact Calls.call_len_list pl.isList (by simp only [List.size_toArray] <;> omega) ⟨.int ys.length, H, I.tok _, ⟨s.toks + 1, by rw [List.size_toArray, hlen]⟩, q⟩
  · obtain ⟨its, r', pl, hz⟩ := I.tuple hq
    have hlen := r'.length
    exact len_tuple pl (by simp only [List.size_toArray] <;> omega) ⟨.int ys.length, H, I.tok _, ⟨s.toks + 1, by rw [List.size_toArray, hlen]⟩, q⟩
def tyV (K : PySem.W.Frag) (T : String) (x : V) (H : Hp) : Prop := match x with
  | .str _ => T = "str"
  | .int _ => T = "int"
  | .ref p => (T = "list" ∧ ∃ xs, SqL K H p xs) ∨ (T = "tuple" ∧ ∃ o, K.lookup p = some o ∧ o.cls = .type "tuple" ∧ o.dict = none) ∨
      (T = "dict" ∧ ((∃ kvs, H p = some (.dK kvs)) ∨ ∃ kvs, H p = some (.dT kvs))) ∨ (T = "set" ∧ ∃ S n, H p = some (.set S n))
  | _ => False
theorem tyV_is {pins : List (Addr × Obj)} {σ : St} {H : Hp} {s : Shared} {T : String} {x : V} {v : Value} (I : Inv X pins σ H s) (r : RelV x v) (ty : tyV X.K T x H) :
    s.TypeIs v T ∧ ∀ a, v = .ref a → ∃ ob, s.heap.get? a = some ob ∧ ob.dict = none := by
  cases x with
  | str z =>
    obtain ⟨t, rfl⟩ := r
    cases (show T = "str" from ty)
    exact ⟨typeIs_str s z t, fun _ e => nomatch e⟩
  | int i =>
    obtain ⟨t, rfl⟩ := r
    cases (show T = "int" from ty)
    exact ⟨typeIs_int s i t, fun _ e => nomatch e⟩
  | ref p =>
    cases r
    rcases ty with ⟨rfl, xs, hq⟩ | ⟨rfl, o, hk, hc, hd⟩ | ⟨rfl, hk⟩ | ⟨rfl, S, n, hk⟩
    · obtain ⟨its, _, pl, _⟩ := I.list hq
      refine ⟨pl.isList.typeIs, fun a e => ?_⟩
      cases e
      obtain ⟨o, n, e, c, hd, _⟩ := pl
      exact ⟨o, e, hd⟩
    · refine ⟨⟨o, I.kIn p o hk, hc⟩, fun a e => ?_⟩
      cases e
      exact ⟨o, I.kIn _ o hk, hd⟩
    · have z : ∃ o, s.heap.get? p = some o ∧ o.ExactDict := by
        rcases hk with ⟨kvs, hk⟩ | ⟨kvs, hk⟩
        · obtain ⟨_, _, _, _, o, _, _, e, ex, _⟩ := I.hok p _ hk
          exact ⟨o, e, ex⟩
        · obtain ⟨_, _, _, _, o, _, _, e, ex, _⟩ := I.hok p _ hk
          exact ⟨o, e, ex⟩
      obtain ⟨o, e, ex⟩ := z
      refine ⟨⟨o, e, ex.1⟩, fun a e2 => ?_⟩
      cases e2
      exact ⟨o, e, ex.2.1⟩
    · obtain ⟨o, _, _, _, e, ex, _⟩ := I.hok p _ hk
      refine ⟨⟨o, e, ex.1⟩, fun a e2 => ?_⟩
      cases e2
      exact ⟨o, e, ex.2.1⟩
  | _ => exact False.elim ty
def tBM (K : PySem.W.Frag) (T : String) (r : V → List V → Hp → VK → Prop) (to : TE) (t : TA) : TE := fun σ H Q => to σ H fun x H1 => tyV K T x H1 ∧ t σ H1 fun xs H2 => r x xs H2 Q
variable {o e : Expr} {es : List Expr} {to : TE} {t : TA} {name : Str} {apos cpos : Pos} {T id : String} {r : V → List V → Hp → VK → Prop}
theorem pe_bm (pa : PlainAttrs T) (slot : Slot T name id) (hty : typeOf (.builtin id) = pure (.type "method_descriptor")) (hm : MtR X id r) (ho : PE X o to) (ha : PA X (e :: es) t)
    (hbase : attributeBase o name X.env (eval o X.env) = eval o X.env := by rfl)
    (hfew : ((backTo cpos (starEach (e :: es) X.env)).all (fun x => !x.1) && (backToKw cpos (keywordEach [] X.env)).all (fun x => x.1.isSome)
      && decide ((e :: es).length + ([] : List Keyword).length + (if ([] : List Keyword).isEmpty then 0 else 1) < 30)) = true := by rfl)
    (hline : (apos.endLine == cpos.line) = true := by rfl) (hs : starEach (e :: es) X.env = (false, eval e X.env) :: starEach es X.env := by rfl) (hplain : (backTo cpos (starEach es X.env)).any (·.1) = false := by rfl) :
    PE X (.Call (.Attribute o name apos) (e :: es) [] cpos) (tBM X.K T r to t) := by
  intro pins s σ H Q I h
  refine wpAny_Call_method_late hbase hfew hline rfl (thn (ho pins s σ H _ I h) fun v s1 ⟨x, H1, I1, r1, ty, q1⟩ => ?_)
  obtain ⟨h1, h2⟩ := tyV_is I1 r1 ty
  refine ⟨T, id, pa, slot, hty, h1, h2, ?_⟩
  have hA := ha cpos pins s1 σ H1 _ I1 q1
  rw [hs] at hA ⊢
  refine Calls.callWith_builtin (by show (false || (backTo cpos (starEach es X.env)).any (·.1)) = false; rw [hplain] <;> rfl) (Calls.evalArgs_plain ?_)
  exact thn hA fun us s2 ⟨vs, H2, I2, r2, q2⟩ => hm pins s2 σ H2 x vs v us Q I2 r1 r2 q2
end
end L2
namespace L2
open PySem PySem.Spec PyProof.Rows
def MtM (X : Cx) (id : String) (r : V → List V → Hp → VK → Prop) : Prop :=
  ∀ (pins : List (Addr × Obj)) (s : Shared) (σ : St) (H : Hp) (x : V) (xs : List V) (v : Value) (us : List Value) (Q : VK), Inv X pins σ H s → RelV x v → Vals xs us → r x xs H Q →
    wpAny (model X.prog X.w) X.A (call (.builtin id) (v :: us)) (EP X pins σ Q) X.xe s
theorem Vals.one : ∀ {x : V} {us : List Value}, Vals [x] us → ∃ u, us = [u] ∧ RelV x u
  | _, _, .cons r .nil => ⟨_, rfl, r⟩
theorem Vals.rep {xs : List V} {us : List Value} (h : Vals xs us) : ∀ k : Nat, Vals (List.replicate k xs).flatten (List.replicate k us).flatten
  | 0 => .nil
  | k + 1 => by
    rw [List.replicate_succ, List.replicate_succ, List.flatten_cons, List.flatten_cons]
    exact Vals.append h (Vals.rep h k)
theorem foldl_rep (its : List Value) : ∀ (k : Nat) (acc : List Value),
    List.foldl (fun x1 x2 => x1 ++ x2) acc.toArray (List.replicate k its.toArray) = (acc ++ (List.replicate k its).flatten).toArray
  | 0, acc => by simp
  | k + 1, acc => by
    have e : acc.toArray ++ its.toArray = (acc ++ its).toArray := by simp
    have e2 : (acc ++ its) ++ (List.replicate k its).flatten = acc ++ (List.replicate (k + 1) its).flatten := by
      rw [List.replicate_succ, List.flatten_cons, List.append_assoc]
    rw [← e2, ← foldl_rep its k (acc ++ its), ← e, List.replicate_succ, List.foldl_cons]
section
variable {X : Cx} {pins : List (Addr × Obj)} {σ : St} {H : Hp} {s : Shared} {l b : Addr} {xs ys zs : List V}
theorem Inv.lset {its its' : List Value} {n : Nat} {f : Array Value → Array Value} {t' : Nat} (I : Inv X pins σ H s) (hH : H l = some (.lst xs))
    (e : s.heap.get? l = some { cls := .type "list", data := .seq its.toArray n }) (hf : f its.toArray = its'.toArray) (hv : Vals ys its') (hz : ys.length ≤ sizeLine) :
    Inv X pins σ (upd H l (.lst ys)) { s with heap := s.heap.update l (Obj.mapSeq f), toks := t' } := by
  have q := PySem.IsL.update e f
  rw [hf] at q
  refine I.write (x := l) (e := l) (by rw [hH]; exact trivial) (.inl rfl) (fun b' u hb hu => (Heap.get?_update_other s.heap (Obj.mapSeq f) (Ne.symm hb)).trans hu) ⟨_, q⟩ ?_
  exact ⟨hz, its', _, hv, q⟩
theorem Inv.lnew {its : List Value} {t' : Nat} (I : Inv X pins σ H s) (hv : Vals ys its) (hz : ys.length ≤ sizeLine) :
    Inv X pins σ (upd H s.heap.objs.size (.lst ys)) { s with heap := s.heap.push { cls := .type "list", data := .seq its.toArray }, toks := t' } :=
  I.laid (fun _ _ q => Heap.get?_push_of_some _ q) (Nat.le_refl _) ⟨hz, its, 0, hv, Heap.get?_push_size _ rfl⟩
theorem Inv.fresh (I : Inv X pins σ H s) : H s.heap.objs.size = none := I.hok.fresh (Nat.le_refl _)
theorem Inv.lstM (I : Inv X pins σ H s) (hH : H l = some (.lst xs)) : xs.length ≤ sizeLine ∧ ∃ (its : List Value) (n : Nat), Vals xs its ∧ xs.length = its.length ∧ s.heap.get? l = some { cls := .type "list", data := .seq its.toArray n } := by
  obtain ⟨z, its, n, r, e⟩ := I.hok l _ hH
  exact ⟨z, its, n, r, r.length, e⟩
theorem notLongL {n : Nat} (h : n ≤ sizeLine) : Builtin.List.listTooLong n = false := by
  unfold Builtin.List.listTooLong
  exact decide_eq_false (by omega)
end
section
variable {X : Cx}
def rAppend : V → List V → Hp → VK → Prop := fun x vs H Q => ∃ l xs y, x = .ref l ∧ vs = [y] ∧ H l = some (.lst xs) ∧ xs.length < sizeLine ∧ Q .non (upd H l (.lst (xs ++ [y])))
theorem mt_append : MtM X "list.append" rAppend := by
  intro pins s σ H x vs v us Q I rx rv h
  obtain ⟨l, xs, y, rfl, rfl, hH, hz, q⟩ := h
  cases rx
  obtain ⟨u, rfl, ru⟩ := rv.one
  obtain ⟨z, its, n, r, hl, e⟩ := I.lstM hH
  refine call_meets F.slot_list_append ⟨_, e, rfl⟩ F.entry_list_append (F.args_list_append_2 _ _) (PySem.list_append l its.toArray n u (by rw [List.size_toArray]; omega)) ⟨e, ?_⟩
  refine ⟨.non, _, I.lset (its' := its ++ [u]) hH e (by simp) (r.append (.cons ru .nil)) ?_, rfl, q⟩
  rw [List.length_append, List.length_singleton]
  omega
def rExtend : V → List V → Hp → VK → Prop := fun x vs H Q => ∃ l b xs zs, x = .ref l ∧ vs = [.ref b] ∧ H l = some (.lst xs) ∧ H b = some (.lst zs) ∧ xs.length + zs.length ≤ sizeLine ∧ Q .non (upd H l (.lst (xs ++ zs)))
theorem mt_extend : MtM X "list.extend" rExtend := by
  intro pins s σ H x vs v us Q I rx rv h
  obtain ⟨l, b, xs, zs, rfl, rfl, hH, hB, hz, q⟩ := h
  cases rx
  obtain ⟨u, rfl, ru⟩ := rv.one
  cases ru
  obtain ⟨z, its, n, r, hl, e⟩ := I.lstM hH
  obtain ⟨z2, its2, n2, r2, hl2, e2⟩ := I.lstM hB
  have hsz : its.toArray.size + its2.toArray.size ≤ sizeLine := by rw [List.size_toArray, List.size_toArray]; omega
  have hlong : ¬ (!its.toArray.isEmpty && Builtin.List.listTooLong (its.toArray.size + its2.toArray.size)) = true := by
    rw [notLongL hsz, Bool.and_false]
    exact Bool.false_ne_true
  refine call_meets F.slot_list_extend ⟨_, e, rfl⟩ F.entry_list_extend (F.args_list_extend_2 _ _)
    (AutoSeq1.list_extend_list_list_0 l its.toArray n b its2.toArray n2 hlong (by rw [List.size_toArray]; omega) (by omega)) ⟨e, e2, ?_⟩
  refine ⟨.non, _, I.lset (its' := its ++ its2) hH e (by simp) (r.append r2) ?_, rfl, q⟩
  rw [List.length_append]
  omega
def rCat : R2 := fun x y H Q => ∃ l b xs zs, x = .ref l ∧ y = .ref b ∧ H l = some (.lst xs) ∧ H b = some (.lst zs) ∧ xs.length + zs.length ≤ sizeLine ∧ ∀ p, H p = none → Q (.ref p) (upd H p (.lst (xs ++ zs)))
theorem op_cat : OpR X (binaryOp .Add) rCat := by
  intro pins s σ H x y v u Q I rx ry h
  obtain ⟨l, b, xs, zs, rfl, rfl, hH, hB, hz, q⟩ := h
  cases rx
  cases ry
  obtain ⟨z, its, n, r, hl, e⟩ := I.lstM hH
  obtain ⟨z2, its2, n2, r2, hl2, e2⟩ := I.lstM hB
  refine PySem.P.add_list e e2 ?_ (by rw [List.size_toArray, List.size_toArray]; omega)
  have ea : its.toArray ++ its2.toArray = (its ++ its2).toArray := by simp
  rw [ea]
  exact ⟨.ref _, _, I.lnew (t' := s.toks) (r.append r2) (by rw [List.length_append]; omega), rfl, q _ I.fresh⟩
def rRep : R2 := fun x y H Q => ∃ l k xs, x = .ref l ∧ y = .int k ∧ H l = some (.lst xs) ∧ -(2 ^ 63) ≤ k ∧ k < 2 ^ 63 ∧ xs.length * k.toNat ≤ sizeLine ∧
  ∀ p, H p = none → Q (.ref p) (upd H p (.lst (List.replicate k.toNat xs).flatten))
theorem len_rep {α : Type} (xs : List α) (k : Nat) : (List.replicate k xs).flatten.length = k * xs.length := by
  induction k with
  | zero => simp
  | succ k ih => rw [List.replicate_succ, List.flatten_cons, List.length_append, ih, Nat.succ_mul, Nat.add_comm]
theorem op_rep : OpR X (binaryOp .Mult) rRep := by
  intro pins s σ H x y v u Q I rx ry h
  obtain ⟨l, k, xs, rfl, rfl, hH, h1, h2, hz, q⟩ := h
  cases rx
  obtain ⟨t, rfl⟩ := ry
  obtain ⟨z, its, n, r, hl, e⟩ := I.lstM hH
  have hlen : its.toArray.size * k.toNat ≤ sizeLine := by rw [List.size_toArray, ← hl]; exact hz
  have hcap : ¬ its.toArray.size * k.toNat > (2 ^ 63 - 1) / 8 := by
    have : (sizeLine : Nat) ≤ (2 ^ 63 - 1) / 8 := by decide
    omega
  have hfit : ¬ (!Builtin.List.listFitsIndex k) = true := by
    rw [fitsIndex_both h1 h2]
    exact Bool.false_ne_true
  have hlong : ¬ Builtin.List.listTooLong (its.toArray.size * k.toNat) = true := by
    rw [notLongL hlen]
    exact Bool.false_ne_true
  have hnew : List.foldl (fun x1 x2 => x1 ++ x2) #[] (List.replicate (if its.toArray.isEmpty = true then 0 else k.toNat) its.toArray) = (List.replicate k.toNat its).flatten.toArray := by
    have f0 : ∀ m : Nat, List.foldl (fun x1 x2 => x1 ++ x2) #[] (List.replicate m its.toArray) = (List.replicate m its).flatten.toArray := fun m => by
      have := foldl_rep its m []
      rw [List.nil_append] at this
      exact this
    rw [f0]
    cases its with
    | nil => simp
    | cons a r' => rw [if_neg (by simp)]
  refine wpAny_binaryOp_repeat_ref (T := "list") (U := "int") (by decide) ⟨_, e, rfl⟩ (fun s' => typeIs_int s' k t) noFill_list_mul F.fills_int_mul F.slot_int_rmul repeat_list F.slot_int_index.lookup
    (call_meets F.slot_int_rmul (typeIs_int s k t) F.entry_int_rmul (F.args_int_rmul_2 _ _) (int___rmul___int_list k t l its.toArray n)
      ⟨e, rfl, ⟨_, e, rfl⟩, call_meets F.slot_list_mul ⟨_, e, rfl⟩ F.entry_list_mul (F.args_list_mul_2 _ _) (AutoListH.list___mul___list_int_3 l its.toArray n k t hfit hcap hlong) ⟨e, ?_⟩⟩)
  rw [hnew]
  exact ⟨.ref _, _, I.lnew (t' := s.toks) (r.rep k.toNat) (by rw [len_rep, Nat.mul_comm]; exact hz), rfl, q _ I.fresh⟩
end
section
variable {prog : Program} {w : World} {A : Around} {E : Value → Shared → Prop} {s : Shared}
set_option maxRecDepth 100000 in
end
section
variable {X : Cx}
end
end L2
namespace L2
open PySem PySem.Spec PyProof.Rows
theorem Vals.ints : ∀ {ns : List Int} {us : List Value}, Vals (ns.map V.int) us → IntsAre us ns
  | [], us, h => by
    rw [List.map_nil] at h
    cases h
    exact IntsAre.nil
  | n :: ns, us, h => by
    rw [List.map_cons] at h
    cases h with
    | cons r t =>
      obtain ⟨k, rfl⟩ := r
      exact IntsAre.cons n k (Vals.ints t)
theorem vals_of_ints : ∀ {us : List Value} {ns : List Int}, IntsAre us ns → Vals (ns.map V.int) us
  | _, _, .nil => by rw [List.map_nil]; exact Paired.nil
  | _, _, .cons n t h => by rw [List.map_cons]; exact Paired.cons (show RelV (V.int n) (Value.int n t) from ⟨t, rfl⟩) (vals_of_ints h)
theorem Vals.bls : ∀ {bs : List Bool} {us : List Value}, Vals (bs.map V.bl) us → us = bs.map Value.bool
  | [], us, h => by
    rw [List.map_nil] at h
    cases h
    rfl
  | b :: bs, us, h => by
    rw [List.map_cons] at h
    cases h with
    | cons r t =>
      cases r
      rw [Vals.bls t, List.map_cons]
theorem Vals.ref1 {a : Addr} {us : List Value} (r : Vals [V.ref a] us) : us = [Value.ref a] := by
  cases r with
  | cons r t =>
    cases t
    cases r
    rfl
section
variable {prog : Program} {w : World} {A : Around} {E : Value → Shared → Prop} {s : Shared} {l : Addr} {its : List Value} {ns : List Int} {Q : Value → Shared → Prop}
theorem sum_raw (hh : A.handled = none) (hl : s.heap.IsList l its.toArray) (hi : IntsAre its ns)
    (h : ∀ h' tk t', (∀ b o, s.heap.get? b = some o → h'.get? b = some o) → Q (.int ns.sum t') { s with heap := h', toks := tk }) : wpAny (model prog w) A (call (.builtin "sum") [.ref l]) Q E s := by
  obtain ⟨xs, e⟩ := hi.allInts.items
  have hn : numsOf (intItems xs).toList = ns := by rw [← e]; exact hi.numsOf
  rw [nums_intItems] at hn
  rw [e] at hl
  refine PySem.sum_intListG hh hl fun h' tk t' hk => ?_
  have := h h' tk t' hk
  rw [preSum_eq, List.take_of_length_le (by simp), hn]; exact this
theorem max_raw (hh : A.handled = none) (hl : s.heap.IsList l its.toArray) (hi : IntsAre its ns) (hne : 0 < ns.length)
    (h : ∀ h' tk M t', (∀ b o, s.heap.get? b = some o → h'.get? b = some o) → M ∈ ns → (∀ a, a ∈ ns → a ≤ M) → Q (.int M t') { s with heap := h', toks := tk }) : wpAny (model prog w) A (call (.builtin "max") [.ref l]) Q E s := by
  obtain ⟨xs, e⟩ := hi.allInts.items
  have hn : numsOf (intItems xs).toList = ns := by rw [← e]; exact hi.numsOf
  rw [nums_intItems] at hn
  subst hn
  rw [e] at hl
  have hsz : 0 < xs.size := by simpa using hne
  refine PySem.max_intList hh hl hsz fun v h' tk hv hk => ?_
  obtain ⟨t, rfl⟩ := intItems_at hv
  obtain ⟨h1, h2⟩ := argBest_gt (numAt xs) (xs.size - 1)
  refine h h' tk _ t hk ?_ fun a ha => ?_
  · rw [numAt_eq]; exact PySem.getD_mem (by rw [List.length_map, Array.length_toList]; omega)
  · obtain ⟨j, hj, rfl⟩ := mem_getD ha
    rw [List.length_map, Array.length_toList] at hj
    rw [← numAt_eq]; exact h2 j (by omega)
theorem min_raw (hh : A.handled = none) (hl : s.heap.IsList l its.toArray) (hi : IntsAre its ns) (hne : 0 < ns.length)
    (h : ∀ h' tk M t', (∀ b o, s.heap.get? b = some o → h'.get? b = some o) → M ∈ ns → (∀ a, a ∈ ns → M ≤ a) → Q (.int M t') { s with heap := h', toks := tk }) : wpAny (model prog w) A (call (.builtin "min") [.ref l]) Q E s := by
  obtain ⟨xs, e⟩ := hi.allInts.items
  have hn : numsOf (intItems xs).toList = ns := by rw [← e]; exact hi.numsOf
  rw [nums_intItems] at hn
  subst hn
  rw [e] at hl
  have hsz : 0 < xs.size := by simpa using hne
  refine PySem.min_intList hh hl hsz fun v h' tk hv hk => ?_
  obtain ⟨t, rfl⟩ := intItems_at hv
  obtain ⟨h1, h2⟩ := argBest_lt (numAt xs) (xs.size - 1)
  refine h h' tk _ t hk ?_ fun a ha => ?_
  · rw [numAt_eq]; exact PySem.getD_mem (by rw [List.length_map, Array.length_toList]; omega)
  · obtain ⟨j, hj, rfl⟩ := mem_getD ha
    rw [List.length_map, Array.length_toList] at hj
    rw [← numAt_eq]; exact h2 j (by omega)
end
section
variable {X : Cx}
def rSum (K : PySem.W.Frag) : List V → Hp → VK → Prop := fun vs H Q => ∃ (a : Addr) (ns : List Int), vs = [V.ref a] ∧ SqL K H a (ns.map V.int) ∧ Q (.int ns.sum) H
def rMax (K : PySem.W.Frag) : List V → Hp → VK → Prop := fun vs H Q => ∃ (a : Addr) (ns : List Int), vs = [V.ref a] ∧ SqL K H a (ns.map V.int) ∧ 0 < ns.length ∧ ∀ m, m ∈ ns → (∀ y, y ∈ ns → y ≤ m) → Q (.int m) H
def rMin (K : PySem.W.Frag) : List V → Hp → VK → Prop := fun vs H Q => ∃ (a : Addr) (ns : List Int), vs = [V.ref a] ∧ SqL K H a (ns.map V.int) ∧ 0 < ns.length ∧ ∀ m, m ∈ ns → (∀ y, y ∈ ns → m ≤ y) → Q (.int m) H
theorem cr_sum (hc : X.calm = true) : CallR X (.builtin "sum") (rSum X.K) := by
  intro pins s σ H vs us Q I r h
  obtain ⟨a, ns, rfl, hs, q⟩ := h
  obtain ⟨its, rv, hl, _⟩ := I.list hs
  rw [Vals.ref1 r]
  exact sum_raw (I.ok.hd hc) hl.isList rv.ints fun h' tk t' hk => ⟨.int _, H, I.kept hk, ⟨_, rfl⟩, q⟩
theorem cr_max (hc : X.calm = true) : CallR X (.builtin "max") (rMax X.K) := by
  intro pins s σ H vs us Q I r h
  obtain ⟨a, ns, rfl, hs, hne, q⟩ := h
  obtain ⟨its, rv, hl, _⟩ := I.list hs
  rw [Vals.ref1 r]
  exact max_raw (I.ok.hd hc) hl.isList rv.ints hne fun h' tk m t' hk h1 h2 => ⟨.int _, H, I.kept hk, ⟨_, rfl⟩, q m h1 h2⟩
theorem cr_min (hc : X.calm = true) : CallR X (.builtin "min") (rMin X.K) := by
  intro pins s σ H vs us Q I r h
  obtain ⟨a, ns, rfl, hs, hne, q⟩ := h
  obtain ⟨its, rv, hl, _⟩ := I.list hs
  rw [Vals.ref1 r]
  exact min_raw (I.ok.hd hc) hl.isList rv.ints hne fun h' tk m t' hk h1 h2 => ⟨.int _, H, I.kept hk, ⟨_, rfl⟩, q m h1 h2⟩
end
section
variable {X : Cx}
end
section
variable {X : Cx}
end
theorem iter_any {prog : Program} {w : World} {A : Around} {E : Value → Shared → Prop} {s : Shared} {l : Addr} {items : Array Value} {Q : Value → Shared → Prop} (hl : s.heap.IsList l items)
    (h : ∀ s₂ : Shared, s₂ = { s with heap := s.heap.push { cls := .type "list_iterator", data := .fields #[.ref l, .int 0 0] } } →
      (s₂.heap.IsListIter s.heap.objs.size l 0 ∧ s₂.heap.IsList l items) → l ≠ s.heap.objs.size → Q (.ref s.heap.objs.size) s₂) : wpAny (model prog w) A (pyIter (.ref l)) Q E s := by
  have hlt : l < s.heap.objs.size := by obtain ⟨_, e, _⟩ := hl; exact Heap.lt_size e
  exact wpAny_pyIter_list hl (h _ rfl ⟨⟨_, Heap.get?_push_size _ rfl, rfl, rfl⟩, hl.push _⟩ (Nat.ne_of_lt hlt))
theorem truth_bools {prog : Program} {w : World} {A : Around} {bs : List Bool} {its : List Value} (e : its = bs.map Value.bool) :
    TruthOf prog w A (fun i v => its.toArray[i]? = some v) (fun i => bs.getD i false) := fun i v s Q E hv hq => by
  have hv' : its[i]? = some v := by simpa using hv
  rw [e, List.getElem?_map] at hv'
  obtain ⟨b, hb, rfl⟩ := Option.map_eq_some_iff.mp hv'
  have hg : bs.getD i false = b := by rw [List.getD_eq_getElem?_getD, hb] <;> rfl
  have hq' : Q (bs.getD i false) s := hq
  rw [hg] at hq'
  exact wpAny_truthy_bool hq'
theorem all_range : ∀ bs : List Bool, (List.range bs.length).all (fun i => bs.getD i false) = bs.all id
  | [] => rfl
  | b :: bs => by
    rw [List.length_cons, List.range_succ_eq_map, List.all_cons, List.all_map, List.all_cons, ← all_range bs]
    all_goals rfl
section
variable {X : Cx}
def rAll (K : PySem.W.Frag) : List V → Hp → VK → Prop := fun vs H Q => ∃ (a : Addr) (bs : List Bool), vs = [V.ref a] ∧ SqL K H a (bs.map V.bl) ∧ Q (.bl (bs.all id)) H
theorem cr_all (hc : X.calm = true) : CallR X (.builtin "all") (rAll X.K) := by
  intro pins s σ H vs us Q I r h
  obtain ⟨a, bs, rfl, hs, q⟩ := h
  obtain ⟨its, rv, hl, _⟩ := I.list hs
  rw [Vals.ref1 r]
  have hb := rv.bls
  refine call_all_walk (iter_any hl.isList fun s₂ e2 st hne => ?_)
  subst e2
  refine ⟨_, _, _, _, _, _, _, rfl, Walks.list (A := X.A.in1) (I.ok.hd hc) _ a hne its.toArray, st, truth_bools hb, fun h' tk hk => ?_⟩
  refine ⟨.bl _, H, I.kept fun b o eo => hk b o (fun hmem => ?_) (Heap.get?_push_of_some _ eo), ?_, q⟩
  · rcases List.mem_cons.mp hmem with e1 | hmem
    · exact absurd (e1 ▸ Heap.lt_size eo) (Nat.lt_irrefl _)
    · cases hmem
  · show Value.bool _ = Value.bool _
    rw [← all_range, hb, List.size_toArray, List.length_map]
end
section
variable {X : Cx} {pins : List (Addr × Obj)} {σ : St} {H : Hp} {s : Shared}
end
section
variable {X : Cx}
end
end L2
namespace L2
open PySem PySem.Spec PyProof.Rows
abbrev CellAt (h : Heap) (c : Addr) (v : Option Value) : Prop := h.IsCell c v
def relS (scope sc : Scope) : Scope :=
  { scope with names := scope.names.map fun (n, k) => if (k == .free && sc.kind == .function && sc.names.lookup n == some .cell) then (n, .cell) else (n, k) }
def cloFrom (cells : List (Str × Addr)) : List (Str × NameKind) → List (Str × Addr) → List (Str × Addr)
  | [], acc => acc
  | (n, k) :: r, acc => if k == .free then cloFrom cells r ((n, (cells.lookup n).getD 0) :: acc) else cloFrom cells r acc
theorem closure_loop (env : Env) (f : Str × NameKind → List (Str × Addr) → Sem (ForInStep (List (Str × Addr))))
    (hf : ∀ n k c, f (n, k) c = if k == .free then (do let a ← cellOf env n; pure (.yield ((n, a) :: c))) else pure (.yield c)) :
    ∀ (names : List (Str × NameKind)) (acc : List (Str × Addr)), (∀ y ∈ names, y.2 = .free → ∃ c, env.cells.lookup y.1 = some c) → forIn names acc f = pure (cloFrom env.cells names acc)
  | [], acc, _ => by rw [List.forIn_nil]; rfl
  | (n, k) :: r, acc, h => by
    rw [List.forIn_cons, hf]
    have ih := fun acc => closure_loop env f hf r acc fun y hy => h y (List.mem_cons_of_mem _ hy)
    unfold cloFrom
    by_cases hk : (k == NameKind.free) = true
    · rw [if_pos hk, if_pos hk]
      obtain ⟨c, hc⟩ := h (n, k) List.mem_cons_self (by simpa using hk)
      have e : cellOf env n = pure c := by unfold cellOf; rw [hc]
      rw [e]
      have e2 : (env.cells.lookup n).getD 0 = c := by rw [hc]; rfl
      rw [e2]
      exact ih _
    · rw [if_neg hk, if_neg hk]
      exact ih _
theorem closure_ok {scope : Scope} {env : Env} (h : ∀ y ∈ scope.names, y.2 = .free → ∃ c, env.cells.lookup y.1 = some c) : closureFor scope env = pure (cloFrom env.cells scope.names []) := by
  simp only [closureFor]
  rw [closure_loop env _ (fun n k c => rfl) scope.names [] h]
  rfl
theorem mem_lookup {α : Type} : ∀ {l : List (Str × α)} {n : Str} {c : α}, (n, c) ∈ l → ∃ c', l.lookup n = some c'
  | (k, v) :: r, n, c, h => by
    rw [List.lookup_cons]
    cases hb : n == k with
    | true => exact ⟨_, rfl⟩
    | false =>
      rcases List.mem_cons.mp h with e | h
      · cases e; simp at hb
      · exact mem_lookup h
theorem cloFrom_mem {cells : List (Str × Addr)} : ∀ {names : List (Str × NameKind)} {acc : List (Str × Addr)} {n : Str} {c : Addr}, (n, c) ∈ cloFrom cells names acc → (n, c) ∈ acc ∨ ((n, .free) ∈ names ∧ c = (cells.lookup n).getD 0)
  | [], _, _, _, h => .inl h
  | (m, k) :: r, acc, n, c, h => by
    unfold cloFrom at h
    split at h
    · rename_i hk
      have hk : k = .free := by simpa using hk
      rcases cloFrom_mem h with h | ⟨h1, h2⟩
      · rcases List.mem_cons.mp h with e | h
        · cases e; exact .inr ⟨hk ▸ List.mem_cons_self, rfl⟩
        · exact .inl h
      · exact .inr ⟨List.mem_cons_of_mem _ h1, h2⟩
    · rcases cloFrom_mem h with h | ⟨h1, h2⟩
      · exact .inl h
      · exact .inr ⟨List.mem_cons_of_mem _ h1, h2⟩
theorem cloFrom_acc {cells : List (Str × Addr)} : ∀ {names : List (Str × NameKind)} {acc : List (Str × Addr)} {p : Str × Addr}, p ∈ acc → p ∈ cloFrom cells names acc
  | [], _, _, h => h
  | (m, k) :: r, acc, p, h => by
    unfold cloFrom
    split
    · exact cloFrom_acc (List.mem_cons_of_mem _ h)
    · exact cloFrom_acc h
theorem cloFrom_has {cells : List (Str × Addr)} : ∀ {names : List (Str × NameKind)} {acc : List (Str × Addr)} {n : Str}, (n, .free) ∈ names → (n, (cells.lookup n).getD 0) ∈ cloFrom cells names acc
  | (m, k) :: r, acc, n, h => by
    unfold cloFrom
    rcases List.mem_cons.mp h with e | h
    · cases e
      exact cloFrom_acc List.mem_cons_self
    · split
      · exact cloFrom_has h
      · exact cloFrom_has h
theorem cells_mem : ∀ {names : List (Str × NameKind)} {h : Heap} {acc : List (Str × Addr)} {x : Str} {c : Addr}, (x, c) ∈ cellsFrom h.objs.size names acc →
    (x, c) ∈ acc ∨ ((x, .cell) ∈ names ∧ h.objs.size ≤ c ∧ CellAt (pushCells h names) c none)
  | [], _, _, _, _, h => .inl h
  | (n, k) :: r, h, acc, x, c, hm => by
    unfold cellsFrom at hm
    unfold pushCells
    split at hm
    · rename_i hk
      rw [if_pos hk]
      have hk : k = .cell := by simpa using hk
      rw [← Heap.size_push h { cls := .type "cell", data := .cell none }] at hm
      rcases cells_mem hm with hm | ⟨h1, h2, h3⟩
      · rcases List.mem_cons.mp hm with e | hm
        · cases e
          exact .inr ⟨hk ▸ List.mem_cons_self, Nat.le_refl _, _, pushCells_keeps r _ _ _ (Heap.get?_push_size _ rfl), rfl⟩
        · exact .inl hm
      · rw [Heap.size_push] at h2
        exact .inr ⟨List.mem_cons_of_mem _ h1, Nat.le_of_succ_le h2, h3⟩
    · rename_i hk
      rw [if_neg hk]
      rcases cells_mem hm with hm | ⟨h1, h2, h3⟩
      · exact .inl hm
      · exact .inr ⟨List.mem_cons_of_mem _ h1, h2, h3⟩
theorem cells_acc : ∀ {names : List (Str × NameKind)} {n : Nat} {acc : List (Str × Addr)} {p : Str × Addr}, p ∈ acc → p ∈ cellsFrom n names acc
  | [], _, _, _, h => h
  | (m, k) :: r, n, acc, p, h => by
    unfold cellsFrom
    split
    · exact cells_acc (List.mem_cons_of_mem _ h)
    · exact cells_acc h
theorem cells_has : ∀ {names : List (Str × NameKind)} {n : Nat} {acc : List (Str × Addr)} {x : Str}, (x, .cell) ∈ names → ∃ c, (x, c) ∈ cellsFrom n names acc
  | (m, k) :: r, n, acc, x, h => by
    unfold cellsFrom
    rcases List.mem_cons.mp h with e | h
    · cases e
      exact ⟨n, cells_acc List.mem_cons_self⟩
    · split
      · exact cells_has h
      · exact cells_has h
theorem cells_inj : ∀ {names : List (Str × NameKind)} {h : Heap} {acc : List (Str × Addr)} {x y : Str} {c : Addr}, (∀ p ∈ acc, p.2 < h.objs.size) → (∀ x y c, (x, c) ∈ acc → (y, c) ∈ acc → x = y) →
    (x, c) ∈ cellsFrom h.objs.size names acc → (y, c) ∈ cellsFrom h.objs.size names acc → x = y
  | [], _, _, _, _, _, _, hi, h1, h2 => hi _ _ _ h1 h2
  | (n, k) :: r, h, acc, x, y, c, hl, hi, h1, h2 => by
    unfold cellsFrom at h1 h2
    split at h1
    · rename_i hk
      rw [if_pos hk] at h2
      rw [← Heap.size_push h { cls := .type "cell", data := .cell none }] at h1 h2
      refine cells_inj (h := h.push _) (fun p hp => ?_) (fun x y c a b => ?_) h1 h2
      · rw [Heap.size_push]
        rcases List.mem_cons.mp hp with rfl | hp
        · exact Nat.lt_succ_self _
        · exact Nat.lt_succ_of_lt (hl p hp)
      · rcases List.mem_cons.mp a with e | a <;> rcases List.mem_cons.mp b with e' | b
        · cases e; cases e'; rfl
        · cases e; exact absurd (hl _ b) (Nat.lt_irrefl _)
        · cases e'; exact absurd (hl _ a) (Nat.lt_irrefl _)
        · exact hi _ _ _ a b
    · rename_i hk
      rw [if_neg hk] at h2
      exact cells_inj hl hi h1 h2
theorem newEnv_comp {M : Model} {A : Around} {E : Value → Shared → Prop} {s : Shared} {scope : Scope} {globals : Addr} {closure : List (Str × Addr)} {qual : Str} {func : Option Addr} {code : Value} {around : Env} {builtins : Addr} {Q : Env → Shared → Prop}
    (h : Q (newEnv scope s.heap.objs.size globals (cellsFrom (s.heap.objs.size + 1) scope.names closure) qual func code (some around) builtins)
      { s with heap := pushCells (s.heap.push { cls := .type "dict", data := .dict #[] }) scope.names }) :
    wpAny M A (newFunctionEnv scope globals closure [] qual func code (some around) builtins) Q E s := by
  simp only [newFunctionEnv, Option.isSome_some, if_true]
  refine wpAny_bind (wpAny_alloc ?_)
  refine wpAny_bind (wpAny_layCells _ (fun n k c => rfl) scope.names closure _ _ ?_)
  rw [show ({ s with heap := s.heap.push { cls := .type "dict", data := .dict #[] } } : Shared).heap.objs.size = s.heap.objs.size + 1 from Heap.size_push ..]
  rw [List.forIn_nil]
  exact wpAny_bind (wpAny_pure (wpAny_pure h))
theorem lookup_relS {sc : Scope} : ∀ {names : List (Str × NameKind)} {x : Str} {k : NameKind},
    (names.map fun (n, k) => if (k == NameKind.free && sc.kind == .function && sc.names.lookup n == some .cell) then (n, NameKind.cell) else (n, k)).lookup x = some k →
    ∃ k', names.lookup x = some k' ∧ (k = k' ∨ (k' = .free ∧ k = .cell))
  | [], _, _, h => by simp at h
  | (n, k₀) :: r, x, k, h => by
    have ih := @lookup_relS sc r x k
    have h' : List.lookup x ((if (k₀ == NameKind.free && sc.kind == .function && sc.names.lookup n == some .cell) = true then (n, NameKind.cell) else (n, k₀)) :: (r.map _)) = some k := h
    cases hx : x == n with
    | true =>
      simp only [List.lookup_cons, hx]
      by_cases hc : (k₀ == NameKind.free && sc.kind == .function && sc.names.lookup n == some .cell) = true
      · rw [if_pos hc] at h'
        simp only [List.lookup_cons, hx] at h'
        cases h'
        simp only [Bool.and_eq_true, beq_iff_eq] at hc
        exact ⟨k₀, rfl, .inr ⟨hc.1.1, rfl⟩⟩
      · rw [if_neg hc] at h'
        simp only [List.lookup_cons, hx] at h'
        cases h'
        exact ⟨_, rfl, .inl rfl⟩
    | false =>
      simp only [List.lookup_cons, hx]
      by_cases hc : (k₀ == NameKind.free && sc.kind == .function && sc.names.lookup n == some .cell) = true
      · rw [if_pos hc] at h'
        simp only [List.lookup_cons, hx] at h'
        exact ih h'
      · rw [if_neg hc] at h'
        simp only [List.lookup_cons, hx] at h'
        exact ih h'
structure BlkOk (N : List Str) (sc scope : Scope) (own : List (Str × Nat)) : Prop where
  kind : scope.kind = .function
  uniq : ∀ y ∈ scope.names, scope.names.lookup y.1 = some y.2
  ix : ∀ p ∈ own, N[p.2]? = some p.1
  free : ∀ y ∈ scope.names, y.2 = .free → sc.names.lookup y.1 = some .cell ∨ sc.names.lookup y.1 = some .free
  own : ∀ y ∈ scope.names, y.2 = .local ∨ y.2 = .cell → y.1 ∈ own.map (·.1) ∨ y.1 ∉ N
def wipe (σ : St) : List Nat → St
  | [] => σ
  | v :: vs => (wipe σ vs).set v none
theorem wipe_length (σ : St) : ∀ vs : List Nat, (wipe σ vs).length = σ.length
  | [] => rfl
  | v :: vs => by unfold wipe; rw [List.length_set, wipe_length σ vs]
theorem wipe_some {σ : St} {i : Nat} {x : V} : ∀ {vs : List Nat}, (wipe σ vs)[i]? = some (some x) → σ[i]? = some (some x) ∧ i ∉ vs
  | [], h => ⟨h, by simp⟩
  | v :: vs, h => by
    unfold wipe at h
    by_cases hi : v = i
    · subst hi
      by_cases hv : v < (wipe σ vs).length
      · rw [List.getElem?_set_self hv] at h; cases h
      · rw [List.getElem?_eq_none (by simpa using hv)] at h; cases h
    · rw [List.getElem?_set_ne hi] at h
      obtain ⟨h1, h2⟩ := wipe_some h
      exact ⟨h1, by simp only [List.mem_cons, not_or]; exact ⟨fun e => hi e.symm, h2⟩⟩
abbrev Cx.blk (X : Cx) (s : Shared) (H : Hp) (scope : Scope) (cenv : Env) (fp : List Addr) : Cx := { X with s_0 := s, H_0 := H, env := cenv, outer := X.stack, ex := fp, fn := fun x => scope.names.lookup x == some .cell, pn := [], xe := fun _ _ => False }
section
variable {X : Cx} {pins : List (Addr × Obj)} {σ : St} {H : Hp} {s : Shared}
theorem block_start {scope : Scope} {own : List (Str × Nat)} {fp : List Addr} (I : Inv X pins σ H s) (ok : BlkOk X.N X.env.scope scope own) (hN : X.N.Nodup) (hfp : ∀ b ∈ fp, FpOk X pins H b ∧ b < s.heap.objs.size) :
    Inv (X.blk s H scope (compEnvC scope (cellsFrom (s.heap.objs.size + 1) scope.names (cloFrom X.env.cells scope.names [])) s.heap.objs.size X.env) fp) [] (wipe σ (own.map (·.2))) H { s with heap := pushCells (s.heap.push { cls := .type "dict", data := .dict #[] }) scope.names } := by
  have hfree : ∀ y ∈ scope.names, y.2 = .free → ∃ c, X.env.cells.lookup y.1 = some c := fun y hy e => by
    rcases ok.free y hy e with k | k
    · exact I.ok.has _ (.inl k)
    · exact I.ok.has _ (.inr k)
  generalize hcenv : compEnvC scope (cellsFrom (s.heap.objs.size + 1) scope.names (cloFrom X.env.cells scope.names [])) s.heap.objs.size X.env = cenv
  have kp : ∀ b o, s.heap.get? b = some o → (pushCells (s.heap.push { cls := .type "dict", data := .dict #[] }) scope.names).get? b = some o := fun b o e => pushCells_keeps _ _ _ _ (Heap.get?_push_of_some _ e)
  have hL : cenv.locals = s.heap.objs.size := by rw [← hcenv]; rfl
  have hcl : cenv.cells = cellsFrom (s.heap.objs.size + 1) scope.names (cloFrom X.env.cells scope.names []) := by rw [← hcenv]; rfl
  have hsc : cenv.scope = relS scope X.env.scope := by rw [← hcenv]; rfl
  rw [← Heap.size_push s.heap { cls := .type "dict", data := .dict #[] }] at hcl
  have cm : ∀ {y c}, (y, c) ∈ cloFrom X.env.cells scope.names [] → X.env.cells.lookup y = some c ∧ c < s.heap.objs.size := fun {y c} hm => by
    rcases cloFrom_mem hm with hm | ⟨h1, rfl⟩
    · cases hm
    · obtain ⟨c, hc⟩ := hfree _ h1 rfl
      rw [hc]
      obtain ⟨w, z⟩ := I.cell _ _ hc
      exact ⟨rfl, z.lt⟩
  have mem : ∀ {y c}, cenv.cells.lookup y = some c → (X.env.cells.lookup y = some c ∧ c < s.heap.objs.size) ∨ (s.heap.objs.size + 1 ≤ c ∧ CellAt (pushCells (s.heap.push { cls := .type "dict", data := .dict #[] }) scope.names) c none) := fun {y c} e => by
    rw [hcl] at e
    rcases cells_mem (PySem.mem_of_lookup e) with hm | ⟨_, h2, h3⟩
    · exact .inl (cm hm)
    · rw [Heap.size_push] at h2; exact .inr ⟨h2, h3⟩
  have look : ∀ {y}, scope.names.lookup y = some .free → ∃ c, cenv.cells.lookup y = some c ∧ X.env.cells.lookup y = some c := fun {y} hl => by
    have hy : (y, NameKind.free) ∈ scope.names := PySem.mem_of_lookup hl
    obtain ⟨c', e'⟩ := mem_lookup (cells_acc (names := scope.names) (n := (s.heap.push { cls := .type "dict", data := .dict #[] }).objs.size) (cloFrom_has (cells := X.env.cells) (acc := []) hy))
    rw [← hcl] at e'
    refine ⟨c', e', ?_⟩
    rw [hcl] at e'
    rcases cells_mem (PySem.mem_of_lookup e') with hm | ⟨h1, _, _⟩
    · exact (cm hm).1
    · have := ok.uniq _ h1
      rw [hl] at this; cases this
  have okB : (X.blk s H scope cenv fp).Ok := by
    refine ⟨I.ok.mod, by show cenv.scope.kind = _; rw [hsc]; exact ok.kind, by show cenv.globals = _; rw [← hcenv]; exact I.ok.glob, by show cenv.builtins = _; rw [← hcenv]; exact I.ok.blt, by show s.heap.objs.size ≤ cenv.locals; rw [hL]; exact Nat.le_refl _,
      fun y z c e1 e2 => ?_, fun y hy => ?_, fun y c z e => ?_, I.ok.hd, I.ok.frames, .inl rfl, fun b hb => ⟨?_, fun y c e z => ?_⟩, I.bs, Nat.le_trans I.ok.bsz I.sz, fun b o e hb => ?_, fun b hb z => ?_, I.stack, I.stkFree⟩
    · have e1 : cenv.cells.lookup y = some c := e1
      have e2 : cenv.cells.lookup z = some c := e2
      rw [hcl] at e1 e2
      refine cells_inj (fun p hp => ?_) (fun y z c a b => I.ok.inj y z c (cm a).1 (cm b).1) (PySem.mem_of_lookup e1) (PySem.mem_of_lookup e2)
      rw [Heap.size_push]
      exact Nat.lt_succ_of_lt (cm (y := p.1) (c := p.2) hp).2
    · show ∃ c, cenv.cells.lookup y = some c
      have key : ∀ k, cenv.kindOf y = some k → (k = .cell ∨ k = .free) → ∃ c, cenv.cells.lookup y = some c := fun k hk hk' => by
        unfold Env.kindOf at hk
        rw [hsc] at hk
        obtain ⟨k', e, r⟩ := lookup_relS hk
        have : k' = .cell ∨ k' = .free := by
          rcases r with rfl | ⟨rfl, _⟩
          · exact hk'
          · exact .inr rfl
        rcases this with rfl | rfl
        · obtain ⟨c, hm⟩ := cells_has (n := (s.heap.push { cls := .type "dict", data := .dict #[] }).objs.size) (acc := cloFrom X.env.cells scope.names []) (PySem.mem_of_lookup e)
          obtain ⟨c', e'⟩ := mem_lookup hm
          exact ⟨c', by rw [hcl]; exact e'⟩
        · obtain ⟨c, h1, _⟩ := look e
          exact ⟨c, h1⟩
      rcases hy with hy | hy
      · exact key _ hy (.inl rfl)
      · exact key _ hy (.inr rfl)
    · have z : (scope.names.lookup y == some NameKind.cell) = true := z
      have z : scope.names.lookup y = some .cell := by simpa using z
      have e : cenv.cells.lookup y = some c := e
      rw [hcl] at e
      rcases cells_mem (PySem.mem_of_lookup e) with hm | ⟨_, h2, _⟩
      · rcases cloFrom_mem hm with hm | ⟨h1, _⟩
        · cases hm
        · have q := ok.uniq _ h1
          rw [z] at q; cases q
      · rw [Heap.size_push] at h2
        exact Nat.le_of_succ_le h2
    · show b ≠ cenv.locals
      rw [hL]; exact Nat.ne_of_lt (hfp b hb).2
    · have e : cenv.cells.lookup y = some c := e
      rcases mem e with ⟨h1, _⟩ | ⟨h1, _⟩
      · exact (hfp b hb).1.2.2.2.2.1 y c h1 z
      · have h2 : s.heap.objs.size + 1 ≤ b := by rw [← z]; exact h1
        exact absurd (Nat.lt_of_lt_of_le (hfp b hb).2 (Nat.le_of_succ_le h2)) (Nat.lt_irrefl _)
    · rcases (hfp b hb).1.2.2.2.1 with z | z
      · exact I.ok.noex b o e z
      · exact absurd (Nat.lt_of_lt_of_le (Heap.lt_size e) (Nat.le_trans I.ok.bsz z)) (Nat.lt_irrefl _)
    · rcases List.mem_cons.mp (I.stkSub b z) with z | z
      · exact (hfp b hb).1.2.1 z
      · exact (hfp b hb).1.2.2.1 z
  refine ⟨okB, rfl, I.bare, Un.kept kp, ⟨fun _ => none, ?_, fun i y av e1 e2 e3 => ?_⟩, fun y c e => ?_, ?_, fun y c e => ?_, fun p hp => ?_, I.hok.kept kp, by rw [wipe_length]; exact I.len⟩
  · show Heap.Ns _ cenv.locals _
    rw [hL]
    exact Heap.Ns.keeps (Heap.Ns.new ..) fun b o e => pushCells_keeps _ _ _ _ e
  · obtain ⟨e2, hne⟩ := wipe_some e2
    have hfr : scope.names.lookup y = some .free ∧ (cenv.kindOf y = some .cell ∨ cenv.kindOf y = some .free) := by
      have key : ∀ k, cenv.scope.names.lookup y = some k → k = .local ∨ k = .cell ∨ k = .free → scope.names.lookup y = some .free ∧ (cenv.kindOf y = some .cell ∨ cenv.kindOf y = some .free) := fun k hk hk' => by
        have hk0 := hk
        rw [hsc] at hk
        obtain ⟨k', e, r⟩ := lookup_relS hk
        have no : ¬ (k' = .local ∨ k' = .cell) := fun hh => by
          rcases ok.own _ (PySem.mem_of_lookup e) hh with e' | e'
          · obtain ⟨p, hp, hpy⟩ := List.mem_map.mp e'
            have e3 := ok.ix p hp
            have : p.1 = y := hpy
            rw [this] at e3
            exact hne (List.mem_map.mpr ⟨p, hp, nodup_ix hN e3 e1⟩)
          · exact e' (List.mem_of_getElem? e1)
        rcases r with rfl | ⟨rfl, rfl⟩
        · rcases hk' with rfl | rfl | rfl
          · exact absurd (.inl rfl) no
          · exact absurd (.inr rfl) no
          · exact ⟨e, .inr hk0⟩
        · exact ⟨e, .inl hk0⟩
      have e3 : Vis cenv.scope y := e3
      rcases e3 with e3 | e3 | e3
      · exact key _ e3 (.inl rfl)
      · exact key _ e3 (.inr (.inl rfl))
      · exact key _ e3 (.inr (.inr rfl))
    obtain ⟨m, hn, hl⟩ := I.loc
    have hvis : Vis X.env.scope y := (ok.free _ (PySem.mem_of_lookup hfr.1) rfl).elim (fun k => .inr (.inl k)) (fun k => .inr (.inr k))
    obtain ⟨w, r, q⟩ := hl i y av e1 e2 hvis
    refine ⟨w, r, .inr ⟨hfr.2, ?_⟩⟩
    obtain ⟨c, h1, h2⟩ := look hfr.1
    rcases q with ⟨k, _⟩ | ⟨_, c', e', z⟩
    · have k : X.env.scope.names.lookup y = some .local := k
      rcases ok.free _ (PySem.mem_of_lookup hfr.1) rfl with k' | k' <;> rw [show X.env.scope.names.lookup y = _ from k'] at k <;> cases k
    · rw [h2] at e'; cases e'
      exact ⟨c, h1, z.keeps kp⟩
  · have e : cenv.cells.lookup y = some c := e
    rcases mem e with ⟨h1, _⟩ | ⟨_, z⟩
    · obtain ⟨w, z⟩ := I.cell y c h1
      exact ⟨w, z.keeps kp⟩
    · exact ⟨_, z⟩
  · show H cenv.locals = none
    rw [hL]; exact I.hok.fresh (Nat.le_refl _)
  · have e : cenv.cells.lookup y = some c := e
    rcases mem e with ⟨h1, _⟩ | ⟨h1, _⟩
    · exact I.freeC y c h1
    · exact I.hok.fresh (Nat.le_of_succ_le h1)
  · exact absurd (show p ∈ ([] : List (Addr × Obj)) ++ [] from hp) (by simp)
theorem app_ok {E : Value → Shared → Prop} {D : Addr} {xs : List V} {y : V} {v : Value} {Q : Value → Shared → Prop} (I : Inv X pins σ H s) (hD : H D = some (.lst xs)) (hz : xs.length < sizeLine) (r : RelV y v)
    (h : ∀ s', Inv X pins σ (upd H D (.lst (xs ++ [y]))) s' → Q .none s') : wpAny (model X.prog X.w) X.A (call (.builtin "list.append") [.ref D, v]) Q E s := by
  obtain ⟨hz', its, n, ri, e⟩ := I.hok D _ hD
  have hl := ri.length
  refine append_at (hsz := by rw [List.size_toArray]; omega) e fun h' sb ho' => ?_
  refine h { s with heap := h' } (I.write (t' := s.toks) (by rw [hD]; trivial) (.inl rfl) (fun b u hb q => (sb.2 b hb).trans q) ⟨_, ho'⟩ ⟨by rw [List.length_append]; exact hz, its ++ [v], n + 1, ri.append (.cons r .nil), ?_⟩)
  rw [ho']
  simp
def PTs (X : Cx) (ifs : List Expr) (t : TT) : Prop :=
  ∀ (pins : List (Addr × Obj)) (s : Shared) (σ : St) (H : Hp) (Q : Bool → Hp → Prop), Inv X pins σ H s → t σ H Q →
    wpAny (model X.prog X.w) X.A (forIn ifs true fun c r => if r = true then do let ok ← isTrue c X.env (eval c X.env); pure (ForInStep.yield ok) else pure (ForInStep.yield r)) (TP X pins σ Q) X.xe s
def tYes : TT := fun _ H Q => Q true H
theorem pts_nil : PTs X [] tYes := fun _ _ _ H _ I h => wpAny_tests_nil ⟨H, I, h⟩
end
theorem thnF {α : Type} {t : Sem α} {Q Q' : α → Shared → Prop} {M : Model} {A : Around} {E : Value → Shared → Prop} {s : Shared} (h : wpAny M A t Q (fun _ _ => False) s) (hQ : ∀ a s, Q a s → Q' a s) : wpAny M A t Q' E s := wpAny_mono h hQ fun _ _ z => False.elim z
theorem compLoop_any {prog : Program} {w : World} {A : Around} {R : Result → Shared → Prop} {s : Shared} {elt target iter : Expr} {ifs : List Expr} {scope : Scope} {pos : Pos} {it acc : Value} {env : Env} (I : Nat → Shared → Prop)
    (turn : ∀ n s, I n s → wpAny (model prog w) A (pyNext it) (fun r s₁ => match r with
      | none => R (.ok .next) s₁
      | some v => wpAny (model prog w) A (letOwnedTupleGo target it v) (fun _ s₁' => wpAny (model prog w) A (assign target env v) (fun _ s₂ =>
          wpAny (model prog w) A (forIn ifs true fun c r => if r = true then do let ok ← isTrue c env (eval c env); pure (ForInStep.yield ok) else pure (ForInStep.yield r)) (fun ok s₃ =>
            if ok = true then wpAny (model prog w) A (eval elt env) (fun x s₄ =>
              wpAny (model prog w) A (call (.builtin "list.append") [acc, x]) (fun _ s₅ => ∃ m, m < n ∧ I m s₅) (notedBy (model prog w) A env fun e s' => R (.error e) s') s₄) (notedBy (model prog w) A env fun e s' => R (.error e) s') s₃
            else ∃ m, m < n ∧ I m s₃) (notedBy (model prog w) A env fun e s' => R (.error e) s') s₂) (notedBy (model prog w) A env fun e s' => R (.error e) s') s₁') (notedBy (model prog w) A env fun e s' => R (.error e) s') s₁) (notedBy (model prog w) A env fun e s' => R (.error e) s') s)
    (n : Nat) (h : I n s) :
    codeAny (model prog w) A (.compLoop (.ListComp elt [⟨target, iter, ifs, 0⟩] scope pos) 0 it acc env) R s := by
  refine codeAny_loop rfl I (fun n s hI => ?_) n h
  show wpAny _ A ((compTurn (.ListComp elt [⟨target, iter, ifs, 0⟩] scope pos) 0 it acc env).onRaise (fun x => do noteFrame x env; theTreesLotGoes x)) _ _ s
  refine wpAny_noted ?_
  rw [compTurn_list]
  refine wpAny_bind (wpAny_standAt (wpAny_bind (wpAny_mono (turn n s hI) (fun r s₁ h₁ => ?_) fun _ _ h' => h')))
  cases r with
  | none => exact wpAny_pure h₁
  | some v =>
    refine wpAny_bind (wpAny_mono h₁ (fun _ s₁' h₁' => ?_) fun _ _ h' => h')
    refine wpAny_bind (wpAny_mono h₁' (fun _ s₂ h₂ => wpAny_bind (wpAny_mono h₂ (fun ok s₃ h₃ => ?_) fun _ _ h' => h')) fun _ _ h' => h')
    cases ok with
    | false => exact wpAny_pure ⟨rfl, h₃⟩
    | true =>
      exact wpAny_bind (wpAny_bind (wpAny_mono h₃ (fun x s₄ h₄ => wpAny_bind (wpAny_mono h₄ (fun _ s₅ h₅ => wpAny_pure (wpAny_pure ⟨rfl, h₅⟩)) fun _ _ h' => h')) fun _ _ h' => h'))
section
variable {X : Cx}
def tLc (wi : TI) (g : TG) (tt : TT) (te : TE) (vs : List Nat) : TE := fun σ H Q => wi σ H fun J H1 => ∀ D, H1 D = none → ∃ W : Nat → Nat → Hp → Prop, (∃ m, W 0 m (upd H1 D (.lst []))) ∧ ∀ i m H, W i m H →
  (J.stop i H ∧ Q (.ref D) H) ∨ (J.go i H ∧ ∃ Nx : Hp → Prop, (∀ H', Nx H' → ∃ m', m' < m ∧ W (i + 1) m' H') ∧ ∀ x H', J.yld i H x H' → g x (wipe σ vs) H' fun σ2 H2 => wipe σ2 vs = wipe σ vs ∧ tt σ2 H2 fun b H3 =>
    if b = true then te σ2 H3 fun y H4 => ∃ acc, H4 D = some (.lst acc) ∧ acc.length < sizeLine ∧ Nx (upd H4 D (.lst (acc ++ [y]))) else Nx H3)
theorem lc_core {pins : List (Addr × Obj)} {s : Shared} {σ : St} {H : Hp} {Q : VK} {elt tg iter : Expr} {ifs : List Expr} {scope : Scope} {own : List (Str × Nat)} {pos pos' : Pos} {wi : TI} {g : TG} {tt : TT} {te : TE} {use : Option (Value → Sem Unit)} {Qf : Value → Shared → Prop}
    (hc : X.calm = true) (hN : X.N.Nodup) (I : Inv X pins σ H s) (hi : PI X tg iter wi) (ok : BlkOk X.N X.env.scope scope own)
    (hg : ∀ (s : Shared) (H : Hp) (C : Addr) (cl : List (Str × Addr)) (fp : List Addr), PG (X.blk s H scope (compEnvC scope cl C X.env) fp) tg g) (ht : ∀ (s : Shared) (H : Hp) (C : Addr) (cl : List (Str × Addr)) (fp : List Addr), PTs (X.blk s H scope (compEnvC scope cl C X.env) fp) ifs tt)
    (he : ∀ (s : Shared) (H : Hp) (C : Addr) (cl : List (Str × Addr)) (fp : List Addr), PE (X.blk s H scope (compEnvC scope cl C X.env) fp) elt te) (hs : ∀ x, foldedSetIterable iter X.env x = pure x)
    (h : tLc wi g tt te (own.map (·.2)) σ H Q)
    (hRR : ∀ D C s' m H', Inv X pins σ H' s' → Q (.ref D) H' → s'.heap.Ns C m → FpOk X pins H' C → compPost (model X.prog X.w) X.A X.xe use Qf (.ref D) C (.ok .next) s') :
    wpAny (model X.prog X.w) X.A (comprehension (.ListComp elt [⟨tg, iter, ifs, 0⟩] scope pos) scope X.env pos' (newList []) false (eval iter X.env) use) Qf X.xe s := by
  have hfree : ∀ y ∈ scope.names, y.2 = .free → ∃ c, X.env.cells.lookup y.1 = some c := fun y hy e => by
    rcases ok.free y hy e with k | k
    · exact I.ok.has _ (.inl k)
    · exact I.ok.has _ (.inr k)
  refine wpAny_comprehension_free (use := use) rfl hs (closure_ok hfree) ok.kind (fun y hy e => by rw [ok.uniq y hy, e])
    (thn (hi pins s σ H _ I h) fun xv s1 hx => thn hx fun itv s2 h2 => ?_)
  obtain ⟨it, fp, tn, J, H2, e, I2, T, st2, f2, q⟩ := h2
  subst e
  refine wpAny_newObj_type (newEnv_comp ?_) (by show 0 ≤ sizeLine; decide)
  generalize hD : s2.heap.objs.size = D
  have hDn : H2 D = none := I2.hok.fresh (Nat.le_of_eq hD)
  obtain ⟨W, ⟨m0, w0⟩, turn⟩ := q D hDn
  -- the new list
  generalize hs3 : ({ s2 with heap := s2.heap.push { cls := .type "list", data := .seq ([] : List Value).toArray } } : Shared) = s3
  have I3 : Inv X pins σ (upd H2 D (.lst [])) s3 := by
    rw [← hs3]
    refine I2.laid (t' := s2.toks) (fun b o e => Heap.get?_push_of_some _ e) (Nat.le_of_eq hD) ⟨Nat.zero_le _, [], 0, .nil, ?_⟩
    rw [← hD]
    exact Heap.get?_push_size _ rfl
  have h3 : s3.heap = s2.heap.push { cls := .type "list", data := .seq ([] : List Value).toArray } := by rw [← hs3]
  have sz : ∀ b ∈ fp, b < s2.heap.objs.size := fun b hb => by
    obtain ⟨o, e, _⟩ := T.obj _ _ st2 b hb
    exact Heap.lt_size e
  have f3 : ∀ b ∈ fp, FpOk X pins (upd H2 D (.lst [])) b ∧ b < s3.heap.objs.size := fun b hb => by
    have hlt := sz b hb
    refine ⟨⟨?_, (f2 b hb).2⟩, by rw [h3, Heap.size_push]; exact Nat.lt_succ_of_lt hlt⟩
    rw [upd_ne (by rw [← hD]; exact Nat.ne_of_lt hlt)]
    exact (f2 b hb).1
  have st3 : tn 0 s3.heap := T.keep _ _ _ st2 fun b _ o e => by rw [h3]; exact Heap.get?_push_of_some _ e
  have I4 := block_start I3 ok hN f3
  have pg := hg s3 (upd H2 D (.lst [])) s3.heap.objs.size (cellsFrom (s3.heap.objs.size + 1) scope.names (cloFrom X.env.cells scope.names [])) fp
  have pt := ht s3 (upd H2 D (.lst [])) s3.heap.objs.size (cellsFrom (s3.heap.objs.size + 1) scope.names (cloFrom X.env.cells scope.names [])) fp
  have pe := he s3 (upd H2 D (.lst [])) s3.heap.objs.size (cellsFrom (s3.heap.objs.size + 1) scope.names (cloFrom X.env.cells scope.names [])) fp
  show codeAny _ _ (.compStart (.ListComp elt [⟨tg, iter, ifs, 0⟩] scope pos) 0 (.ref it) (.ref D) (compEnvC scope (cellsFrom (s3.heap.objs.size + 1) scope.names (cloFrom X.env.cells scope.names [])) s3.heap.objs.size X.env)) (compPost (model X.prog X.w) X.A X.xe use Qf (.ref D) s3.heap.objs.size) { s3 with heap := pushCells (s3.heap.push { cls := .type "dict", data := .dict #[] }) scope.names }
  have nfp : ∀ b ∈ fp, (upd H2 D (.lst [])) b = none := fun b hb => (f3 b hb).1.1
  generalize hce : compEnvC scope (cellsFrom (s3.heap.objs.size + 1) scope.names (cloFrom X.env.cells scope.names [])) s3.heap.objs.size X.env = ce at I4 pg pt pe ⊢
  have cL : ce.locals = s3.heap.objs.size := by subst hce; rfl
  generalize hH3 : upd H2 D (.lst []) = H3 at I3 I4 pg pt pe w0 nfp f3
  generalize hs4 : ({ s3 with heap := pushCells (s3.heap.push { cls := .type "dict", data := .dict #[] }) scope.names } : Shared) = s4 at I4 ⊢
  have st4 : tn 0 s4.heap := T.keep _ _ _ st3 fun b _ o e => by rw [← hs4]; exact pushCells_keeps _ _ _ _ (Heap.get?_push_of_some _ e)
  have stat : ∀ {σ' : St} {H' : Hp} {s' : Shared}, Inv (X.blk s3 H3 scope ce fp) [] σ' H' s' → (∀ b ∈ fp, H' b = none) → ∀ b ∈ fp, FpOk (X.blk s3 H3 scope ce fp) [] H' b := fun {σ' H' s'} I' hn b hb =>
    ⟨hn b hb, (I'.ok.exf b hb).1, I'.ok.exfs b hb, .inl hb, fun x c e => (I'.ok.exf b hb).2 x c e, fun p hp => absurd (show p ∈ ([] : List (Addr × Obj)) ++ [] from hp) (by simp)⟩
  have loop : codeAny (model X.prog X.w) X.A (.compLoop (.ListComp elt [⟨tg, iter, ifs, 0⟩] scope pos) 0 (.ref it) (.ref D) ce) (compPost (model X.prog X.w) X.A X.xe use Qf (.ref D) s3.heap.objs.size) s4 := by
    refine compLoop_any (fun n s' => ∃ i H', Inv (X.blk s3 H3 scope ce fp) [] (wipe σ (own.map (·.2))) H' s' ∧ tn i s'.heap ∧ (∀ b ∈ fp, H' b = none) ∧ W i n H') ?_ m0 ⟨0, H3, I4, st4, nfp, w0⟩
    rintro n s5 ⟨i, H5, I5, st5, n5, w5⟩
    rcases turn i n H5 w5 with ⟨stop, qq⟩ | ⟨go, Nx, hNx, step⟩
    · have td := T.done (X.blk s3 H3 scope ce fp) rfl rfl rfl hc i [] s5 _ H5 (fun _ _ => False) I5 (stat I5 n5) st5 stop
      refine thnF td fun r s6 ⟨hr, I6⟩ => ?_
      subst hr
      -- back in the def's context
      have I7 : Inv X pins σ H5 s6 := I3.call' (ch := fp) I6.os I6.base I6.hok I6.bare fun b hb => ⟨(f3 b hb).1.2.2.2.1, (f3 b hb).1.2.1, (f3 b hb).1.2.2.2.2.1, (f3 b hb).1.2.2.2.2.2⟩
      have nC : H5 s3.heap.objs.size = none := by
        have z : H5 ce.locals = none := I6.free
        rw [cL] at z
        exact z
      obtain ⟨m, hn, _⟩ := I6.loc
      have hn : s6.heap.Ns ce.locals m := hn
      rw [cL] at hn
      exact hRR D s3.heap.objs.size s6 m H5 I7 qq hn (I3.fpOk (Nat.le_refl _) nC)
    · have ti := T.item (X.blk s3 H3 scope ce fp) rfl rfl rfl hc i [] s5 _ H5 (fun _ _ => False) I5 (stat I5 n5) st5 go
      refine thnF ti fun r s6 ⟨u, hr, h6⟩ => ?_
      subst hr
      refine thnF h6 fun _ s7 ⟨x, H7, I7, r7, y7, st7, n7⟩ => ?_
      have I7' := I7.pinned (stat I7 n7) (T.obj _ _ st7)
      refine thnF (pg _ s7 _ H7 x u _ I7' r7 (step x H7 y7)) fun _ s8 ⟨σ8, H8, I8, hw8, q8⟩ => ?_
      refine thnF (pt _ s8 σ8 H8 _ I8 q8) fun b s9 ⟨H9, I9, q9⟩ => ?_
      -- the turn's end
      have fin : ∀ {s' : Shared} {H' : Hp}, Inv (X.blk s3 H3 scope ce fp) ([] ++ pinsAt fp s7.heap) σ8 H' s' → Nx H' → ∃ m, m < n ∧ ∃ i H', Inv (X.blk s3 H3 scope ce fp) [] (wipe σ (own.map (·.2))) H' s' ∧ tn i s'.heap ∧ (∀ b ∈ fp, H' b = none) ∧ W i m H' := fun {s' H'} I' nx => by
        obtain ⟨m', hm, w'⟩ := hNx H' nx
        have pin' : ∀ b ∈ fp, ∀ o, s7.heap.get? b = some o → s'.heap.get? b = some o ∧ H' b = none := fun b hb o e =>
          let z := I'.pin (b, o) (List.mem_append_right _ (List.mem_append_right _ (mem_pinsAt hb e)))
          ⟨z.1, z.2.1⟩
        have hl : (wipe σ (own.map (·.2))).length = σ8.length := by rw [← hw8, wipe_length]
        refine ⟨m', hm, i + 1, H', (I'.unpinned (pins := [])).weak hl (fun j v e => ?_), T.keep _ _ _ st7 fun b hb o e => (pin' b hb o e).1, fun b hb => ?_, w'⟩
        · rw [← hw8] at e
          exact (wipe_some e).1
        · obtain ⟨o, e, _⟩ := T.obj _ _ st7 b hb
          exact (pin' b hb o e).2
      cases b with
      | false =>
        simp only [Bool.false_eq_true, if_false] at q9 ⊢
        exact fin I9 q9
      | true =>
        simp only [if_true] at q9 ⊢
        refine thnF (pe _ s9 σ8 H9 _ I9 q9) fun z s10 ⟨yv, H10, I10, r10, acc, hD10, hz10, nx⟩ => ?_
        exact app_ok (X := X.blk s3 H3 scope ce fp) I10 hD10 hz10 r10 fun s11 I11 => fin I11 nx
  exact codeAny_compStart_list loop (T.self X.A 0 _ _ _ st4 loop)
theorem pe_lc {elt tg iter : Expr} {ifs : List Expr} {scope : Scope} {own : List (Str × Nat)} {pos : Pos} {wi : TI} {g : TG} {tt : TT} {te : TE} (hc : X.calm = true) (hN : X.N.Nodup) (hi : PI X tg iter wi) (ok : BlkOk X.N X.env.scope scope own)
    (hg : ∀ (s : Shared) (H : Hp) (C : Addr) (cl : List (Str × Addr)) (fp : List Addr), PG (X.blk s H scope (compEnvC scope cl C X.env) fp) tg g) (ht : ∀ (s : Shared) (H : Hp) (C : Addr) (cl : List (Str × Addr)) (fp : List Addr), PTs (X.blk s H scope (compEnvC scope cl C X.env) fp) ifs tt)
    (he : ∀ (s : Shared) (H : Hp) (C : Addr) (cl : List (Str × Addr)) (fp : List Addr), PE (X.blk s H scope (compEnvC scope cl C X.env) fp) elt te) (hs : ∀ x, foldedSetIterable iter X.env x = pure x := by intro _; rfl) :
    PE X (.ListComp elt [⟨tg, iter, ifs, 0⟩] scope pos) (tLc wi g tt te (own.map (·.2))) := by
  intro pins s σ H Q I h
  rw [eval_ListComp]
  refine lc_core hc hN I hi ok hg ht he hs h fun D C s' m H' I' q hn f => ⟨m, hn, fun h'' sb => ?_⟩
  obtain ⟨f0, f1, f2, f3, f4, f5⟩ := f
  exact ⟨.ref D, H', I'.turned (t' := s'.toks) (fun b o hb e => (sb.2 b hb).trans e) f0 f1 f3 f4 f5, rfl, q⟩
theorem ps_setLc {i : Nat} {y : Str} {py : Pos} {elt tg iter : Expr} {ifs : List Expr} {scope : Scope} {own : List (Str × Nat)} {pos spos : Pos} {wi : TI} {g : TG} {tt : TT} {te : TE} (hc : X.calm = true) (hN : X.N.Nodup) (hy : X.N[i]? = some y) (hyl : X.env.scope.names.lookup y = some .local)
    (hsw : swapsWith (.ListComp elt [⟨tg, iter, ifs, 0⟩] scope pos) (some (.Name y py)) spos.line X.env = pure true) (hi : PI X tg iter wi) (ok : BlkOk X.N X.env.scope scope own)
    (hg : ∀ (s : Shared) (H : Hp) (C : Addr) (cl : List (Str × Addr)) (fp : List Addr), PG (X.blk s H scope (compEnvC scope cl C X.env) fp) tg g) (ht : ∀ (s : Shared) (H : Hp) (C : Addr) (cl : List (Str × Addr)) (fp : List Addr), PTs (X.blk s H scope (compEnvC scope cl C X.env) fp) ifs tt)
    (he : ∀ (s : Shared) (H : Hp) (C : Addr) (cl : List (Str × Addr)) (fp : List Addr), PE (X.blk s H scope (compEnvC scope cl C X.env) fp) elt te) (hs : ∀ x, foldedSetIterable iter X.env x = pure x := by intro _; rfl) :
    PS X (.Assign [.Name y py] (.ListComp elt [⟨tg, iter, ifs, 0⟩] scope pos) spos) (tAsg (tLc wi g tt te (own.map (·.2))) (gName i)) := by
  intro pins s σ H D I h
  rw [exec_Assign_Name_used _ _ _ _ hsw]
  refine wpAny_bind (wpAny_standAt (wpAny_bind ?_))
  show wpAny _ X.A (do let _ ← comprehension (.ListComp elt [⟨tg, iter, ifs, 0⟩] scope pos) scope X.env (firstIterPos [⟨tg, iter, ifs, 0⟩] pos) (newList []) false (eval iter X.env) (some (assign (.Name y py) X.env))) _ _ s
  have h : tLc wi g tt te (own.map (·.2)) σ H (fun x H1 => gName i x σ H1 D.nx) := h
  refine wpAny_bind (thn (lc_core (Qf := fun _ s' => SP X pins D .next s') hc hN I hi ok hg ht he hs h fun L C s' m H' I' q hn f => ?_) fun _ s' hq => wpAny_pure (wpAny_pure hq))
  show wpAny _ _ (assign (.Name y py) X.env (.ref L)) _ _ _
  refine wpAny_assign_Name (store_ok2 (v := V.ref L) I' hN hy (.inl hyl) rfl (fun s2 I2 ⟨a, sb, ha⟩ => ?_) (.inr hyl))
  obtain ⟨f0, f1, f2, f3, f4, f5⟩ := f
  have haC : C ≠ a := by
    rcases ha with z | z
    · rw [z]; exact f1
    · exact fun e => f4 y a z e.symm
  refine ⟨m, hn.sameBut sb haC, fun h3 sb3 => ?_⟩
  exact ⟨_, H', I2.turned (t' := s2.toks) (fun b o hb e => (sb3.2 b hb).trans e) f0 f1 f3 f4 f5, q⟩
theorem sw_true {elt : Expr} {gs : List Comprehension} {scope : Scope} {pos py : Pos} {y : Str} {l : Nat} {env : Env} (hk : env.scope.kind = .function) (hy : env.scope.names.lookup y = some .local) (hl : (py.line == pos.line) = true)
    (ha : (scope.names.any fun (n, k) => n == y && (k == .local || k == .cell)) = false) : swapsWith (.ListComp elt gs scope pos) (some (.Name y py)) l env = pure true := by
  have ky : env.kindOf y = some .local := hy
  have hb : env.blockKind = .function := by unfold Env.blockKind; rw [hk]; rfl
  unfold swapsWith
  simp only [hb, ky, ha, Expr.pos, hl]
  rfl
end
theorem lc_range {lo : Int} {n : Nat} {g : TG} {tt : TT} {te : TE} {vs : List Nat} {σ : St} {H1 : Hp} {D : Addr} {Qd : Hp → Prop} (Pv : Nat → Hp → Prop) (h0 : Pv 0 (upd H1 D (.lst [])))
    (hs : ∀ i H, i < n → Pv i H → g (.int (lo + i)) (wipe σ vs) H fun σ2 H2 => wipe σ2 vs = wipe σ vs ∧ tt σ2 H2 fun b H3 =>
      if b = true then te σ2 H3 fun y H4 => ∃ acc, H4 D = some (.lst acc) ∧ acc.length < sizeLine ∧ Pv (i + 1) (upd H4 D (.lst (acc ++ [y]))) else Pv (i + 1) H3) (hd : ∀ H, Pv n H → Qd H) :
    ∃ W : Nat → Nat → Hp → Prop, (∃ m, W 0 m (upd H1 D (.lst []))) ∧ ∀ i m H, W i m H →
      ((Itr lo n).stop i H ∧ Qd H) ∨ ((Itr lo n).go i H ∧ ∃ Nx : Hp → Prop, (∀ H', Nx H' → ∃ m', m' < m ∧ W (i + 1) m' H') ∧ ∀ x H', (Itr lo n).yld i H x H' → g x (wipe σ vs) H' fun σ2 H2 => wipe σ2 vs = wipe σ vs ∧ tt σ2 H2 fun b H3 =>
        if b = true then te σ2 H3 fun y H4 => ∃ acc, H4 D = some (.lst acc) ∧ acc.length < sizeLine ∧ Nx (upd H4 D (.lst (acc ++ [y]))) else Nx H3) := by
  refine ⟨fun i m H => m = n - i ∧ i ≤ n ∧ Pv i H, ⟨n, by simp, Nat.zero_le _, h0⟩, ?_⟩
  rintro i m H ⟨rfl, hi, p⟩
  by_cases hlt : i < n
  · refine .inr ⟨hlt, Pv (i + 1), fun H' p' => ⟨n - (i + 1), by omega, rfl, hlt, p'⟩, fun x H' y => ?_⟩
    obtain ⟨e, y⟩ := y
    subst e y
    exact hs i _ hlt p
  · have e : i = n := by omega
    subst e
    exact .inl ⟨Nat.le_refl _, hd H p⟩
theorem lc_list {K : PySem.W.Frag} {a : Addr} {xs : List V} {g : TG} {tt : TT} {te : TE} {vs : List Nat} {σ : St} {H1 : Hp} {D : Addr} {Qd : Hp → Prop} (Pv : Nat → Hp → Prop) (h0 : Pv 0 (upd H1 D (.lst []))) (hl : ∀ i H, i ≤ xs.length → Pv i H → SqL K H a xs)
    (hs : ∀ i x H, xs[i]? = some x → Pv i H → g x (wipe σ vs) H fun σ2 H2 => wipe σ2 vs = wipe σ vs ∧ tt σ2 H2 fun b H3 =>
      if b = true then te σ2 H3 fun y H4 => ∃ acc, H4 D = some (.lst acc) ∧ acc.length < sizeLine ∧ Pv (i + 1) (upd H4 D (.lst (acc ++ [y]))) else Pv (i + 1) H3) (hd : ∀ H, Pv xs.length H → Qd H) :
    ∃ W : Nat → Nat → Hp → Prop, (∃ m, W 0 m (upd H1 D (.lst []))) ∧ ∀ i m H, W i m H →
      ((Itl K a).stop i H ∧ Qd H) ∨ ((Itl K a).go i H ∧ ∃ Nx : Hp → Prop, (∀ H', Nx H' → ∃ m', m' < m ∧ W (i + 1) m' H') ∧ ∀ x H', (Itl K a).yld i H x H' → g x (wipe σ vs) H' fun σ2 H2 => wipe σ2 vs = wipe σ vs ∧ tt σ2 H2 fun b H3 =>
        if b = true then te σ2 H3 fun y H4 => ∃ acc, H4 D = some (.lst acc) ∧ acc.length < sizeLine ∧ Nx (upd H4 D (.lst (acc ++ [y]))) else Nx H3) := by
  refine ⟨fun i m H => m = xs.length - i ∧ i ≤ xs.length ∧ Pv i H, ⟨xs.length, by simp, Nat.zero_le _, h0⟩, ?_⟩
  rintro i m H ⟨rfl, hi, p⟩
  have q := hl i H hi p
  by_cases hlt : i < xs.length
  · refine .inr ⟨⟨xs, xs[i], q, by simp [hlt]⟩, Pv (i + 1), fun H' p' => ⟨xs.length - (i + 1), by omega, rfl, hlt, p'⟩, fun x H' y => ?_⟩
    obtain ⟨e, y⟩ := y
    subst e
    exact hs i x _ (y xs q) p
  · have e : i = xs.length := by omega
    subst e
    exact .inl ⟨⟨xs, q, Nat.le_refl _⟩, hd H p⟩
def blkC (N : List Str) (sc scope : Scope) (own : List (Str × Nat)) : Bool :=
  (match scope.kind with | .function => true | _ => false) && (scope.names.all fun y => decide (scope.names.lookup y.1 = some y.2)) && (own.all fun p => decide (N[p.2]? = some p.1)) &&
    (scope.names.all fun y => match y.2 with
      | .free => (match sc.names.lookup y.1 with | some .cell => true | some .free => true | _ => false)
      | .local => decide (y.1 ∈ own.map (·.1)) || decide (y.1 ∉ N)
      | .cell => decide (y.1 ∈ own.map (·.1)) || decide (y.1 ∉ N)
      | _ => true)
theorem blkOk_by {N : List Str} {sc scope : Scope} {own : List (Str × Nat)} (h : blkC N sc scope own = true) : BlkOk N sc scope own := by
  unfold blkC at h
  simp only [Bool.and_eq_true, List.all_eq_true, decide_eq_true_eq] at h
  obtain ⟨⟨⟨h1, h2⟩, h3⟩, h4⟩ := h
  refine ⟨?_, h2, h3, fun y hy e => ?_, fun y hy e => ?_⟩
  · split at h1
    · assumption
    · cases h1
  · have q := h4 y hy
    simp only [e] at q
    split at q <;> first | exact .inl (by assumption) | exact .inr (by assumption) | cases q
  · have q := h4 y hy
    rcases e with e | e <;> (simp only [e, Bool.or_eq_true, decide_eq_true_eq] at q; exact q)
end L2
namespace L2
open PySem PySem.Spec PyProof.Rows
section
variable {prog : Program} {w : World} {A : Around} {R : Result → Shared → Prop} {s : Shared} {elt t0 i0 t1 i1 : Expr} {ifs0 ifs1 : List Expr} {scope : Scope} {pos : Pos} {it acc : Value} {env : Env}
end
section
variable {X : Cx}
end
end L2
namespace L2
open PySem PySem.Spec PyProof.Rows
section
variable {κ : Type} [DecidableEq κ]
def valV (kvs : List (κ × V)) (k : κ) : Option V := (kvs.find? fun kv => decide (kv.1 = k)).map (·.2)
def putK (kvs : List (κ × V)) (k : κ) (v : V) : List (κ × V) :=
  if (kvs.any fun kv => decide (kv.1 = k)) = true then kvs.map (fun kv => if kv.1 = k then (kv.1, v) else kv) else kvs ++ [(k, v)]
theorem valV_pos {p : κ × V} {r : List (κ × V)} {k : κ} (e : p.1 = k) : valV (p :: r) k = some p.2 := by simp [valV, List.find?_cons, e]
theorem valV_neg {p : κ × V} {r : List (κ × V)} {k : κ} (e : ¬ p.1 = k) : valV (p :: r) k = valV r k := by simp [valV, List.find?_cons, e]
theorem valV_any (k : κ) : ∀ kvs : List (κ × V), (kvs.any fun kv => decide (kv.1 = k)) = (valV kvs k).isSome
  | [] => rfl
  | p :: r => by
    rw [List.any_cons]
    by_cases e : p.1 = k
    · simp only [valV_pos e, decide_eq_true e, Bool.true_or, Option.isSome_some]
    · rw [valV_neg e, decide_eq_false e, Bool.false_or]; exact valV_any k r
theorem length_putK (kvs : List (κ × V)) (k : κ) (v : V) : (putK kvs k v).length ≤ kvs.length + 1 := by
  unfold putK
  split
  · rw [List.length_map]; omega
  · rw [List.length_append, List.length_cons, List.length_nil]; omega
theorem RelO.isSome_eq {o : Option V} {u : Option Value} (r : RelO o u) : o.isSome = u.isSome := by
  cases o with
  | none => cases u with
    | none => rfl
    | some _ => exact (show False from r).elim
  | some _ => cases u with
    | none => exact (show False from r).elim
    | some _ => rfl
theorem RelO.getD {o : Option V} {u : Option Value} {d : V} {d' : Value} (r : RelO o u) (rd : RelV d d') : RelV (o.getD d) (u.getD d') := by
  cases o with
  | none => cases u with
    | none => exact rd
    | some _ => exact (show False from r).elim
  | some _ => cases u with
    | none => exact (show False from r).elim
    | some _ => exact r
theorem KV.val {kvs : List (κ × V)} {vs : List (κ × Value)} (r : KV kvs vs) (k : κ) : RelO (valV kvs k) (valueAt vs k) := by
  unfold KV at r
  induction r with
  | nil => exact True.intro
  | @cons p q ps qs h t ih =>
    obtain ⟨h1, h2⟩ := h
    by_cases e : p.1 = k
    · have e' : q.1 = k := h1.symm.trans e
      have b : valueAt (q :: qs) k = some q.2 := by simp [valueAt, List.find?_cons, e']
      rw [valV_pos e, b]; exact h2
    · have e' : ¬ q.1 = k := fun z => e (h1.trans z)
      have b : valueAt (q :: qs) k = valueAt qs k := by simp [valueAt, List.find?_cons, e']
      rw [valV_neg e, b]; exact ih
theorem KV.any {kvs : List (κ × V)} {vs : List (κ × Value)} (r : KV kvs vs) (k : κ) : (kvs.any fun kv => decide (kv.1 = k)) = vs.any fun kv => decide (kv.1 = k) := by
  unfold KV at r
  induction r with
  | nil => rfl
  | cons h t ih => rw [List.any_cons, List.any_cons, ih, h.1]
theorem KV.repl {kvs : List (κ × V)} {vs : List (κ × Value)} (r : KV kvs vs) (k : κ) {y : V} {u : Value} (ry : RelV y u) :
    KV (kvs.map fun kv => if kv.1 = k then (kv.1, y) else kv) (vs.map fun kv => if kv.1 = k then (kv.1, u) else kv) := by
  unfold KV at r ⊢
  induction r with
  | nil => exact .nil
  | @cons p q ps qs h t ih =>
    rw [List.map_cons, List.map_cons]
    refine .cons ?_ ih
    obtain ⟨h1, h2⟩ := h
    by_cases e : p.1 = k
    · rw [if_pos e, if_pos (h1.symm.trans e)]; exact ⟨h1, ry⟩
    · rw [if_neg e, if_neg (fun z => e (h1.trans z))]; exact ⟨h1, h2⟩
theorem KV.put {kvs : List (κ × V)} {vs : List (κ × Value)} (r : KV kvs vs) (k : κ) {y : V} {u : Value} (ry : RelV y u) : KV (putK kvs k y) (stored vs k u) := by
  unfold putK stored
  rw [r.any k]
  by_cases e : (vs.any fun kv => decide (kv.1 = k)) = true
  · rw [if_pos e, if_pos e]; exact r.repl k ry
  · rw [if_neg e, if_neg e]; exact Paired.snoc r ⟨rfl, ry⟩
theorem KV.length {kvs : List (κ × V)} {vs : List (κ × Value)} (r : KV kvs vs) : kvs.length = vs.length := Paired.length r
end
theorem kV_is {P : Program} {w : World} {k : Key} {u : Value} (r : RelV (kV k) u) : (mixKind P w).is k u = true := by
  cases k with
  | inl i => obtain ⟨t, e⟩ := (show ∃ t, u = Value.int i t from r); subst e; exact mixKind_int P w i t
  | inr x => obtain ⟨t, e⟩ := (show ∃ t, u = Value.str x t from r); subst e; exact mixKind_str P w x t
theorem items_are {P : Program} {w : World} : ∀ {ks : List Key} {us : List Value}, Vals (ks.map kV) us → ItemsAre (mixKind P w) ks us
  | [], _, r => by rw [List.map_nil] at r; cases r; exact .nil
  | k :: ks, _, r => by
    rw [List.map_cons] at r
    cases r with
    | cons h t => exact .cons (kV_is h) (items_are t)
abbrev KT (H : Hp) : List (List Key × V) → List (List Key × Addr × Value) → Prop := Paired fun p q => p.1 = q.1 ∧ H q.2.1 = some (.tup (p.1.map kV)) ∧ RelV p.2 q.2.2
theorem KT.val {H : Hp} {kvs : List (List Key × V)} {xs : List (List Key × Addr × Value)} (r : KT H kvs xs) (k : List Key) : RelO (valV kvs k) ((atKey xs k).map (·.2)) := by
  induction r with
  | nil => exact True.intro
  | @cons p q ps qs h t ih =>
    obtain ⟨h1, _, h2⟩ := h
    by_cases e : p.1 = k
    · have e' : q.1 = k := h1.symm.trans e
      have b : atKey (q :: qs) k = some q.2 := by simp [atKey, List.find?_cons, e']
      rw [valV_pos e, b]; exact h2
    · have e' : ¬ q.1 = k := fun z => e (h1.trans z)
      have b : atKey (q :: qs) k = atKey qs k := by simp [atKey, List.find?_cons, e']
      rw [valV_neg e, b]; exact ih
theorem KT.repl {H : Hp} {kvs : List (List Key × V)} {xs : List (List Key × Addr × Value)} (r : KT H kvs xs) (k : List Key) {y : V} {u : Value} (ry : RelV y u) :
    KT H (kvs.map fun kv => if kv.1 = k then (kv.1, y) else kv) (xs.map (putAt k u)) := by
  induction r with
  | nil => exact .nil
  | @cons p q ps qs h t ih =>
    rw [List.map_cons, List.map_cons]
    refine .cons ?_ ih
    obtain ⟨h1, h2, h3⟩ := h
    unfold putAt
    by_cases e : p.1 = k
    · rw [if_pos e, if_pos (h1.symm.trans e)]; exact ⟨h1, h2, ry⟩
    · rw [if_neg e, if_neg (fun z => e (h1.trans z))]; exact ⟨h1, h2, h3⟩
theorem KT.put {H : Hp} {kvs : List (List Key × V)} {xs : List (List Key × Addr × Value)} (r : KT H kvs xs) (k : List Key) {b : Addr} {y : V} {u : Value} (hb : H b = some (.tup (k.map kV))) (ry : RelV y u) :
    KT H (putK kvs k y) (storedH xs k b u) := by
  have e : (kvs.any fun kv => decide (kv.1 = k)) = (atKey xs k).isSome := by
    rw [valV_any, (r.val k).isSome_eq, Option.isSome_map]
  unfold putK storedH
  rw [e]
  by_cases q : (atKey xs k).isSome = true
  · rw [if_pos q, if_pos q]; exact r.repl k ry
  · rw [if_neg q, if_neg q]; exact Paired.snoc r ⟨rfl, hb, ry⟩
theorem KT.keeps {H H' : Hp} {kvs : List (List Key × V)} {xs : List (List Key × Addr × Value)} (r : KT H kvs xs) (ht : ∀ b ys, H b = some (.tup ys) → H' b = some (.tup ys)) : KT H' kvs xs :=
  Paired.mapP r fun _ _ z => ⟨z.1, ht _ _ z.2.1, z.2.2⟩
section
variable {P : Program} {w : World} {H : Hp} {h : Heap} {a : Addr}
theorem rd_of {u : HO} (ok : HOk P w H h) (e : Rd H a u) : ObjOk P w H h a u := e.ok ok
theorem dk_rd {kvs : List (Key × V)} (ok : HOk P w H h) (e : Rd H a (.dK kvs)) : kvs.length ≤ sizeLine ∧ (a == sysModules) = false ∧ ∃ vs, KV kvs vs ∧ h.DictOf (mixKind P w) a vs :=
  show ObjOk P w H h a (.dK kvs) from rd_of ok e
theorem dk_of {kvs : List (Key × V)} (ok : HOk P w H h) (e : H a = some (.dK kvs)) : kvs.length ≤ sizeLine ∧ (a == sysModules) = false ∧ ∃ vs, KV kvs vs ∧ h.DictOf (mixKind P w) a vs := dk_rd ok (.inl e)
theorem key_of {ks : List Key} (ok : HOk P w H h) (e : H a = some (.tup (ks.map kV))) : (tupleKind (mixKind P w)).is h ks a := by
  obtain ⟨_, its, r, o, h1, h2, n, h3⟩ := (show ObjOk P w H h a (.tup (ks.map kV)) from ok a _ e)
  exact ⟨o, its.toArray, n, h1, h2, h3, by simpa using items_are r⟩
theorem dt_rd {kvs : List (List Key × V)} (ok : HOk P w H h) (e : Rd H a (.dT kvs)) : kvs.length ≤ sizeLine ∧ (a == sysModules) = false ∧
    ∃ xs, KT H kvs xs ∧ h.DictOfH (tupleKind (mixKind P w)) a xs := by
  obtain ⟨z, y, xs, r, o, es, ep, h1, h2, h3, h4, h5⟩ := (show ObjOk P w H h a (.dT kvs) from rd_of ok e)
  refine ⟨z, y, xs, r, o, es, ep, h1, h2, h3, h4, fun x hx => ?_, h5⟩
  have all : ∀ {l : List (List Key × V)} {m : List (List Key × Addr × Value)}, KT H l m → ∀ x ∈ m, (tupleKind (mixKind P w)).is h x.1 x.2.1 := by
    intro l m q
    induction q with
    | nil => intro x hx; exact nomatch hx
    | @cons p q ps qs hq t ih =>
      intro x hx
      rcases List.mem_cons.mp hx with e | hx
      · subst e
        exact key_of ok (by rw [← hq.1]; exact hq.2.1)
      · exact ih x hx
  exact all r x hx
theorem dt_of {kvs : List (List Key × V)} (ok : HOk P w H h) (e : H a = some (.dT kvs)) : kvs.length ≤ sizeLine ∧ (a == sysModules) = false ∧
    ∃ xs, KT H kvs xs ∧ h.DictOfH (tupleKind (mixKind P w)) a xs := dt_rd ok (.inl e)
end
def DGet (H : Hp) (a : Addr) (y : V) (r : Option V) : Prop :=
  (∃ kvs k, Rd H a (.dK kvs) ∧ y = kV k ∧ r = valV kvs k) ∨ ∃ kvs k b, Rd H a (.dT kvs) ∧ y = .ref b ∧ H b = some (.tup (k.map kV)) ∧ r = valV kvs k
def DPut (H : Hp) (a : Addr) (y v : V) (H' : Hp) : Prop :=
  (∃ kvs k, H a = some (.dK kvs) ∧ y = kV k ∧ kvs.length < sizeLine ∧ H' = upd H a (.dK (putK kvs k v))) ∨
  ∃ kvs k b, H a = some (.dT kvs) ∧ y = .ref b ∧ H b = some (.tup (k.map kV)) ∧ kvs.length < sizeLine ∧ H' = upd H a (.dT (putK kvs k v))
theorem DGet.k {H : Hp} {a : Addr} {kvs : List (Key × V)} {k : Key} (e : H a = some (.dK kvs)) : DGet H a (kV k) (valV kvs k) := .inl ⟨kvs, k, .inl e, rfl, rfl⟩
theorem DPut.k {H : Hp} {a : Addr} {kvs : List (Key × V)} {k : Key} {v : V} (e : H a = some (.dK kvs)) (hl : kvs.length < sizeLine) : DPut H a (kV k) v (upd H a (.dK (putK kvs k v))) := .inl ⟨kvs, k, e, rfl, hl, rfl⟩
section
variable {X : Cx} {pins : List (Addr × Obj)} {σ : St} {H : Hp} {s : Shared} {a : Addr} {y v : V} {u r : Value} {o : Option V} {A : Around} {E : Value → Shared → Prop}
theorem Inv.big (I : Inv X pins σ H s) : sysModules < s.heap.objs.size := by
  have h : mainGlobals < s.heap.objs.size := (I.mod.glob.keeps I.bk).lt
  exact Nat.lt_trans (by decide) h
theorem d_getItem {Q : Value → Shared → Prop} (hu : A.units + 1 < cLine) (I : Inv X pins σ H s) (g : DGet H a y (some v)) (ry : RelV y u) (h : ∀ w' s', Inv X pins σ H s' → RelV v w' → Q w' s') :
    wpAny (model X.prog X.w) A (getItem (.ref a) u) Q E s := by
  rcases g with ⟨kvs, k, e, ey, l⟩ | ⟨kvs, k, b, e, ey, eb, l⟩
  · subst ey
    obtain ⟨z, hd, vs, rel, dd⟩ := dk_rd I.hok e
    obtain ⟨w', hw, rw'⟩ := RelO.some_of (v := v) (o := valueAt vs k) (by rw [l]; exact rel.val k)
    exact wpAny_getItem_of (kV_is ry) dd.mapOf hw (h w' _ (I.tok _) rw')
  · subst ey
    cases (show u = Value.ref b from ry)
    obtain ⟨z, hd, xs, rel, dd⟩ := dt_rd I.hok e
    obtain ⟨w', hw, rw'⟩ := RelO.some_of (v := v) (o := (atKey xs k).map (·.2)) (by rw [l]; exact rel.val k)
    obtain ⟨p, hp, hp2⟩ := Option.map_eq_some_iff.mp hw
    refine wpAny_getItem_heap (tupleKind_room_in1 hu) (key_of I.hok eb) dd hp ?_
    rw [hp2]
    exact h w' _ (I.tok _) rw'
theorem d_write {h' : Heap} {t' : Nat} {ob : HO} (I : Inv X pins σ H s) (mu : Mut (H a)) (hs : Heap.SameBut a s.heap h') (he : ∃ q, h'.get? a = some q) (new : ObjOk X.prog X.w (upd H a ob) h' a ob) :
    Inv X pins σ (upd H a ob) { s with heap := h', toks := t' } :=
  I.write (x := a) (e := a) mu (.inl rfl) (fun b q hb z => (hs.2 b hb).trans z) he new
theorem dk_new {P : Program} {w : World} {H' : Hp} {h' : Heap} {kvs : List (Key × V)} {vs : List (Key × Value)} (z : kvs.length ≤ sizeLine) (hd : (a == sysModules) = false) (rel : KV kvs vs) (dd : h'.DictOf (mixKind P w) a vs) :
    ObjOk P w H' h' a (.dK kvs) := ⟨z, hd, vs, rel, dd⟩
theorem d_setItem {H' : Hp} {Q : Unit → Shared → Prop} (hu : A.units + 1 < cLine) (I : Inv X pins σ H s) (g : DPut H a y v H') (ry : RelV y u) (rv : RelV v r) (h : ∀ s', Inv X pins σ H' s' → Q () s') :
    wpAny (model X.prog X.w) A (setItem (.ref a) u r) Q E s := by
  rcases g with ⟨kvs, k, e, ey, l, eH⟩ | ⟨kvs, k, b, e, ey, eb, l, eH⟩
  · subst ey eH
    obtain ⟨z, hd, vs, rel, dd⟩ := dk_of I.hok e
    have hz : vs.length ≤ sizeLine := by rw [← rel.length]; exact z
    have hl : (putK kvs k v).length ≤ sizeLine := by have := length_putK kvs k v; omega
    refine wpAny_setItem_pairs (hsz := hz) (kV_is ry) dd fun h' dd' hs => h _ ?_
    have he : ∃ q, h'.get? a = some q := let ⟨q, _, _, hq, _⟩ := dd'; ⟨q, hq⟩
    exact d_write I (by rw [e]; exact True.intro) hs he (dk_new hl hd (rel.put k rv) dd')
  · subst ey eH
    cases (show u = Value.ref b from ry)
    obtain ⟨z, hd, xs, rel, dd⟩ := dt_of I.hok e
    have hz : xs.length ≤ sizeLine := by rw [← Paired.length rel]; exact z
    have hl : (putK kvs k v).length ≤ sizeLine := by have := length_putK kvs k v; omega
    refine wpAny_setItem_heap (hsz := hz) (tupleKind_room_in1 hu) (key_of I.hok eb) dd fun h' dd' hs => h _ ?_
    obtain ⟨q, es, ep, hq, h2, h3, h4, _, h5⟩ := dd'
    refine d_write I (by rw [e]; exact True.intro) hs ⟨q, hq⟩ ⟨hl, hd, _, (rel.put k eb rv).keeps fun c ys ec => ?_, q, es, ep, hq, h2, h3, h4, h5⟩
    rw [upd_ne (ne_of ec e (fun z => nomatch z))]
    exact ec
end
section
variable {X : Cx} {pins : List (Addr × Obj)} {σ : St} {H : Hp} {s : Shared} {a : Addr} {kvs : List (Key × V)} {k : Key} {u : Value} {A : Around} {E : Value → Shared → Prop}
end
def NoSl (i : Expr) : Prop := ∀ ov iv, subscripted i false ov iv = operate [ov, iv] (getItem ov iv)
theorem subD_of {prog : Program} {w : World} {A : Around} {E : Value → Shared → Prop} {s : Shared} {env : Env} {value slice : Expr} {pos : Pos} {T id : String} {Q : Value → Shared → Prop}
    (hl : typeLookup (.type T) "__getitem__" = pure (some (.builtin id))) (hs : NoSl slice)
    (h : wpAny (model prog w) A (eval value env) (fun o s₁ => wpAny (model prog w) A (eval slice env) (fun i s₂ => s₂.TypeIs o T ∧ wpAny (model prog w) A (getItem o i) Q E s₂) E s₁) E s) :
    wpAny (model prog w) A (eval (.Subscript value slice pos) env) Q E s := by
  refine Subscript_ (wpAny_mono h (fun o s₁ h₁ => wpAny_mono h₁ (fun i s₂ h₂ => ?_) fun _ _ x => x) fun _ _ x => x)
  obtain ⟨hT, h₂⟩ := h₂
  unfold subscriptTail
  refine wpAny_bind ?_
  rw [getitemInPython_of_ne hT.not_modules]
  refine wpAny_bind (wpAny_specialOf hT hl ?_)
  have fin : wpAny (model prog w) A (subscripted slice false o i) (fun r s₃ => wpAny (model prog w) A (letTemporaryGo value o r >>= fun _ => pure r) Q E s₃) E s₂ := by
    rw [hs o i]
    exact wpAny_operating (wpAny_mono h₂ (fun r s₃ h₃ => wpAny_bind (wpAny_letTemporaryGo (wpAny_pure h₃))) fun _ _ x => x)
  first
    | exact wpAny_pure (wpAny_bind fin)
    | exact wpAny_bind (wpAny_pure (wpAny_bind fin))
    | exact wpAny_bind fin
theorem dict_typeIs {X : Cx} {pins : List (Addr × Obj)} {σ : St} {H : Hp} {s : Shared} {a : Addr} {y : V} {o : Option V} (I : Inv X pins σ H s) (g : DGet H a y o) : s.TypeIs (.ref a) "dict" := by
  rcases g with ⟨kvs, k, e, _, _⟩ | ⟨kvs, k, b, e, _, _, _⟩
  · obtain ⟨_, _, vs, _, dd⟩ := dk_rd I.hok e
    exact dd.typeIs
  · obtain ⟨_, _, xs, _, dd⟩ := dt_rd I.hok e
    exact dd.typeIs
def tDGet (td ty : TE) : TE := fun σ H Q => td σ H fun x H1 => ty σ H1 fun y H2 => ∃ a v, x = .ref a ∧ DGet H2 a y (some v) ∧ Q v H2
def sDPut (td ty tv : TE) : TS := fun D σ H => tv σ H fun v H1 => td σ H1 fun x H2 => ty σ H2 fun y H3 => ∃ a H4, x = .ref a ∧ DPut H3 a y v H4 ∧ D.nx σ H4
section
variable {X : Cx} {o i e value : Expr} {pos pos' tpos : Pos} {td ty tv : TE}
theorem pe_dget (hu : X.A.units + 1 < cLine) (ho : PE X o td) (hi : PE X i ty) (hs : NoSl i) : PE X (.Subscript o i pos) (tDGet td ty) := by
  intro pins s σ H Q I h
  refine subD_of PySem.F.slot_dict_getitem.lookup hs (thn (ho pins s σ H _ I h) fun u s1 ⟨x, H1, I1, rx, q1⟩ => thn (hi pins s1 σ H1 _ I1 q1) fun iv s2 ⟨y, H2, I2, ry, a, v, ex, g, q2⟩ => ?_)
  subst ex
  obtain rfl : u = Value.ref a := rx
  exact ⟨dict_typeIs I2 g, d_getItem hu I2 g ry fun w' s3 I3 rw' => ⟨v, H2, I3, rw', q2⟩⟩
theorem ps_dput (hu : X.A.units + 1 < cLine) (ho : PE X o td) (hi : PE X i ty) (hv : PE X value tv) (hs : swapsWith value (some (.Subscript o i pos')) pos.line X.env = pure false) :
    PS X (.Assign [.Subscript o i pos'] value pos) (sDPut td ty tv) := by
  intro pins s σ H D I h
  refine wpAny_Assign_Subscript (thn (hv pins s σ H _ I h) fun r s1 ⟨v, H1, I1, rv, q1⟩ => thn (ho pins s1 σ H1 _ I1 q1) fun u s2 ⟨x, H2, I2, rx, q2⟩ => thn (hi pins s2 σ H2 _ I2 q2) fun iv s3 ⟨y, H3, I3, ry, a, H4, ex, g, q3⟩ => ?_) hs
  subst ex
  obtain rfl : u = Value.ref a := rx
  exact d_setItem hu I3 g ry rv fun s4 I4 => ⟨σ, H4, I4, q3⟩
end
theorem dk_empty {P : Program} {w : World} {H : Hp} (h : Heap) (hb : sysModules < h.objs.size) : ObjOk P w H (h.push { cls := .type "dict", data := .dict #[] }) h.objs.size (.dK []) :=
  ⟨Nat.zero_le _, beq_eq_false_iff_ne.mpr (Ne.symm (Nat.ne_of_lt hb)), [], .nil, Heap.DictOf.new h⟩
def tDNewK : TE := fun _ H Q => ∀ p, H p = none → Q (.ref p) (upd H p (.dK []))
section
variable {X : Cx} {pos : Pos}
theorem pe_dnewK : PE X (.Dict [] [] pos) tDNewK := fun pins s σ H Q I h =>
  wpAny_Dict_empty ⟨.ref s.heap.objs.size, _, I.laid (a := s.heap.objs.size) (o := .dK []) (t' := s.toks) (fun _ _ q => Heap.get?_push_of_some _ q) (Nat.le_refl _) (dk_empty s.heap I.big), rfl, h _ (I.hok.fresh (Nat.le_refl _))⟩
end
structure M2 (X : Cx) (o : Expr) (m : Str) (apos : Pos) (e f : Expr) (cpos : Pos) : Prop where
  base : attributeBase o m X.env (eval o X.env) = eval o X.env
  few : ((backTo cpos (starEach [e, f] X.env)).all (fun x => !x.1) && (backToKw cpos (keywordEach [] X.env)).all (fun x => x.1.isSome)
    && decide (([e, f] : List Expr).length + ([] : List Keyword).length + (if ([] : List Keyword).isEmpty then 0 else 1) < 30)) = true
  line : (apos.endLine == cpos.line) = true
  trees : backTo cpos (starEach [e, f] X.env) = [(false, eval e X.env), (false, eval f X.env)]
def IsD (H : Hp) (a : Addr) : Prop := (∃ kvs, Rd H a (.dK kvs)) ∨ ∃ kvs, Rd H a (.dT kvs)
theorem isD_at {X : Cx} {pins : List (Addr × Obj)} {σ : St} {H : Hp} {s : Shared} {a : Addr} (I : Inv X pins σ H s) (d : IsD H a) :
    s.TypeIs (.ref a) "dict" ∧ (∀ b, Value.ref a = .ref b → ∃ ob, s.heap.get? b = some ob ∧ ob.dict = none) ∧ (a == sysModules) = false := by
  rcases d with ⟨kvs, e⟩ | ⟨kvs, e⟩
  · obtain ⟨_, hd, vs, _, dd⟩ := dk_rd I.hok e
    refine ⟨dd.typeIs, fun b q => ?_, hd⟩
    cases q
    obtain ⟨ob, _, _, h1, h2, _⟩ := dd
    exact ⟨ob, h1, h2.2.1⟩
  · obtain ⟨_, hd, xs, _, dd⟩ := dt_rd I.hok e
    refine ⟨dd.typeIs, fun b q => ?_, hd⟩
    cases q
    obtain ⟨ob, _, _, h1, h2, _⟩ := dd
    exact ⟨ob, h1, h2.2.1⟩
section
variable {X : Cx} {pins : List (Addr × Obj)} {σ : St} {H : Hp} {s : Shared} {a : Addr} {y d : V} {u r : Value} {o : Option V} {A : Around} {E : Value → Shared → Prop}
theorem d_get2 {Q : Value → Shared → Prop} (hu : A.units + 1 < cLine) (I : Inv X pins σ H s) (g : DGet H a y o) (ry : RelV y u) (rd : RelV d r) (h : ∀ w' s', Inv X pins σ H s' → RelV (o.getD d) w' → Q w' s') :
    wpAny (model X.prog X.w) A (call (.builtin "dict.get") [.ref a, u, r]) Q E s := by
  rcases g with ⟨kvs, k, e, ey, l⟩ | ⟨kvs, k, b, e, ey, eb, l⟩
  · subst ey
    obtain ⟨z, hd, vs, rel, dd⟩ := dk_rd I.hok e
    refine call_meetsIn PySem.F.slot_dict_get dd.typeIs PySem.F.entry_dict_get (PySem.F.args_dict_get_3 _ _ _) (meets_dict_get_default (mixKind X.prog X.w) a (kV_is ry) hd r) ⟨_, dd.mapOf, h _ _ (I.tok _) ?_⟩
    rw [l]
    exact (rel.val k).getD rd
  · subst ey
    cases (show u = Value.ref b from ry)
    obtain ⟨z, hd, xs, rel, dd⟩ := dt_rd I.hok e
    refine call_meetsIn PySem.F.slot_dict_get dd.typeIs PySem.F.entry_dict_get (PySem.F.args_dict_get_3 _ _ _) (meetsH_dict_get_default (tupleKind (mixKind X.prog X.w)) a b hd r) ⟨tupleKind_room_in1 hu, k, xs, key_of I.hok eb, dd, h _ _ (I.tok _) ?_⟩
    rw [l]
    exact (rel.val k).getD rd
end
def tDGet2 (td ty tx : TE) : TE := fun σ H Q => td σ H fun x H1 => ∃ a, x = .ref a ∧ IsD H1 a ∧ ty σ H1 fun y H2 => tx σ H2 fun z H3 => ∃ o, DGet H3 a y o ∧ Q (o.getD z) H3
section
variable {X : Cx} {o e f : Expr} {apos cpos : Pos} {td ty tx : TE}
theorem pe_dget2 (hu : X.A.units + 1 < cLine) (ho : PE X o td) (he : PE X e ty) (hf : PE X f tx) (m : M2 X o "get" apos e f cpos) : PE X (.Call (.Attribute o "get" apos) [e, f] [] cpos) (tDGet2 td ty tx) := by
  intro pins s σ H Q I h
  refine wpAny_Call_method m.base m.few m.line PySem.F.plainAttrs_dict PySem.F.slot_dict_get PySem.F.type_dict_get (thn (ho pins s σ H _ I h) fun u s1 ⟨x, H1, I1, rx, a, ex, d, q1⟩ => ?_)
  subst ex
  obtain rfl : u = Value.ref a := rx
  obtain ⟨t1, t2, _⟩ := isD_at I1 d
  refine ⟨t1, t2, ?_⟩
  rw [m.trees]
  refine Calls.callWith_builtin rfl (Calls.evalArgs_plain (Calls.spliced_cons (thn (he pins s1 σ H1 _ I1 q1) fun iv s2 ⟨y, H2, I2, ry, q2⟩ =>
    Calls.spliced_cons (thn (hf pins s2 σ H2 _ I2 q2) fun fv s3 ⟨z, H3, I3, rz, ov, g, q3⟩ => Calls.spliced_nil ?_))))
  exact d_get2 hu I3 g ry rz fun w' s4 I4 rw' => ⟨_, H3, I4, rw', q3⟩
end
section
variable {X : Cx} {pins : List (Addr × Obj)} {σ : St} {H : Hp} {s : Shared} {a : Addr} {kvs : List (Key × V)} {A : Around} {E : Value → Shared → Prop}
end
section
variable {X : Cx} {pins : List (Addr × Obj)} {σ : St} {H : Hp} {s : Shared} {a : Addr} {y : V} {u : Value} {A : Around} {E : Value → Shared → Prop}
end
end L2
namespace L2
open PySem PySem.Spec PyProof.Rows
section
variable {prog : Program} {w : World} {A : Around} {E : Value → Shared → Prop}
end
section
variable {X : Cx}
end
end L2
namespace L2
open PySem PySem.Spec PyProof.Rows
section
variable {X : Cx} {pins : List (Addr × Obj)} {σ : St} {H : Hp} {s : Shared} {h' : Heap}
theorem Inv.turnedL {t' : Nat} {ch : List Addr} (I : Inv X pins σ H s) (k : ∀ b o, b ∉ ch → s.heap.get? b = some o → h'.get? b = some o) (hf : ∀ b ∈ ch, FpOk X pins H b) : Inv X pins σ H { s with heap := h', toks := t' } := by
  have nit : ∀ b u, H b = some u → b ∉ ch := fun b u e z => by
    have q := (hf b z).1
    rw [q] at e; cases e
  refine I.step (g' := s.gens) (d' := s.drawn) (ch := ch) (fun b hb => ⟨(hf b hb).2.2.2.1, (hf b hb).2.1, (hf b hb).2.2.2.2.1, (hf b hb).2.2.2.2.2⟩) (fun b o _ _ hc e _ => k b o hc e) (fun b o _ _ hc e _ => ⟨o.slots, k b o hc e⟩)
    (fun _ _ _ _ n => n) (fun b o hc e => ⟨o, k b o hc e⟩) (fun _ _ e => e) (fun _ _ _ e => e) (fun b ps e => ⟨#[], by rw [e]; simp⟩) (fun m hm => ?_) (fun b u e => ?_) I.bare
  · obtain ⟨o, es, ep, ho, r⟩ := hm
    exact ⟨o, es, ep, k _ o (fun z => (hf _ z).2.1 rfl) ho, r⟩
  · refine (I.hok b u e).stay (fun c v hc q => k c v ?_ q) (fun _ q => q) fun _ _ q => q
    rcases hc with z | z
    · rw [z]; exact nit b u e
    · exact nit c _ z
theorem Inv.turnedNew {t' : Nat} {ch : List Addr} {T : Addr} {ob : HO} (I : Inv X pins σ H s) (k : ∀ b o, b ∉ ch → s.heap.get? b = some o → h'.get? b = some o) (hf : ∀ b ∈ ch, FpOk X pins H b) (hT : s.heap.objs.size ≤ T)
    (new : ObjOk X.prog X.w (upd H T ob) h' T ob) : Inv X pins σ (upd H T ob) { s with heap := h', toks := t' } := by
  have hn : H T = none := I.hok.fresh hT
  have nit : ∀ b u, H b = some u → b ∉ ch := fun b u e z => by
    have q := (hf b z).1
    rw [q] at e; cases e
  refine I.step (g' := s.gens) (d' := s.drawn) (ch := ch) (fun b hb => ⟨(hf b hb).2.2.2.1, (hf b hb).2.1, (hf b hb).2.2.2.2.1, (hf b hb).2.2.2.2.2⟩) (fun b o _ _ hc e _ => k b o hc e) (fun b o _ _ hc e _ => ⟨o.slots, k b o hc e⟩)
    (fun b o _ e n => ?_) (fun b o hc e => ⟨o, k b o hc e⟩) (fun b xs e => ?_) (fun b o u e => ?_) (fun b ps e => ⟨#[], ?_⟩) (fun m hm => ?_) (fun b u e => ?_) I.bare
  · rw [upd_ne (Nat.ne_of_lt (Nat.lt_of_lt_of_le (Heap.lt_size e) hT))]; exact n
  · rw [upd_ne (ne_of_none e hn)]; exact e
  · rw [upd_ne (ne_of_none e hn)]; exact e
  · rw [upd_ne (ne_of_none e hn), e]; simp
  · obtain ⟨o, es, ep, ho, r⟩ := hm
    exact ⟨o, es, ep, k _ o (fun z => (hf _ z).2.1 rfl) ho, r⟩
  · by_cases hb : b = T
    · subst hb
      rw [upd_same] at e
      cases e
      exact new
    · rw [upd_ne hb] at e
      refine (I.hok b u e).stay (fun c v hc q => k c v ?_ q) (fun c q => by rw [upd_ne (ne_of_none q hn)]; exact q) fun c xs q => by rw [upd_ne (ne_of_none q hn)]; exact q
      rcases hc with z | z
      · rw [z]; exact nit b u e
      · exact nit c _ z
end
section
variable {X : Cx}
end
section
variable {X : Cx} {tg : Expr}
end
section
variable {X : Cx} {tg : Expr}
end
section
variable {prog : Program} {w : World} {A : Around} {E : Value → Shared → Prop} {s : Shared}
end
theorem kv_get {κ : Type} {kvs : List (κ × V)} {vs : List (κ × Value)} (h : KV kvs vs) : ∀ {i : Nat} {k : κ} {v : V}, kvs[i]? = some (k, v) → ∃ u, vs[i]? = some (k, u) ∧ RelV v u := by
  unfold KV at h
  induction h with
  | nil => intro i k v e; simp at e
  | @cons a b l₁ l₂ r t ih =>
    intro i k v e
    cases i with
    | zero =>
      simp only [List.getElem?_cons_zero, Option.some.injEq] at e
      subst e
      refine ⟨b.2, ?_, r.2⟩
      simp only [List.getElem?_cons_zero]
      exact congrArg some (Prod.ext r.1.symm rfl)
    | succ j =>
      simp only [List.getElem?_cons_succ] at e ⊢
      exact ih e
theorem relV_key {k : Key} {u : Value} (h : keyIs k u = true) : RelV (kV k) u := by
  rcases keyIs_shape h with ⟨i, t, rfl, rfl⟩ | ⟨x, t, rfl, rfl⟩
  · exact ⟨t, rfl⟩
  · exact ⟨t, rfl⟩
section
variable {X : Cx} {pins : List (Addr × Obj)} {σ : St} {H : Hp} {s : Shared} {d : Addr} {o : Obj}
end
section
variable {P : Program} {w : World} {K : PySem.W.Frag} {tg : Expr} {d : Addr} {o : Obj} {es : Array DictEntry} {ep : Nat}
end
section
variable {X : Cx} {tg e : Expr} {td : TE} {apos cpos : Pos}
end
def Ite (K : PySem.W.Frag) (a : Addr) : It :=
  ⟨fun i H => ∃ (xs : List V) (x : V), SqL K H a xs ∧ xs[i]? = some x, fun i H v H' => ∃ T x, v = .ref T ∧ H T = none ∧ H' = upd H T (.tup [.int (i : Nat), x]) ∧ ∀ xs, SqL K H a xs → xs[i]? = some x, fun i H => ∃ xs : List V, SqL K H a xs ∧ xs.length ≤ i⟩
theorem turn_enum {P : Program} {w : World} {K : PySem.W.Frag} {elts : List Expr} {kk : Nat} {tpos : Pos} (a e it : Addr) :
    Turn P w K (.Tuple elts kk tpos) (Ite K a) [e, it] e (fun i h => (∃ old, IsEnum h e it ((i : Nat) : Int) old) ∧ h.IsListIter it a i ∧ e ≠ it) where
  mem := by simp
  obj := fun i h st b hb => by
    obtain ⟨⟨old, he⟩, ⟨o, ho, hc, hd⟩, _⟩ := st
    have e' : b = e ∨ b = it := by simpa using hb
    rcases e' with z | z
    · rw [z]; exact ⟨_, he, fun v q => nomatch q⟩
    · rw [z]; exact ⟨o, ho, fun v q => by rw [hd] at q; cases q⟩
  keep := fun i h h' st k => let ⟨⟨old, he⟩, hi, hne⟩ := st; ⟨⟨old, k e (by simp) _ he⟩, hi.at fun o q => k it (by simp) o q, hne⟩
  item := by
    intro X hP hw hK hc i pins s σ H E I hf st hg
    subst hP hw hK
    obtain ⟨⟨old, he⟩, hit, hne⟩ := st
    obtain ⟨xs, x, hq, hx⟩ := hg
    obtain ⟨its, rv, p, hz⟩ := I.list hq
    obtain ⟨u, hu, ru⟩ := rv.get hx
    have hel : e < s.heap.objs.size := Heap.lt_size he
    have hil : it < s.heap.objs.size := by obtain ⟨_, q, _⟩ := hit; exact Heap.lt_size q
    refine wpAny_pyNext_enum_item he hit p.isList (x := u) (by simpa using hu) hne fun h' ho hit' hT hsz hk => ?_
    refine ⟨_, rfl, wpAny_letOwnedTupleGo_enum (s := { s with heap := h', toks := s.toks + 1 }) ho fun h'' he' sb => ?_⟩
    have hT2 : h''.get? s.heap.objs.size = some { cls := .type "tuple", data := .seq #[.int i s.toks, u] } := (sb.2 _ (Nat.ne_of_gt hel)).trans hT
    have new : ObjOk X.prog X.w (upd H s.heap.objs.size (.tup [.int (i : Nat), x])) h'' s.heap.objs.size (.tup [.int (i : Nat), x]) :=
      ⟨by show 2 ≤ sizeLine; decide, [.int i s.toks, u], .cons ⟨_, rfl⟩ (.cons ru .nil), ⟨_, hT2, rfl, _, rfl⟩⟩
    have I1 : Inv X pins σ (upd H s.heap.objs.size (.tup [.int (i : Nat), x])) { s with heap := h'', toks := s.toks + 1 } :=
      I.turnedNew (ch := [e, it]) (fun b ob hb q => (sb.2 b (fun z => hb (by simp [z]))).trans (hk b ob (fun z => hb (by simp [z])) (fun z => hb (by simp [z])) q)) hf (Nat.le_refl _) new
    refine ⟨.ref s.heap.objs.size, _, I1, rfl, ⟨_, x, rfl, I.hok.fresh (Nat.le_refl _), rfl, fun ys hy => by rw [I.list_inj hy hq]; exact hx⟩, ⟨⟨u, ?_⟩, hit'.at fun o q => (sb.2 it (Ne.symm hne)).trans q, hne⟩, fun b hb => ?_⟩
    · have e1 : ((i + 1 : Nat) : Int) = (i : Int) + 1 := by omega
      rw [e1]; exact he'
    · have hb' : b < s.heap.objs.size := by
        have e' : b = e ∨ b = it := by simpa using hb
        rcases e' with z | z
        · rw [z]; exact hel
        · rw [z]; exact hil
      rw [upd_ne (Nat.ne_of_lt hb')]
      exact (hf b hb).1
  done := by
    intro X hP hw hK hc i pins s σ H E I hf st hg
    subst hP hw hK
    obtain ⟨⟨old, he⟩, hit, hne⟩ := st
    obtain ⟨xs, hq, hx⟩ := hg
    obtain ⟨its, rv, p, hz⟩ := I.list hq
    obtain ⟨f0, f1, f2, f3, f4, f5⟩ := hf it (by simp)
    have hl := rv.length
    exact wpAny_pyNext_enum_end (I.ok.hd hc) he hit p.isList (by simp; omega) fun h' eb => ⟨rfl, I.turned (t' := s.toks) (fun b o hb q => eb b o hb q) f0 f1 f3 f4 f5⟩
  self := fun A i s Q E st h => let ⟨⟨_, he⟩, _⟩ := st; wpAny_pyIter_enum he h
def iEnum (K : PySem.W.Frag) (ta : TA) : TI := fun σ H R => ta σ H fun vs H1 => ∃ a xs, vs = [.ref a] ∧ SqL K H1 a xs ∧ R (Ite K a) H1
theorem pi_enum {X : Cx} {e : Expr} {ta : TA} {p pos tpos : Pos} {elts : List Expr} {kk : Nat} (hg : Gl X "enumerate") (hm : X.mg "enumerate" = none) (ha : PA X [e] ta) (hs : starEach [e] X.env = [(false, eval e X.env)] := by rfl) :
    PI X (.Tuple elts kk tpos) (.Call (.Name "enumerate" p) [e] [] pos) (iEnum X.K ta) := by
  intro pins s σ H R I h
  refine Call_ (ld_blt I hg hm boot_enumerate (PyProof.Rows.callWith_type1 (thn (ha pos pins s σ H _ I h) fun us s1 ⟨vs, H1, I1, r1, q1⟩ => ?_) hs rfl))
  obtain ⟨a, xs, ex, hq, q⟩ := q1
  subst ex
  cases r1 with
  | cons r rr =>
    cases rr
    cases r
    obtain ⟨its, rv, p', hz⟩ := I1.list hq
    refine call_enumerate_list p'.isList fun h' he hit hsz hk => wpAny_pyIter_enum he ?_
    have I2 : Inv X pins σ H1 { s1 with heap := h' } := I1.kept (t' := s1.toks) hk
    refine ⟨s1.heap.objs.size + 1, [s1.heap.objs.size + 1, s1.heap.objs.size], _, _, H1, rfl, I2, turn_enum a (s1.heap.objs.size + 1) s1.heap.objs.size, ⟨⟨.none, he⟩, hit, Nat.succ_ne_self _⟩, fun b hb => ?_, q⟩
    have e' : b = s1.heap.objs.size + 1 ∨ b = s1.heap.objs.size := by simpa using hb
    have hle : s1.heap.objs.size ≤ b := by
      rcases e' with z | z
      · rw [z]; exact Nat.le_add_right _ _
      · rw [z]; exact Nat.le_refl _
    exact I1.fpOk hle (I1.hok.fresh hle)
theorem boot_zip5 : bootBuiltins "zip" = some (.type "zip") := by decide +kernel
def Itz (K : PySem.W.Frag) (a b : Addr) : It :=
  ⟨fun i H => ∃ (xs ys : List V) (x y : V), SqL K H a xs ∧ SqL K H b ys ∧ xs[i]? = some x ∧ ys[i]? = some y,
    fun i H v H' => ∃ T x y, v = .ref T ∧ H T = none ∧ H' = upd H T (.tup [x, y]) ∧ (∀ xs, SqL K H a xs → xs[i]? = some x) ∧ ∀ ys, SqL K H b ys → ys[i]? = some y,
    fun i H => ∃ xs ys : List V, SqL K H a xs ∧ SqL K H b ys ∧ (xs.length ≤ i ∨ ys.length ≤ i)⟩
theorem turn_zip {P : Program} {w : World} {K : PySem.W.Frag} {elts : List Expr} {kk : Nat} {tpos : Pos} {a b z TI TO i1 i2 : Addr} (D : ZipApart z TI TO i1 i2 a b) :
    Turn P w K (.Tuple elts kk tpos) (Itz K a b) [z, TI, TO, i1, i2] z (fun i h => IsZip h z TI TO .none ∧ IsPair h TI (.ref i1) (.ref i2) ∧ (∃ x y, IsPair h TO x y) ∧ h.IsListIter i1 a i ∧ h.IsListIter i2 b i) where
  mem := by simp
  obj := fun i h st c hc => by
    obtain ⟨hz, hTI, ⟨x, y, hTO⟩, ⟨o1, e1, _, d1⟩, ⟨o2, e2, _, d2⟩⟩ := st
    have e' : c = z ∨ c = TI ∨ c = TO ∨ c = i1 ∨ c = i2 := by simpa using hc
    rcases e' with q | q | q | q | q
    · rw [q]; exact ⟨_, hz, fun v q => nomatch q⟩
    · rw [q]; exact ⟨_, hTI, fun v q => nomatch q⟩
    · rw [q]; exact ⟨_, hTO, fun v q => nomatch q⟩
    · rw [q]; exact ⟨o1, e1, fun v q => by rw [d1] at q; cases q⟩
    · rw [q]; exact ⟨o2, e2, fun v q => by rw [d2] at q; cases q⟩
  keep := fun i h h' st k => by
    obtain ⟨hz, hTI, ⟨x, y, hTO⟩, h1, h2⟩ := st
    exact ⟨k z (by simp) _ hz, k TI (by simp) _ hTI, ⟨x, y, k TO (by simp) _ hTO⟩, h1.at fun o q => k i1 (by simp) o q, h2.at fun o q => k i2 (by simp) o q⟩
  item := by
    intro X hP hw hK hc i pins s σ H E I hf st hg
    subst hP hw hK
    obtain ⟨hz, hTI, ⟨x0, y0, hTO⟩, h1, h2⟩ := st
    obtain ⟨xs, ys, x, y, hqx, hqy, hx, hy⟩ := hg
    obtain ⟨its, rv, p, _⟩ := I.list hqx
    obtain ⟨its2, rv2, p2, _⟩ := I.list hqy
    obtain ⟨u, hu, ru⟩ := rv.get hx
    obtain ⟨u2, hu2, ru2⟩ := rv2.get hy
    have hzl : z < s.heap.objs.size := Heap.lt_size hz
    refine wpAny_pyNext_zip_item D hz hTI hTO h1 h2 p.isList p2.isList (x := u) (y := u2) (by simpa using hu) (by simpa using hu2) fun h' z' TO' h1' h2' hT hsz hk => ?_
    refine ⟨_, rfl, wpAny_letOwnedTupleGo_zip (s := { s with heap := h' }) z' fun h'' z'' sb => ?_⟩
    have hT2 : h''.get? s.heap.objs.size = some { cls := .type "tuple", data := .seq #[u, u2] } := (sb.2 _ (Nat.ne_of_gt hzl)).trans hT
    have new : ObjOk X.prog X.w (upd H s.heap.objs.size (.tup [x, y])) h'' s.heap.objs.size (.tup [x, y]) :=
      ⟨by show 2 ≤ sizeLine; decide, [u, u2], .cons ru (.cons ru2 .nil), ⟨_, hT2, rfl, _, rfl⟩⟩
    have I1 : Inv X pins σ (upd H s.heap.objs.size (.tup [x, y])) { s with heap := h'' } :=
      I.turnedNew (t' := s.toks) (ch := [z, TI, TO, i1, i2]) (fun c o hb q => (sb.2 c (fun q' => hb (by simp [q']))).trans (hk c o (fun q' => hb (by simp [q'])) (fun q' => hb (by simp [q'])) (fun q' => hb (by simp [q'])) (fun q' => hb (by simp [q'])) q)) hf (Nat.le_refl _) new
    refine ⟨.ref s.heap.objs.size, _, I1, rfl, ⟨_, x, y, rfl, I.hok.fresh (Nat.le_refl _), rfl, fun l hl => by rw [I.list_inj hl hqx]; exact hx, fun l hl => by rw [I.list_inj hl hqy]; exact hy⟩, ⟨z'', ?_, ⟨u, u2, ?_⟩, ?_, ?_⟩, fun c hcm => ?_⟩
    · exact (sb.2 _ D.TIz).trans (hk _ _ D.TIz D.TITO D.TIi1 D.TIi2 hTI)
    · exact (sb.2 _ D.TOz).trans TO'
    · exact h1'.at fun o q => (sb.2 _ D.i1z).trans q
    · exact h2'.at fun o q => (sb.2 _ D.i2z).trans q
    · have hlt : c < s.heap.objs.size := by
        have e' : c = z ∨ c = TI ∨ c = TO ∨ c = i1 ∨ c = i2 := by simpa using hcm
        rcases e' with q | q | q | q | q
        · rw [q]; exact hzl
        · rw [q]; exact Heap.lt_size hTI
        · rw [q]; exact Heap.lt_size hTO
        · rw [q]; obtain ⟨_, e1, _⟩ := h1; exact Heap.lt_size e1
        · rw [q]; obtain ⟨_, e2, _⟩ := h2; exact Heap.lt_size e2
      rw [upd_ne (Nat.ne_of_lt hlt)]
      exact (hf c hcm).1
  done := by
    intro X hP hw hK hc i pins s σ H E I hf st hg
    subst hP hw hK
    obtain ⟨hz, hTI, ⟨x0, y0, hTO⟩, h1, h2⟩ := st
    obtain ⟨xs, ys, hqx, hqy, hend⟩ := hg
    obtain ⟨its, rv, p, _⟩ := I.list hqx
    obtain ⟨its2, rv2, p2, _⟩ := I.list hqy
    have l1 := rv.length
    have l2 := rv2.length
    have he : its.toArray[i]? = none ∨ its2.toArray[i]? = none := by
      rcases hend with q | q
      · exact .inl (by simp; omega)
      · exact .inr (by simp; omega)
    exact wpAny_pyNext_zip_end (I.ok.hd hc) D hz hTI hTO h1 h2 p.isList p2.isList he fun h' hk => ⟨rfl, I.turnedL (t' := s.toks) (ch := [z, TI, TO, i1, i2]) (fun c o hb q =>
      hk c o (fun q' => hb (by simp [q'])) (fun q' => hb (by simp [q'])) (fun q' => hb (by simp [q'])) (fun q' => hb (by simp [q'])) q) hf⟩
  self := fun A i s Q E st h => wpAny_pyIter_zip st.1 h
def iZip (K : PySem.W.Frag) (ta : TA) : TI := fun σ H R => ta σ H fun vs H1 => ∃ a b xs ys, vs = [.ref a, .ref b] ∧ SqL K H1 a xs ∧ SqL K H1 b ys ∧ R (Itz K a b) H1
theorem pi_zip {X : Cx} {e e2 : Expr} {ta : TA} {p pos tpos : Pos} {elts : List Expr} {kk : Nat} (hg : Gl X "zip") (hm : X.mg "zip" = none) (ha : PA X [e, e2] ta)
    (hs : starEach [e, e2] X.env = (false, eval e X.env) :: starEach [e2] X.env := by rfl) (hpl : (backTo pos (starEach [e2] X.env)).any (·.1) = false := by rfl) :
    PI X (.Tuple elts kk tpos) (.Call (.Name "zip" p) [e, e2] [] pos) (iZip X.K ta) := by
  intro pins s σ H R I h
  refine Call_ (ld_blt I hg hm boot_zip5 (PyProof.Rows.callWith_type1 (thn (ha pos pins s σ H _ I h) fun us s1 ⟨vs, H1, I1, r1, q1⟩ => ?_) hs hpl))
  obtain ⟨a, b, xs, ys, ex, hqx, hqy, q⟩ := q1
  subst ex
  cases r1 with
  | cons r rr =>
    cases rr with
    | cons r' rr =>
      cases rr
      cases r
      cases r'
      obtain ⟨its, rv, p1, _⟩ := I1.list hqx
      obtain ⟨its2, rv2, p2, _⟩ := I1.list hqy
      have la : a < s1.heap.objs.size := p1.lt
      have lb : b < s1.heap.objs.size := p2.lt
      refine call_zip_2 p1.isList p2.isList fun h' hz hTI hTO h1 h2 hsz hk => wpAny_pyIter_zip hz ?_
      have I2 : Inv X pins σ H1 { s1 with heap := h' } := I1.kept (t' := s1.toks) hk
      refine ⟨s1.heap.objs.size + 4, [s1.heap.objs.size + 4, s1.heap.objs.size + 2, s1.heap.objs.size + 3, s1.heap.objs.size, s1.heap.objs.size + 1], _, _, H1, rfl, I2, turn_zip (PySem.W.ktu_apart s1.heap.objs.size a b la lb), ⟨hz, hTI, ⟨_, _, hTO⟩, h1, h2⟩, fun c hcm => ?_, q⟩
      have e' : c = s1.heap.objs.size + 4 ∨ c = s1.heap.objs.size + 2 ∨ c = s1.heap.objs.size + 3 ∨ c = s1.heap.objs.size ∨ c = s1.heap.objs.size + 1 := by simpa using hcm
      have hle : s1.heap.objs.size ≤ c := by
        rcases e' with z | z | z | z | z
        · rw [z]; exact Nat.le_add_right _ _
        · rw [z]; exact Nat.le_add_right _ _
        · rw [z]; exact Nat.le_add_right _ _
        · rw [z]; exact Nat.le_refl _
        · rw [z]; exact Nat.le_add_right _ _
      exact I1.fpOk hle (I1.hok.fresh hle)
end L2
section 
namespace Bits
open PySem PyProof.Rows
end Bits
end 
section 
namespace TL
open PySem PySem.Builtin PySem.Builtin.Str PySem.StrLaws
end TL
end 
namespace L2
open PySem PySem.Spec PyProof.Rows
section
variable {X : Cx} {pins : List (Addr × Obj)} {σ : St} {H : Hp} {s : Shared} {Q : VK}
end
section
variable {X : Cx}
end
section
variable {X : Cx} {o e : Expr} {to te : TE}
end
end L2
namespace L2
open PySem PySem.Spec PyProof.Rows
section
variable {X : Cx}
end
end L2
namespace Att
open PySem PySem.W PySem.Calls PyProof.Rows
section
variable {prog : Program} {w : World} {A : Around} {E : Value → Shared → Prop} {s : Shared} {K : Frag}
end
end Att
namespace L2
open PySem PySem.Spec PyProof.Rows
end L2
namespace L2
open PySem PySem.Spec PyProof.Rows
abbrev KOf {K : PySem.W.Frag} {h : Heap} (_ : K.In h) : PySem.W.Frag := K
end L2
namespace L2
open PySem PySem.Spec PyProof.Rows
def inClass (s : Stmt) (j : Nat) : Stmt := match s with
  | .ClassDef _ _ _ body _ _ _ _ _ _ _ => body.getD j (.Pass ⟨0, 0, 0, 0⟩)
  | _ => .Pass ⟨0, 0, 0, 0⟩
def defArgs (s : Stmt) : Arguments := match s with
  | .FunctionDef _ a _ _ _ _ _ _ _ _ => a
  | _ => { posonlyargs := [], args := [], vararg := none, kwonlyargs := [], kw_defaults := [], kwarg := none, defaults := [] }
def defBody (s : Stmt) : List Stmt := match s with
  | .FunctionDef _ _ b _ _ _ _ _ _ _ => b
  | _ => []
def defScope (s : Stmt) : Scope := match s with
  | .FunctionDef _ _ _ _ _ _ sc _ _ _ => sc
  | _ => { kind := .function, names := [], isGenerator := false, isCoroutine := false }
abbrev CX0 : CXT := fun _ _ _ _ _ _ => False
abbrev E0 : XK := fun _ _ _ => False
theorem pass0 {X : Cx} : Passes CX0 X E0 := fun _ _ _ _ _ _ _ h => h.elim
structure Fun (K : PySem.W.Frag) (x qual : Str) (st : Stmt) (f : Addr) (fd : FuncData) : Prop where
  ex : ∃ (oc : Value) (od : Option Addr) (kV doc pm : Value) (an : Option Addr) (cdv ct : Value) (osl : Array (Option Value)),
    fd = PySem.W.fnOf x qual (defArgs st) (defBody st) (defScope st) .none kV doc pm an cdv ct ∧ K.lookup f = some ⟨oc, od, .func fd, osl⟩ ∧ PySem.W.codeIn K cdv qual = true
  kp : PySem.W.keepIn K (.ref f) = true
section
variable {P : Program} {w : World} {K : PySem.W.Frag} {mg : Str → Option Value} {base : Heap}
theorem Fun.ok {x qual : Str} {st : Stmt} {f : Addr} {fd : FuncData} {N ps : List Str} {k : Nat} {sp : Sp} (F : Fun K x qual st f fd) (S : FnScope N ps (defScope st)) (len : ∀ vs H Q E, sp vs H Q E → vs.length = ps.length)
    (hbody : ∀ (cdv : Value) (A : Around) (outer : List Env) (s : Shared) (H : Hp) (vs : List V) (Q : VK) (E : XK), Room k (A.deeper (envOfC qual (defScope st) s.heap.objs.size f cdv)) → sp vs H Q E →
      ∃ t, PSs (cxOf CX0 P w K mg base N qual (defScope st) f cdv A outer s H E).nox (defBody st) t ∧ t { nx := fun _ H' => Q .non H', rt := Q } (start N vs) H) : FnOk P w K mg base CX0 (k + 1) f fd ps sp := by
  obtain ⟨oc, od, kV, doc, pm, an, cdv, ct, osl, rfl, lk, hcd⟩ := F.ex
  refine fn_of lk hcd S len fun A outer s H vs Q E hr hsp => ?_
  obtain ⟨t, h, q⟩ := hbody cdv A outer s H vs Q E hr hsp
  exact ⟨t, h.nox, q⟩
theorem Fun.binds {x qual : Str} {st : Stmt} {f : Addr} {fd : FuncData} {ps : List Str} (F : Fun K x qual st f fd)
    (h : ∀ (kV doc pm : Value) (an : Option Addr) (cdv ct : Value) (us : List Value), us.length = ps.length → bindArgs (PySem.W.fnOf x qual (defArgs st) (defBody st) (defScope st) .none kV doc pm an cdv ct) ⟨us, []⟩ = pure (ps.zip us)) : Binds K fd ps [] := by
  obtain ⟨oc, od, kV, doc, pm, an, cdv, ct, osl, rfl, lk, hcd⟩ := F.ex
  exact .all (h kV doc pm an cdv ct)
theorem fun_mk {x qual : Str} {st : Stmt} {f : Addr} {oc : Value} {od an : Option Addr} {osl : Array (Option Value)} {kV doc pm cdv ct : Value} (l : K.lookup f = some ⟨oc, od, .func (PySem.W.fnOf x qual (defArgs st) (defBody st) (defScope st) .none kV doc pm an cdv ct), osl⟩)
    (c : PySem.W.codeIn K cdv qual = true) (k : PySem.W.keepIn K (.ref f) = true) : Fun K x qual st f (PySem.W.fnOf x qual (defArgs st) (defBody st) (defScope st) .none kV doc pm an cdv ct) := ⟨⟨oc, od, kV, doc, pm, an, cdv, ct, osl, rfl, l, c⟩, k⟩
end
theorem hu_of {A : Around} {k : Nat} (hr : Room k A) : A.units + 1 < cLine := Nat.lt_of_le_of_lt (Nat.add_le_add_left (by decide : 1 ≤ 64) _) hr.units
section
variable {X : Cx}
theorem pv (i : Nat) {x : Str} {pos : Pos} (hN : X.N[i]? = some x := by rfl) (hv : Vis X.env.scope x := by first | exact Or.inl rfl | exact Or.inr (Or.inl rfl) | exact Or.inr (Or.inr rfl)) (hd : (x == ("__debug__" : Str)) = false := by decide)
    (hcd : (x == ("__classdict__" : Str)) = false := by decide) : PE X (.Name x pos) (tVar i) := pe_var hN hv hd hcd
end
theorem iteT {A B : Prop} (h : A) : if true = true then A else B := by
  rw [if_pos rfl]
  exact h
theorem ite2 {c A B : Prop} [Decidable c] (h1 : c → A) (h2 : ¬ c → B) : if c then A else B := by
  by_cases h : c
  · rw [if_pos h]
    exact h1 h
  · rw [if_neg h]
    exact h2 h
def Same (H H' : Hp) : Prop := ∀ b o, H b = some o → H' b = some o
theorem Same.refl (H : Hp) : Same H H := fun _ _ h => h
theorem Same.trans {H H1 H2 : Hp} (a : Same H H1) (b : Same H1 H2) : Same H H2 := fun c o h => b c o (a c o h)
theorem Same.free {H H' : Hp} (e : Same H H') {l : Addr} (h : H' l = Option.none) : H l = Option.none := by
  cases q : H l with
  | none => rfl
  | some o =>
    rw [e l o q] at h
    cases h
theorem Same.seq {K : PySem.W.Frag} {H H' : Hp} {a : Addr} {xs : List V} (e : Same H H') (h : SqL K H a xs) : SqL K H' a xs := by
  rcases h with (h | ⟨o, h⟩) | h
  · exact .inl (.inl (e _ _ h))
  · exact .inl (.inr ⟨o, e _ _ h⟩)
  · exact .inr h
section
variable {κ : Type} [DecidableEq κ]
end
theorem at_of {xs : List V} {z : Int} {j : Nat} {v : V} (e : z = (j : Int)) (h : xs[j]? = some v) : atI xs z = some v := by
  rw [e]
  exact atI_nat h
end L2
section
set_option Elab.async false
set_option linter.all false
set_option maxRecDepth 100000
set_option maxHeartbeats 2000000
namespace L2
open PySem PySem.Spec PyProof.Rows
open PySem.W (WData Codec OpenSpec Well WellAll ReadsW ReadsAllW)
mutual
inductive Dw (K : PySem.W.Frag) (H : Hp) : V → WData → Prop
  | non : Dw K H .non .none
  | bl (b : Bool) : Dw K H (.bl b) (.bool b)
  | int (i : Int) : Dw K H (.int i) (.int i)
  | str (x : Str) : Dw K H (.str x) (.str x)
  | byt (b : Array UInt8) : Dw K H (.byt b) (.bytes b.toList)
  | lst {a : Addr} {xs : List V} {ds : List WData} : SqL K H a xs → DwAll K H xs ds → Dw K H (.ref a) (.list ds)
  | tup {a : Addr} {xs : List V} {ds : List WData} : SqT K H a xs → DwAll K H xs ds → Dw K H (.ref a) (.tuple ds)
inductive DwAll (K : PySem.W.Frag) (H : Hp) : List V → List WData → Prop
  | nil : DwAll K H [] []
  | cons {v : V} {vs : List V} {d : WData} {ds : List WData} : Dw K H v d → DwAll K H vs ds → DwAll K H (v :: vs) (d :: ds)
end
theorem dw_ints {K : PySem.W.Frag} {H : Hp} : ∀ ns : List Int, DwAll K H (ns.map V.int) (ns.map WData.int)
  | [] => .nil
  | n :: r => .cons (.int n) (dw_ints r)
theorem ints_dw {K : PySem.W.Frag} {H : Hp} : ∀ (ns : List Int) (xs : List V), DwAll K H xs (ns.map WData.int) → xs = ns.map V.int
  | [], xs, h => by
    cases h
    rfl
  | n :: r, xs, h => by
    cases h with
    | cons h1 h2 =>
      cases h1
      rw [ints_dw r _ h2] <;> rfl
section
variable {P : Program} {w : World} {K : PySem.W.Frag} {H : Hp} {h : Heap} {R : PySem.W.WRecords} {cl : Str → Option Addr}
theorem sqL_at {a : Addr} {xs : List V} (hok : HOk P w H h) (KX : K.In h) (q : SqL K H a xs) : ∃ (its : List Value) (o : Obj) (n : Nat), Vals xs its ∧ h.get? a = some o ∧ o.cls = .type "list" ∧ o.data = .seq its.toArray n := by
  rcases q with q | ⟨o, its, n, e, hc, _, hd, _, hv⟩
  · obtain ⟨_, its, n, hv, e⟩ := (show ObjOk P w H h a (.lst xs) from q.ok hok)
    exact ⟨its, _, n, hv, e, rfl, rfl⟩
  · exact ⟨its.toList, o, n, hv, KX _ _ e, hc, by simp [hd]⟩
theorem sqT_at {a : Addr} {xs : List V} (hok : HOk P w H h) (KX : K.In h) (q : SqT K H a xs) : ∃ (its : List Value) (o : Obj) (n : Nat), Vals xs its ∧ h.get? a = some o ∧ o.cls = .type "tuple" ∧ o.data = .seq its.toArray n := by
  rcases q with q | ⟨o, its, n, e, hc, hd, _, hv⟩
  · obtain ⟨_, its, hv, o, e, hc, n, hd⟩ := (show ObjOk P w H h a (.tup xs) from q.ok hok)
    exact ⟨its, o, n, hv, e, hc, hd⟩
  · exact ⟨its.toList, o, n, hv, KX _ _ e, hc, by simp [hd]⟩
mutual
theorem Dw.reads (hok : HOk P w H h) (KX : K.In h) : ∀ (d : WData) (v : V) (u : Value), Dw K H v d → RelV v u → ∃ as, ReadsW R cl h u d as
  | .none, _, _, x, r => by
    cases x
    cases r
    exact ⟨_, ReadsW.none⟩
  | .bool b, _, _, x, r => by
    cases x
    cases r
    exact ⟨_, ReadsW.bool b⟩
  | .int i, _, _, x, r => by
    cases x
    obtain ⟨t, rfl⟩ := r
    exact ⟨_, ReadsW.int i t⟩
  | .str s, _, _, x, r => by
    cases x
    obtain ⟨t, rfl⟩ := r
    exact ⟨_, ReadsW.str s t⟩
  | .bytes b, _, _, x, r => by
    cases x
    obtain ⟨t, rfl⟩ := r
    exact ⟨_, ReadsW.bytes _ t⟩
  | .list ds, _, _, x, r => by
    cases x with
    | lst hs ha =>
      cases r
      obtain ⟨its, o, n, rv, ho, hc, hd⟩ := sqL_at hok KX hs
      obtain ⟨as, hr⟩ := Dw.readsAll hok KX ds _ its ha rv
      exact ⟨_, ReadsW.list ho hc hd hr⟩
  | .tuple ds, _, _, x, r => by
    cases x with
    | tup hs ha =>
      cases r
      obtain ⟨its, o, n, rv, ho, hc, hd⟩ := sqT_at hok KX hs
      obtain ⟨as, hr⟩ := Dw.readsAll hok KX ds _ its ha rv
      exact ⟨_, ReadsW.tuple ho hc hd hr⟩
  | .float _, _, _, x, _ => by cases x
  | .dict _, _, _, x, _ => by cases x
  | .bytearray _, _, _, x, _ => by cases x
  | .set _, _, _, x, _ => by cases x
  | .frozenset _, _, _, x, _ => by cases x
  | .obj _ _, _, _, x, _ => by cases x
theorem Dw.readsAll (hok : HOk P w H h) (KX : K.In h) : ∀ (ds : List WData) (vs : List V) (us : List Value), DwAll K H vs ds → Vals vs us → ∃ as, ReadsAllW R cl h us ds as
  | [], _, _, x, r => by
    cases x
    cases r
    exact ⟨_, ReadsAllW.nil⟩
  | d :: ds, _, _, x, r => by
    cases x with
    | cons h1 h2 =>
      cases r with
      | cons r1 r2 =>
        obtain ⟨as, q1⟩ := Dw.reads hok KX d _ _ h1 r1
        obtain ⟨bs, q2⟩ := Dw.readsAll hok KX ds _ _ h2 r2
        exact ⟨_, ReadsAllW.cons q1 q2⟩
end
end
mutual
def plW : WData → Bool
  | .none => true
  | .bool _ => true
  | .int _ => true
  | .str _ => true
  | .bytes _ => true
  | .list xs => plWs xs
  | .tuple xs => plWs xs
  | _ => false
def plWs : List WData → Bool
  | [] => true
  | x :: r => plW x && plWs r
end
theorem plWs_map {α : Type} {f : α → WData} (h : ∀ a, plW (f a) = true) : ∀ l : List α, plWs (l.map f) = true
  | [] => rfl
  | x :: r => by
    show (plW (f x) && plWs (r.map f)) = true
    rw [h x, plWs_map h r] <;> rfl
theorem pl_enc : ∀ (c : Codec) (a : c.denote), plW (c.enc a) = true
  | .unit, _ => rfl
  | .bool, _ => rfl
  | .int _ _, _ => rfl
  | .nat _ _, _ => rfl
  | .u8, _ => rfl
  | .bytes _ _, _ => rfl
  | .text _ _ _ _, _ => rfl
  | .list _ _ c, a => plWs_map (fun x => pl_enc c x) a
  | .pair c d, a => by
    show (plW (c.enc a.1) && (plW (d.enc a.2) && true)) = true
    rw [pl_enc c a.1, pl_enc d a.2] <;> rfl
  | .triple c d e, a => by
    show (plW (c.enc a.1) && (plW (d.enc a.2.1) && (plW (e.enc a.2.2) && true))) = true
    rw [pl_enc c a.1, pl_enc d a.2.1, pl_enc e a.2.2] <;> rfl
  | .option c, none => rfl
  | .option c, some x => pl_enc c x
theorem pl_encAll : ∀ (cs : List Codec) (a : Codec.denoteAll cs), plWs (Codec.encAll cs a) = true
  | [], _ => rfl
  | c :: cs, a => by
    show (plW (c.enc a.1) && plWs (Codec.encAll cs a.2)) = true
    rw [pl_enc c a.1, pl_encAll cs a.2] <;> rfl
theorem weight_mem : ∀ {xs : List WData} {d : WData}, d ∈ xs → d.weight ≤ WData.weightAll xs
  | [], d, h => absurd h (by simp)
  | x :: r, d, h => by
    show d.weight ≤ x.weight + 1 + WData.weightAll r
    rcases List.mem_cons.mp h with e | m
    · rw [e]
      omega
    · have z := weight_mem m
      omega
def toV : Value → V
  | .none => .non
  | .bool b => .bl b
  | .int i _ => .int i
  | .str x _ => .str x
  | .bytes b _ => .byt b
  | .ref a => .ref a
  | _ => .non
def OkU (A : List Addr) : Value → Prop
  | .none => True
  | .bool _ => True
  | .int _ _ => True
  | .str _ _ => True
  | .bytes _ _ => True
  | .ref a => a ∈ A
  | _ => False
theorem OkU.mono {A B : List Addr} (h : ∀ a ∈ A, a ∈ B) : ∀ {u : Value}, OkU A u → OkU B u := fun {u} x => by
  cases u with
  | ref a => exact h a x
  | none => trivial
  | bool b => trivial
  | int i t => trivial
  | str s t => trivial
  | bytes b t => trivial
  | _ => exact False.elim x
theorem relV_toV {A : List Addr} {u : Value} (x : OkU A u) : RelV (toV u) u := by
  cases u with
  | ref a => rfl
  | none => rfl
  | bool b => rfl
  | int i t => exact ⟨t, rfl⟩
  | str s t => exact ⟨t, rfl⟩
  | bytes b t => exact ⟨t, rfl⟩
  | _ => exact False.elim x
theorem vals_toV {A : List Addr} : ∀ {vs : List Value}, (∀ u ∈ vs, OkU A u) → Vals (vs.map toV) vs
  | [], _ => .nil
  | u :: r, h => .cons (relV_toV (h u (List.mem_cons_self ..))) (vals_toV fun x hx => h x (List.mem_cons_of_mem _ hx))
def ArgOb (h : Heap) (A : List Addr) (a : Addr) : Prop := ∃ vs : List Value, vs.length ≤ sizeLine ∧ (∀ u ∈ vs, OkU A u) ∧
  (h.get? a = some { cls := .type "list", data := .seq vs.toArray } ∨ h.get? a = some { cls := .type "tuple", data := .seq vs.toArray })
theorem ArgOb.mono {h : Heap} {A B : List Addr} {a : Addr} (k : ∀ a ∈ A, a ∈ B) (x : ArgOb h A a) : ArgOb h B a := by
  obtain ⟨vs, h1, h2, h3⟩ := x
  exact ⟨vs, h1, fun u hu => (h2 u hu).mono k, h3⟩
theorem wellAll_len {P : Params} {h : Heap} : ∀ {vs : List Value} {ds : List WData}, WellAll P h vs ds → vs.length = ds.length
  | _, _, .nil => rfl
  | _, _, .cons _ b => by
    show _ + 1 = _ + 1
    rw [wellAll_len b]
theorem well_list {P : Params} {h : Heap} {v : Value} {ds : List WData} (x : Well P h v (.list ds)) : ∃ (a : Addr) (vs : List Value), v = .ref a ∧ h.get? a = some { cls := .type "list", data := .seq vs.toArray } ∧ WellAll P h vs ds := by
  cases x with
  | list ho hall => exact ⟨_, _, rfl, ho, hall⟩
theorem well_tuple {P : Params} {h : Heap} {v : Value} {ds : List WData} (x : Well P h v (.tuple ds)) : ∃ (a : Addr) (vs : List Value), v = .ref a ∧ h.get? a = some { cls := .type "tuple", data := .seq vs.toArray } ∧ WellAll P h vs ds := by
  cases x with
  | tuple ho hall => exact ⟨_, _, rfl, ho, hall⟩
theorem well_cons {P : Params} {h : Heap} {us : List Value} {d : WData} {ds : List WData} (x : WellAll P h us (d :: ds)) : ∃ (v : Value) (vs : List Value), us = v :: vs ∧ Well P h v d ∧ WellAll P h vs ds := by
  cases x with
  | cons a b => exact ⟨_, _, rfl, a, b⟩
theorem line_of {n : Nat} (h : n ≤ 1048576) : n ≤ sizeLine := Nat.le_trans h (by decide)
section
variable {P : Params} {h : Heap}
mutual
theorem area_one : ∀ (d : WData) (v : Value), Well P h v d → plW d = true → d.weight ≤ 1048576 → ∃ A : List Addr, OkU A v ∧ ∀ a ∈ A, ArgOb h A a
  | .none, _, x, _, _ => by
    cases x
    exact ⟨[], trivial, fun a m => absurd m (by simp)⟩
  | .bool b, _, x, _, _ => by
    cases x
    exact ⟨[], trivial, fun a m => absurd m (by simp)⟩
  | .int i, _, x, _, _ => by
    cases x
    exact ⟨[], trivial, fun a m => absurd m (by simp)⟩
  | .str s, _, x, _, _ => by
    cases x
    exact ⟨[], trivial, fun a m => absurd m (by simp)⟩
  | .bytes b, _, x, _, _ => by
    cases x
    exact ⟨[], trivial, fun a m => absurd m (by simp)⟩
  | .list ds, _, x, p, z => by
    obtain ⟨a, vs, rfl, ho, hall⟩ := well_list x
    have z2 : WData.weightAll ds ≤ 1048576 := z
    obtain ⟨A, h1, h2⟩ := area_all ds _ hall p fun d hd => Nat.le_trans (weight_mem hd) z2
    have k : ∀ b ∈ A, b ∈ a :: A := fun b hb => List.mem_cons_of_mem _ hb
    refine ⟨a :: A, List.mem_cons_self .., fun b hb => ?_⟩
    rcases List.mem_cons.mp hb with e | m
    · rw [e]
      exact ⟨vs, line_of (by rw [wellAll_len hall]; exact Nat.le_trans (PySem.W.length_le_weightAllW ds) z2), fun u hu => (h1 u hu).mono k, .inl ho⟩
    · exact (h2 b m).mono k
  | .tuple ds, _, x, p, z => by
    obtain ⟨a, vs, rfl, ho, hall⟩ := well_tuple x
    have z2 : WData.weightAll ds ≤ 1048576 := z
    obtain ⟨A, h1, h2⟩ := area_all ds _ hall p fun d hd => Nat.le_trans (weight_mem hd) z2
    have k : ∀ b ∈ A, b ∈ a :: A := fun b hb => List.mem_cons_of_mem _ hb
    refine ⟨a :: A, List.mem_cons_self .., fun b hb => ?_⟩
    rcases List.mem_cons.mp hb with e | m
    · rw [e]
      exact ⟨vs, line_of (by rw [wellAll_len hall]; exact Nat.le_trans (PySem.W.length_le_weightAllW ds) z2), fun u hu => (h1 u hu).mono k, .inr ho⟩
    · exact (h2 b m).mono k
  | .float _, _, _, p, _ => Bool.noConfusion (show false = true from p)
  | .dict _, _, _, p, _ => Bool.noConfusion (show false = true from p)
  | .bytearray _, _, _, p, _ => Bool.noConfusion (show false = true from p)
  | .set _, _, _, p, _ => Bool.noConfusion (show false = true from p)
  | .frozenset _, _, _, p, _ => Bool.noConfusion (show false = true from p)
  | .obj _ _, _, _, p, _ => Bool.noConfusion (show false = true from p)
theorem area_all : ∀ (ds : List WData) (vs : List Value), WellAll P h vs ds → plWs ds = true → (∀ d ∈ ds, d.weight ≤ 1048576) → ∃ A : List Addr, (∀ u ∈ vs, OkU A u) ∧ ∀ a ∈ A, ArgOb h A a
  | [], _, x, _, _ => by
    cases x
    exact ⟨[], fun u m => absurd m (by simp), fun a m => absurd m (by simp)⟩
  | d :: ds, _, x, p, z => by
    obtain ⟨v, vs, rfl, x1, x2⟩ := well_cons x
    have q : plW d = true ∧ plWs ds = true := Bool.and_eq_true_iff.mp p
    obtain ⟨A, a1, a2⟩ := area_one d v x1 q.1 (z d (List.mem_cons_self ..))
    obtain ⟨B, b1, b2⟩ := area_all ds vs x2 q.2 fun e he => z e (List.mem_cons_of_mem _ he)
    have kA : ∀ b ∈ A, b ∈ A ++ B := fun b hb => List.mem_append.mpr (.inl hb)
    have kB : ∀ b ∈ B, b ∈ A ++ B := fun b hb => List.mem_append.mpr (.inr hb)
    refine ⟨A ++ B, fun u hu => ?_, fun b hb => ?_⟩
    · rcases List.mem_cons.mp hu with e | m
      · rw [e]
        exact a1.mono kA
      · exact (b1 u m).mono kB
    · rcases List.mem_append.mp hb with m | m
      · exact (a2 b m).mono kA
      · exact (b2 b m).mono kB
end
end
def hoOf (o : Obj) : Option HO := match o.data with
  | .seq vs _ => if (o.cls == Value.type "list") = true then some (.frz o (.lst (vs.toList.map toV))) else some (.frz o (.tup (vs.toList.map toV)))
  | _ => none
def argH (K : PySem.W.Frag) (h : Heap) (A : List Addr) : Hp := fun b => if b ∈ A then (if (K.lookup b).isNone = true then (h.get? b).bind hoOf else none) else none
def OnlyF (H : Hp) : Prop := ∀ b, H b = none ∨ ∃ o u, H b = some (.frz o u)
theorem hoOf_lst (vs : List Value) : hoOf { cls := .type "list", data := .seq vs.toArray } = some (.frz { cls := .type "list", data := .seq vs.toArray } (.lst (vs.map toV))) := by
  show (if (Value.type "list" == Value.type "list") = true then some (HO.frz { cls := .type "list", data := .seq vs.toArray } (.lst (vs.toArray.toList.map toV))) else some (HO.frz { cls := .type "list", data := .seq vs.toArray } (.tup (vs.toArray.toList.map toV)))) = _
  rw [if_pos (beq_self_eq_true _)]
theorem hoOf_tup (vs : List Value) : hoOf { cls := .type "tuple", data := .seq vs.toArray } = some (.frz { cls := .type "tuple", data := .seq vs.toArray } (.tup (vs.map toV))) := by
  show (if (Value.type "tuple" == Value.type "list") = true then some (HO.frz { cls := .type "tuple", data := .seq vs.toArray } (.lst (vs.toArray.toList.map toV))) else some (HO.frz { cls := .type "tuple", data := .seq vs.toArray } (.tup (vs.toArray.toList.map toV)))) = _
  rw [if_neg (by decide)]
section
variable {P : Program} {w : World} {K : PySem.W.Frag} {h : Heap} {A : List Addr}
theorem argH_at {b : Addr} {o : Obj} (hb : b ∈ A) (hk : K.lookup b = none) (e : h.get? b = some o) : argH K h A b = hoOf o := by
  unfold argH
  rw [if_pos hb, hk, if_pos (show (none : Option Obj).isNone = true from rfl), e] <;> rfl
theorem of_argH {b : Addr} {u : HO} (q : argH K h A b = some u) : b ∈ A ∧ K.lookup b = none := by
  unfold argH at q
  by_cases hb : b ∈ A
  · rw [if_pos hb] at q
    cases hk : K.lookup b with
    | none => exact ⟨hb, rfl⟩
    | some o =>
      rw [hk, if_neg (by simp)] at q
      cases q
  · rw [if_neg hb] at q
    cases q
theorem argH_is (ar : ∀ a ∈ A, ArgOb h A a) {b : Addr} {u : HO} (q : argH K h A b = some u) : K.lookup b = none ∧ ∃ vs : List Value, vs.length ≤ sizeLine ∧ (∀ u ∈ vs, OkU A u) ∧
    ((h.get? b = some { cls := .type "list", data := .seq vs.toArray } ∧ u = .frz { cls := .type "list", data := .seq vs.toArray } (.lst (vs.map toV))) ∨
     (h.get? b = some { cls := .type "tuple", data := .seq vs.toArray } ∧ u = .frz { cls := .type "tuple", data := .seq vs.toArray } (.tup (vs.map toV)))) := by
  obtain ⟨hb, hk⟩ := of_argH q
  obtain ⟨vs, h1, h2, h3⟩ := ar b hb
  refine ⟨hk, vs, h1, h2, ?_⟩
  rcases h3 with e | e
  · rw [argH_at hb hk e, hoOf_lst] at q
    exact .inl ⟨e, (Option.some.inj q).symm⟩
  · rw [argH_at hb hk e, hoOf_tup] at q
    exact .inr ⟨e, (Option.some.inj q).symm⟩
theorem argH_only (ar : ∀ a ∈ A, ArgOb h A a) : OnlyF (argH K h A) := fun b => by
  cases q : argH K h A b with
  | none => exact .inl rfl
  | some u =>
    obtain ⟨_, vs, _, _, ⟨_, e⟩ | ⟨_, e⟩⟩ := argH_is ar q
    · exact .inr ⟨_, _, by rw [e]⟩
    · exact .inr ⟨_, _, by rw [e]⟩
theorem argH_ok (ar : ∀ a ∈ A, ArgOb h A a) : HOk P w (argH K h A) h := fun b u q => by
  obtain ⟨_, vs, h1, h2, ⟨e, rfl⟩ | ⟨e, rfl⟩⟩ := argH_is ar q
  · exact ⟨e, by rw [List.length_map]; exact h1, vs, _, vals_toV h2, e⟩
  · exact ⟨e, by rw [List.length_map]; exact h1, vs, vals_toV h2, _, e, rfl, _, rfl⟩
theorem seq_inj {c c' : Value} {vs us : List Value} (e : (some { cls := c, data := .seq vs.toArray } : Option Obj) = some { cls := c', data := .seq us.toArray }) : c = c' ∧ vs = us := by
  have e1 := Option.some.inj e
  have e2 : c = c' := congrArg Obj.cls e1
  have e3 : Data.seq vs.toArray = Data.seq us.toArray := congrArg Obj.data e1
  injection e3 with e4
  refine ⟨e2, ?_⟩
  have e5 := congrArg Array.toList e4
  simpa using e5
theorem argL (KX : K.In h) (ar : ∀ a ∈ A, ArgOb h A a) {a : Addr} {vs : List Value} (ha : a ∈ A) (e : h.get? a = some { cls := .type "list", data := .seq vs.toArray }) : (∀ u ∈ vs, OkU A u) ∧ SqL K (argH K h A) a (vs.map toV) := by
  obtain ⟨us, h1, h2, h3⟩ := ar a ha
  have hu : us = vs := by
    rcases h3 with q | q
    · rw [e] at q
      exact (seq_inj q).2.symm
    · rw [e] at q
      exact absurd (Value.type.inj (seq_inj q).1) (by decide)
  subst hu
  refine ⟨h2, ?_⟩
  cases hk : K.lookup a with
  | none => exact .inl (.inr ⟨_, by rw [argH_at ha hk e, hoOf_lst]⟩)
  | some o =>
    have e2 := KX a o hk
    rw [e] at e2
    obtain rfl := Option.some.inj e2
    exact .inr ⟨_, us.toArray, _, hk, rfl, rfl, rfl, by rw [List.size_toArray]; exact h1, by simpa using vals_toV h2⟩
theorem argT (KX : K.In h) (ar : ∀ a ∈ A, ArgOb h A a) {a : Addr} {vs : List Value} (ha : a ∈ A) (e : h.get? a = some { cls := .type "tuple", data := .seq vs.toArray }) : (∀ u ∈ vs, OkU A u) ∧ SqT K (argH K h A) a (vs.map toV) := by
  obtain ⟨us, h1, h2, h3⟩ := ar a ha
  have hu : us = vs := by
    rcases h3 with q | q
    · rw [e] at q
      exact absurd (Value.type.inj (seq_inj q).1) (by decide)
    · rw [e] at q
      exact (seq_inj q).2.symm
  subst hu
  refine ⟨h2, ?_⟩
  cases hk : K.lookup a with
  | none => exact .inl (.inr ⟨_, by rw [argH_at ha hk e, hoOf_tup]⟩)
  | some o =>
    have e2 := KX a o hk
    rw [e] at e2
    obtain rfl := Option.some.inj e2
    exact .inr ⟨_, us.toArray, _, hk, rfl, rfl, by rw [List.size_toArray]; exact h1, by simpa using vals_toV h2⟩
mutual
theorem dw_one {Pm : Params} (KX : K.In h) (ar : ∀ a ∈ A, ArgOb h A a) : ∀ (d : WData) (v : Value), Well Pm h v d → plW d = true → OkU A v → Dw K (argH K h A) (toV v) d
  | .none, _, x, _, _ => by
    cases x
    exact .non
  | .bool b, _, x, _, _ => by
    cases x
    exact .bl b
  | .int i, _, x, _, _ => by
    cases x
    exact .int i
  | .str s, _, x, _, _ => by
    cases x
    exact .str s
  | .bytes b, _, x, _, _ => by
    cases x
    have z := Dw.byt (K := K) (H := argH K h A) b.toArray
    exact z
  | .list ds, _, x, p, hu => by
    obtain ⟨a, vs, rfl, ho, hall⟩ := well_list x
    obtain ⟨h2, hs⟩ := argL KX ar hu ho
    exact .lst hs (dw_all KX ar ds _ hall p h2)
  | .tuple ds, _, x, p, hu => by
    obtain ⟨a, vs, rfl, ho, hall⟩ := well_tuple x
    obtain ⟨h2, hs⟩ := argT KX ar hu ho
    exact .tup hs (dw_all KX ar ds _ hall p h2)
  | .float _, _, _, p, _ => Bool.noConfusion (show false = true from p)
  | .dict _, _, _, p, _ => Bool.noConfusion (show false = true from p)
  | .bytearray _, _, _, p, _ => Bool.noConfusion (show false = true from p)
  | .set _, _, _, p, _ => Bool.noConfusion (show false = true from p)
  | .frozenset _, _, _, p, _ => Bool.noConfusion (show false = true from p)
  | .obj _ _, _, _, p, _ => Bool.noConfusion (show false = true from p)
theorem dw_all {Pm : Params} (KX : K.In h) (ar : ∀ a ∈ A, ArgOb h A a) : ∀ (ds : List WData) (vs : List Value), WellAll Pm h vs ds → plWs ds = true → (∀ u ∈ vs, OkU A u) → DwAll K (argH K h A) (vs.map toV) ds
  | [], _, x, _, _ => by
    cases x
    exact .nil
  | d :: ds, _, x, p, hu => by
    obtain ⟨v, vs, rfl, x1, x2⟩ := well_cons x
    have q : plW d = true ∧ plWs ds = true := Bool.and_eq_true_iff.mp p
    exact .cons (dw_one KX ar d v x1 q.1 (hu _ (List.mem_cons_self ..))) (dw_all KX ar ds vs x2 q.2 fun u m => hu u (List.mem_cons_of_mem _ m))
end
end
theorem spec_call {P : Program} {w : World} {K : PySem.W.Frag} {mg mb : Str → Option Value} {CX : CXT} {k : Nat} {fa : Addr} {fd : FuncData} {ps : List Str} {sp : Sp} {s₁ : Shared} {vals : List Value} {ds : List WData} {R : PySem.W.WRecords} {cl : Str → Option Addr} {d0 : WData}
    (KX : K.In s₁.heap) (hns : s₁.heap.Ns mainGlobals mg) (hb : s₁.heap.Ns builtinsNs mb) (hbb : ∀ x : Str, x ≠ "__name__" → mb x = bootBuiltins x) (hlim : s₁.heap.NoLimit) (hg : s₁.gens = #[])
    (hwl : WellAll w.params s₁.heap vals ds) (hpl : plWs ds = true) (hwt : ∀ d ∈ ds, d.weight ≤ 1048576) (hr : Room k callerA)
    (F : ∀ base : Heap, K.In base → base.Ns mainGlobals mg → FnOk P w K mg base CX k fa fd ps sp) (hbind : ∀ (s : Shared) (us : List Value), us.length = ps.length → BindsTo s fd ⟨us, []⟩ (ps.zip us)) (hlen : ds.length = ps.length)
    (hsp : ∀ (H : Hp) (xs : List V), OnlyF H → DwAll K H xs ds → sp xs H (fun v H' => Dw K H' v d0) fun _ _ _ => False)
    (hCX : ∀ H e s', CX [] H s₁ (fun _ _ _ => False) e s' → False) :
    codeAny (model P w) callerA (.call (.ref fa) ⟨vals, []⟩) (fun r s' => ∃ u as, r = .ok (.ret u) ∧ ReadsW R cl s'.heap u d0 as ∧ OldK s₁.heap s'.heap ∧ s'.os = s₁.os ∧ AllBare s'.gens) s₁ := by
  obtain ⟨A, ho, ar⟩ := area_all ds vals hwl hpl hwt
  have hO : OnlyF (argH K s₁.heap A) := argH_only ar
  have hok : HOk P w (argH K s₁.heap A) s₁.heap := argH_ok ar
  have hS := dw_all KX ar ds vals hwl hpl ho
  have hV := vals_toV ho
  have hK : ∀ b u, argH K s₁.heap A b = some u → K.lookup b = none := fun b u q => (argH_is ar q).1
  have noA : ∀ {b : Addr} {o : Obj} {es : Array DictEntry} {ep : Nat}, s₁.heap.get? b = some o → o.data = .dict es ep → argH K s₁.heap A b = none := fun {b o es ep} e d => by
    cases q : argH K s₁.heap A b with
    | none => rfl
    | some u =>
      obtain ⟨_, vs, _, _, ⟨e2, _⟩ | ⟨e2, _⟩⟩ := argH_is ar q
      · rw [e2] at e
        cases e
        have d' : Data.seq vs.toArray _ = Data.dict es ep := d
        cases d'
      · rw [e2] at e
        cases e
        have d' : Data.seq vs.toArray _ = Data.dict es ep := d
        cases d'
  generalize argH K s₁.heap A = H at hO hok hS hK noA
  have base_of : ∀ {b : Addr} {o : Obj}, s₁.heap.get? b = some o → H b = none → (hidT s₁.heap H).get? b = some o := fun e n => hidT_get e n
  have nsK : ∀ {b : Addr} {m : Str → Option Value}, s₁.heap.Ns b m → (hidT s₁.heap H).Ns b m := fun {b m} ⟨o, es, ep, e, d, r⟩ => ⟨o, es, ep, base_of e (noA e d), d, r⟩
  have nK : ∀ b o, K.lookup b = some o → H b = none := fun b o e => by
    cases q : H b with
    | none => rfl
    | some u =>
      rw [hK b u q] at e
      cases e
  have hKb : K.In (hidT s₁.heap H) := fun b o e => base_of (KX b o e) (nK b o e)
  have hM : Mod K mg (hidT s₁.heap H) := ⟨hKb, nsK hns, ⟨mb, nsK hb, hbb⟩, let ⟨mc, h1, h2⟩ := hlim; ⟨mc, nsK h1, h2⟩⟩
  have e0 : Env0 P w K mg (hidT s₁.heap H) callerA [] s₁ H := ⟨rfl, hM, fun b o e => of_hidT e, Nat.le_of_eq (hidT_size _ _), trivial, fun b hb => absurd (show b ∈ ([] : List Addr) from hb) (by simp), hok, .of_eq hg⟩
  have hl : vals.length = ps.length := by rw [wellAll_len hwl]; exact hlen
  refine codeAny_mono ((F _ hKb (nsK hns)).run callerA [] s₁ H ⟨vals, []⟩ vals (vals.map toV) _ _ hr e0 (hbind s₁ vals hl) hV (hsp H _ hO hS)) fun r s' x => ?_
  cases r with
  | error e => exact (hCX H e s' x).elim
  | ok fl =>
    cases fl with
    | next => exact False.elim x
    | brk => exact False.elim x
    | cont => exact False.elim x
    | ret u =>
      obtain ⟨v, H', os, bare, un, hok', r', q⟩ := x
      have kept : ∀ b o, s₁.heap.get? b = some o → s'.heap.get? b = some o := fun b o e => by
        cases q2 : H b with
        | none => exact un.keep b o e q2 (by intro z; exact absurd (show b ∈ ([] : List Addr) from z) (by simp)) (by simp)
        | some u2 =>
          rcases hO b with z | ⟨ob, u3, z⟩
          · rw [q2] at z
            cases z
          · have z2 := un.frzs b ob _ z
            obtain ⟨e1, _⟩ := hok b _ z
            obtain ⟨e2, _⟩ := hok' b _ z2
            rw [e] at e1
            cases e1
            exact e2
      have KX' : K.In s'.heap := fun b o e => kept b o (KX b o e)
      obtain ⟨as, hrd⟩ := Dw.reads (R := R) (cl := cl) hok' KX' d0 v u q r'
      exact ⟨u, as, rfl, hrd, OldK.of_keep kept, os, bare⟩
theorem layable_weight {ds : List WData} (h : WData.layableAll ds = true) : ∀ d ∈ ds, d.weight ≤ 1048576 := fun d hd =>
  (PySem.W.layableW_iff.mp (List.all_eq_true.mp h d hd)).2.2
theorem encAll_len : ∀ (cs : List Codec) (a : Codec.denoteAll cs), (Codec.encAll cs a).length = cs.length
  | [], _ => rfl
  | c :: cs, a => by
    show (Codec.encAll cs a.2).length + 1 = cs.length + 1
    rw [encAll_len cs a.2]
theorem walk_spec {r : OpenSpec} {k : Nat} {q : Program} {loose : List Str} {XP : (Str → Option Value) → Heap → Prop} {YP : World → Heap → Prop} {d : DefRec} {K : Params → PySem.W.Frag} {CX : World → CXT} {ps : List Str} {sp : World → Sp}
    (hwell : r.wellSaid = true) (hdf : d.params.defaults = []) (hlen : r.args.length = ps.length) (hr : Room k callerA)
    (hY : ∀ (w : World) (h : Heap), YP w h → (K w.params).In h)
    (F : ∀ (w : World) (mg : Str → Option Value) (fa : Addr) (h : Heap), YP w h → (K w.params).In h → h.Ns mainGlobals mg → mg d.name = some (.ref fa) →
      ∃ fd : FuncData, (∀ (s : Shared) (us : List Value), us.length = ps.length → BindsTo s fd ⟨us, []⟩ (ps.zip us)) ∧
        ∀ base : Heap, (K w.params).In base → base.Ns mainGlobals mg → FnOk r.prog w (K w.params) mg base (CX w) k fa fd ps (sp w))
    (hsp : ∀ (w : World) (H : Hp) (xs : List V) (a : Codec.denoteAll r.args), OnlyF H → Codec.withinAll r.args a = true → Codec.app r.args r.asked a = true → DwAll (K w.params) H xs (Codec.encAll r.args a) →
      sp w xs H (fun v H' => Dw (K w.params) H' v (r.ret.enc (Codec.app r.args r.f a))) fun _ _ _ => False)
    (hCX : ∀ (w : World) (H : Hp) (s : Shared) (e : Value) (s' : Shared), CX w [] H s (fun _ _ _ => False) e s' → False) :
    PySem.W.WalkOS q loose XP YP r d [] (fun f vs => PySem.call f vs) := by
  intro w s_0 s₁ mg mb G Y fa o pm cd doc dV kV ho hd hcd hD hmg hg args vals as hpre hlay hrd hwl hlo
  obtain ⟨a, e1, e2⟩ := PySem.W.os_pre_some hpre
  obtain ⟨e3, hwi⟩ := Codec.encAll_of_decAll r.args args a e1
  subst e3
  have KX := hY w _ Y
  obtain ⟨fd, hb, hF⟩ := F w mg fa _ Y KX G.T.g hmg
  refine PySem.W.enter_call (codeAny_mono (spec_call (R := []) (cl := classAt s_0.heap) (d0 := r.ret.enc (Codec.app r.args r.f a)) KX G.T.g G.T.b G.T.builtins G.T.nolimit hg hwl (pl_encAll _ _) (layable_weight hlay) hr hF hb (by rw [encAll_len]; exact hlen)
    (fun H xs hO hS => hsp w H xs a hO hwi e2 hS) fun H e s' => hCX w H s₁ e s') fun r' s' hq => ?_)
  obtain ⟨u, as', rfl, h1, h2, h3, h4⟩ := hq
  exact ⟨.inl ⟨u, _, as', rfl, fun _ => rfl, h1, (OpenSpec.post_iff hwell hwi _ _).mpr rfl, fun z => Bool.noConfusion (show false = true from z)⟩, h2, h3, h4⟩
theorem walk_specK {r : OpenSpec} {k : Nat} {q : Program} {loose : List Str} {XP : (Str → Option Value) → Heap → Prop} {YP : World → Heap → Prop} {d : DefRec} {K : Params → PySem.W.Frag} {CX : CXT} {ps : List Str} {sp : PySem.W.Frag → Sp}
    (hwell : r.wellSaid = true) (hdf : d.params.defaults = []) (hlen : r.args.length = ps.length) (hr : Room k callerA)
    (hY : ∀ (w : World) (h : Heap), YP w h → (K w.params).In h)
    (F : ∀ (w : World) (mg : Str → Option Value) (fa : Addr) (h : Heap), YP w h → (K w.params).In h → h.Ns mainGlobals mg → mg d.name = some (.ref fa) →
      ∃ fd : FuncData, (∀ (s : Shared) (us : List Value), us.length = ps.length → BindsTo s fd ⟨us, []⟩ (ps.zip us)) ∧
        ∀ base : Heap, (K w.params).In base → base.Ns mainGlobals mg → FnOk r.prog w (K w.params) mg base CX k fa fd ps (sp (K w.params)))
    (hsp : ∀ (K : PySem.W.Frag) (H : Hp) (xs : List V) (a : Codec.denoteAll r.args), OnlyF H → Codec.withinAll r.args a = true → Codec.app r.args r.asked a = true → DwAll K H xs (Codec.encAll r.args a) →
      sp K xs H (fun v H' => Dw K H' v (r.ret.enc (Codec.app r.args r.f a))) fun _ _ _ => False)
    (hCX : ∀ (H : Hp) (s : Shared) (e : Value) (s' : Shared), CX [] H s (fun _ _ _ => False) e s' → False) :
    PySem.W.WalkOS q loose XP YP r d [] (fun f vs => PySem.call f vs) :=
  walk_spec (K := K) (CX := fun _ => CX) (sp := fun w => sp (K w.params)) hwell hdf hlen hr hY F (fun w H xs a h1 h2 h3 h4 => hsp (K w.params) H xs a h1 h2 h3 h4) fun _ H s e s' => hCX H s e s'
end L2
end
set_option Elab.async false
set_option linter.all false
set_option maxRecDepth 100000
set_option maxHeartbeats 2000000
namespace Of
open PySem PySem.Spec PyProof.Rows L2
def top (i : Nat) : Stmt := PySem.Challenge.pw_outlinefill_s01_answers.main.body.getD i (.Pass ⟨0, 0, 0, 0⟩)
abbrev st_blended : Stmt := top 3
abbrev st_blended_run : Stmt := top 4
abbrev st_blended_row : Stmt := top 5
abbrev st_row_below : Stmt := top 9
abbrev st_Step_init : Stmt := inClass (top 10) 0
abbrev st_Step_limits : Stmt := inClass (top 10) 1
abbrev st_steps_across : Stmt := top 11
abbrev st_steps_by_place_row : Stmt := top 12
abbrev st_turns_of_place_row : Stmt := top 13
abbrev st_spans_within : Stmt := top 14
abbrev st_spans_of_place_row : Stmt := top 15
abbrev st_add_columns : Stmt := top 16
abbrev st_runs_of_place_row : Stmt := top 17
abbrev st_samples_within : Stmt := top 18
abbrev st_curve_coordinate : Stmt := top 22
abbrev st_curve_points : Stmt := top 23
abbrev st_Outline_init : Stmt := inClass (top 24) 0
abbrev st_Outline_has_room : Stmt := inClass (top 24) 1
abbrev st_Outline_can_lead_on : Stmt := inClass (top 24) 2
abbrev st_Outline_last_point : Stmt := inClass (top 24) 3
abbrev st_Outline_begin_ring : Stmt := inClass (top 24) 4
abbrev st_Outline_lead_on : Stmt := inClass (top 24) 5
abbrev st_Outline_points : Stmt := inClass (top 24) 6
abbrev st_Outline_lines : Stmt := inClass (top 24) 7
abbrev st_is_side : Stmt := top 40
abbrev st_is_colour : Stmt := top 41
abbrev st_is_rule : Stmt := top 42
abbrev st_are_coordinates : Stmt := top 43
abbrev st_Picture_init : Stmt := inClass (top 44) 0
abbrev st_Picture_begin : Stmt := inClass (top 44) 1
abbrev st_Picture_holds_box : Stmt := inClass (top 44) 2
abbrev st_Picture_paint : Stmt := inClass (top 44) 3
abbrev st_Picture_move : Stmt := inClass (top 44) 4
abbrev st_Picture_line : Stmt := inClass (top 44) 5
abbrev st_Picture_curve : Stmt := inClass (top 44) 6
abbrev st_Picture_fill : Stmt := inClass (top 44) 7
abbrev st_Picture_within : Stmt := inClass (top 44) 8
abbrev st_Picture_row : Stmt := inClass (top 44) 9
abbrev st_Picture_box : Stmt := inClass (top 44) 10
abbrev st_answer_call : Stmt := top 45
abbrev st_answers : Stmt := top 46
abbrev ps_blended : List Str := ["old", "new", "n"]
abbrev ps_blended_run : List Str := ["colours", "new", "n"]
abbrev ps_blended_row : List Str := ["row", "runs", "new"]
abbrev ps_row_below : List Str := ["y"]
abbrev ps_Step_init : List Str := ["self", "a", "b", "turn"]
abbrev ps_Step_limits : List Str := ["self", "first", "end"]
abbrev ps_steps_across : List Str := ["lines", "first", "end"]
abbrev ps_steps_by_place_row : List Str := ["lines", "height"]
abbrev ps_turns_of_place_row : List Str := ["steps", "y", "left", "right"]
abbrev ps_spans_within : List Str := ["turns", "rule", "left"]
abbrev ps_spans_of_place_row : List Str := ["steps", "rule", "y", "left", "right"]
abbrev ps_add_columns : List Str := ["changes", "column", "sign"]
abbrev ps_runs_of_place_row : List Str := ["steps", "rule", "y", "width"]
abbrev ps_samples_within : List Str := ["lines", "rule", "x", "y"]
abbrev ps_curve_coordinate : List Str := ["a", "c", "b", "k"]
abbrev ps_curve_points : List Str := ["a", "c", "b"]
abbrev ps_Outline_init : List Str := ["self"]
abbrev ps_Outline_has_room : List Str := ["self", "added"]
abbrev ps_Outline_can_lead_on : List Str := ["self", "added"]
abbrev ps_Outline_last_point : List Str := ["self"]
abbrev ps_Outline_begin_ring : List Str := ["self", "point"]
abbrev ps_Outline_lead_on : List Str := ["self", "points"]
abbrev ps_Outline_points : List Str := ["self"]
abbrev ps_Outline_lines : List Str := ["self"]
abbrev ps_is_side : List Str := ["number"]
abbrev ps_is_colour : List Str := ["number"]
abbrev ps_is_rule : List Str := ["number"]
abbrev ps_are_coordinates : List Str := ["numbers"]
abbrev ps_Picture_init : List Str := ["self"]
abbrev ps_Picture_begin : List Str := ["self", "width", "height"]
abbrev ps_Picture_holds_box : List Str := ["self", "x", "y", "w", "h"]
abbrev ps_Picture_paint : List Str := ["self", "x", "y", "w", "h", "colour"]
abbrev ps_Picture_move : List Str := ["self", "x", "y"]
abbrev ps_Picture_line : List Str := ["self", "x", "y"]
abbrev ps_Picture_curve : List Str := ["self", "cx", "cy", "x", "y"]
abbrev ps_Picture_fill : List Str := ["self", "rule", "colour"]
abbrev ps_Picture_within : List Str := ["self", "rule", "x", "y"]
abbrev ps_Picture_row : List Str := ["self", "y"]
abbrev ps_Picture_box : List Str := ["self"]
abbrev ps_answer_call : List Str := ["picture", "call", "numbers"]
abbrev ps_answers : List Str := ["calls"]
/-- the addresses -/
structure Adr where
  a_blended : Addr
  d_blended : FuncData
  a_blended_run : Addr
  d_blended_run : FuncData
  a_blended_row : Addr
  d_blended_row : FuncData
  a_row_below : Addr
  d_row_below : FuncData
  a_Step_init : Addr
  d_Step_init : FuncData
  a_Step_limits : Addr
  d_Step_limits : FuncData
  a_steps_across : Addr
  d_steps_across : FuncData
  a_steps_by_place_row : Addr
  d_steps_by_place_row : FuncData
  a_turns_of_place_row : Addr
  d_turns_of_place_row : FuncData
  a_spans_within : Addr
  d_spans_within : FuncData
  a_spans_of_place_row : Addr
  d_spans_of_place_row : FuncData
  a_add_columns : Addr
  d_add_columns : FuncData
  a_runs_of_place_row : Addr
  d_runs_of_place_row : FuncData
  a_samples_within : Addr
  d_samples_within : FuncData
  a_curve_coordinate : Addr
  d_curve_coordinate : FuncData
  a_curve_points : Addr
  d_curve_points : FuncData
  a_Outline_init : Addr
  d_Outline_init : FuncData
  a_Outline_has_room : Addr
  d_Outline_has_room : FuncData
  a_Outline_can_lead_on : Addr
  d_Outline_can_lead_on : FuncData
  a_Outline_last_point : Addr
  d_Outline_last_point : FuncData
  a_Outline_begin_ring : Addr
  d_Outline_begin_ring : FuncData
  a_Outline_lead_on : Addr
  d_Outline_lead_on : FuncData
  a_Outline_points : Addr
  d_Outline_points : FuncData
  a_Outline_lines : Addr
  d_Outline_lines : FuncData
  a_is_side : Addr
  d_is_side : FuncData
  a_is_colour : Addr
  d_is_colour : FuncData
  a_is_rule : Addr
  d_is_rule : FuncData
  a_are_coordinates : Addr
  d_are_coordinates : FuncData
  a_Picture_init : Addr
  d_Picture_init : FuncData
  a_Picture_begin : Addr
  d_Picture_begin : FuncData
  a_Picture_holds_box : Addr
  d_Picture_holds_box : FuncData
  a_Picture_paint : Addr
  d_Picture_paint : FuncData
  a_Picture_move : Addr
  d_Picture_move : FuncData
  a_Picture_line : Addr
  d_Picture_line : FuncData
  a_Picture_curve : Addr
  d_Picture_curve : FuncData
  a_Picture_fill : Addr
  d_Picture_fill : FuncData
  a_Picture_within : Addr
  d_Picture_within : FuncData
  a_Picture_row : Addr
  d_Picture_row : FuncData
  a_Picture_box : Addr
  d_Picture_box : FuncData
  a_answer_call : Addr
  d_answer_call : FuncData
  a_answers : Addr
  d_answers : FuncData
  c_Step : Addr
  c_Outline : Addr
  c_Picture : Addr
  t_PART_SHIFTS : Addr
  t_TELLING_BITS : Addr
  t_ARGUMENT_COUNTS : Addr
/-- what the top has written -/
structure Txt (K : PySem.W.Frag) (mg : Str → Option Value) (a : Adr) : Prop where
  f_blended : Fun K "blended" "blended" st_blended a.a_blended a.d_blended
  b_blended : Binds K a.d_blended ps_blended []
  g_blended : mg "blended" = some (.ref a.a_blended)
  f_blended_run : Fun K "blended_run" "blended_run" st_blended_run a.a_blended_run a.d_blended_run
  b_blended_run : Binds K a.d_blended_run ps_blended_run []
  g_blended_run : mg "blended_run" = some (.ref a.a_blended_run)
  f_blended_row : Fun K "blended_row" "blended_row" st_blended_row a.a_blended_row a.d_blended_row
  b_blended_row : Binds K a.d_blended_row ps_blended_row []
  g_blended_row : mg "blended_row" = some (.ref a.a_blended_row)
  f_row_below : Fun K "row_below" "row_below" st_row_below a.a_row_below a.d_row_below
  b_row_below : Binds K a.d_row_below ps_row_below []
  g_row_below : mg "row_below" = some (.ref a.a_row_below)
  f_Step_init : Fun K "__init__" "Step.__init__" st_Step_init a.a_Step_init a.d_Step_init
  b_Step_init : Binds K a.d_Step_init ps_Step_init []
  f_Step_limits : Fun K "limits" "Step.limits" st_Step_limits a.a_Step_limits a.d_Step_limits
  b_Step_limits : Binds K a.d_Step_limits ps_Step_limits []
  m_Step_limits : Meth K a.c_Step "limits" a.a_Step_limits
  f_steps_across : Fun K "steps_across" "steps_across" st_steps_across a.a_steps_across a.d_steps_across
  b_steps_across : Binds K a.d_steps_across ps_steps_across []
  g_steps_across : mg "steps_across" = some (.ref a.a_steps_across)
  f_steps_by_place_row : Fun K "steps_by_place_row" "steps_by_place_row" st_steps_by_place_row a.a_steps_by_place_row a.d_steps_by_place_row
  b_steps_by_place_row : Binds K a.d_steps_by_place_row ps_steps_by_place_row []
  g_steps_by_place_row : mg "steps_by_place_row" = some (.ref a.a_steps_by_place_row)
  f_turns_of_place_row : Fun K "turns_of_place_row" "turns_of_place_row" st_turns_of_place_row a.a_turns_of_place_row a.d_turns_of_place_row
  b_turns_of_place_row : Binds K a.d_turns_of_place_row ps_turns_of_place_row []
  g_turns_of_place_row : mg "turns_of_place_row" = some (.ref a.a_turns_of_place_row)
  f_spans_within : Fun K "spans_within" "spans_within" st_spans_within a.a_spans_within a.d_spans_within
  b_spans_within : Binds K a.d_spans_within ps_spans_within []
  g_spans_within : mg "spans_within" = some (.ref a.a_spans_within)
  f_spans_of_place_row : Fun K "spans_of_place_row" "spans_of_place_row" st_spans_of_place_row a.a_spans_of_place_row a.d_spans_of_place_row
  b_spans_of_place_row : Binds K a.d_spans_of_place_row ps_spans_of_place_row []
  g_spans_of_place_row : mg "spans_of_place_row" = some (.ref a.a_spans_of_place_row)
  f_add_columns : Fun K "add_columns" "add_columns" st_add_columns a.a_add_columns a.d_add_columns
  b_add_columns : Binds K a.d_add_columns ps_add_columns []
  g_add_columns : mg "add_columns" = some (.ref a.a_add_columns)
  f_runs_of_place_row : Fun K "runs_of_place_row" "runs_of_place_row" st_runs_of_place_row a.a_runs_of_place_row a.d_runs_of_place_row
  b_runs_of_place_row : Binds K a.d_runs_of_place_row ps_runs_of_place_row []
  g_runs_of_place_row : mg "runs_of_place_row" = some (.ref a.a_runs_of_place_row)
  f_samples_within : Fun K "samples_within" "samples_within" st_samples_within a.a_samples_within a.d_samples_within
  b_samples_within : Binds K a.d_samples_within ps_samples_within []
  g_samples_within : mg "samples_within" = some (.ref a.a_samples_within)
  f_curve_coordinate : Fun K "curve_coordinate" "curve_coordinate" st_curve_coordinate a.a_curve_coordinate a.d_curve_coordinate
  b_curve_coordinate : Binds K a.d_curve_coordinate ps_curve_coordinate []
  g_curve_coordinate : mg "curve_coordinate" = some (.ref a.a_curve_coordinate)
  f_curve_points : Fun K "curve_points" "curve_points" st_curve_points a.a_curve_points a.d_curve_points
  b_curve_points : Binds K a.d_curve_points ps_curve_points []
  g_curve_points : mg "curve_points" = some (.ref a.a_curve_points)
  f_Outline_init : Fun K "__init__" "Outline.__init__" st_Outline_init a.a_Outline_init a.d_Outline_init
  b_Outline_init : Binds K a.d_Outline_init ps_Outline_init []
  f_Outline_has_room : Fun K "has_room" "Outline.has_room" st_Outline_has_room a.a_Outline_has_room a.d_Outline_has_room
  b_Outline_has_room : Binds K a.d_Outline_has_room ps_Outline_has_room []
  m_Outline_has_room : Meth K a.c_Outline "has_room" a.a_Outline_has_room
  f_Outline_can_lead_on : Fun K "can_lead_on" "Outline.can_lead_on" st_Outline_can_lead_on a.a_Outline_can_lead_on a.d_Outline_can_lead_on
  b_Outline_can_lead_on : Binds K a.d_Outline_can_lead_on ps_Outline_can_lead_on []
  m_Outline_can_lead_on : Meth K a.c_Outline "can_lead_on" a.a_Outline_can_lead_on
  f_Outline_last_point : Fun K "last_point" "Outline.last_point" st_Outline_last_point a.a_Outline_last_point a.d_Outline_last_point
  b_Outline_last_point : Binds K a.d_Outline_last_point ps_Outline_last_point []
  m_Outline_last_point : Meth K a.c_Outline "last_point" a.a_Outline_last_point
  f_Outline_begin_ring : Fun K "begin_ring" "Outline.begin_ring" st_Outline_begin_ring a.a_Outline_begin_ring a.d_Outline_begin_ring
  b_Outline_begin_ring : Binds K a.d_Outline_begin_ring ps_Outline_begin_ring []
  m_Outline_begin_ring : Meth K a.c_Outline "begin_ring" a.a_Outline_begin_ring
  f_Outline_lead_on : Fun K "lead_on" "Outline.lead_on" st_Outline_lead_on a.a_Outline_lead_on a.d_Outline_lead_on
  b_Outline_lead_on : Binds K a.d_Outline_lead_on ps_Outline_lead_on []
  m_Outline_lead_on : Meth K a.c_Outline "lead_on" a.a_Outline_lead_on
  f_Outline_points : Fun K "points" "Outline.points" st_Outline_points a.a_Outline_points a.d_Outline_points
  b_Outline_points : Binds K a.d_Outline_points ps_Outline_points []
  m_Outline_points : Meth K a.c_Outline "points" a.a_Outline_points
  f_Outline_lines : Fun K "lines" "Outline.lines" st_Outline_lines a.a_Outline_lines a.d_Outline_lines
  b_Outline_lines : Binds K a.d_Outline_lines ps_Outline_lines []
  m_Outline_lines : Meth K a.c_Outline "lines" a.a_Outline_lines
  f_is_side : Fun K "is_side" "is_side" st_is_side a.a_is_side a.d_is_side
  b_is_side : Binds K a.d_is_side ps_is_side []
  g_is_side : mg "is_side" = some (.ref a.a_is_side)
  f_is_colour : Fun K "is_colour" "is_colour" st_is_colour a.a_is_colour a.d_is_colour
  b_is_colour : Binds K a.d_is_colour ps_is_colour []
  g_is_colour : mg "is_colour" = some (.ref a.a_is_colour)
  f_is_rule : Fun K "is_rule" "is_rule" st_is_rule a.a_is_rule a.d_is_rule
  b_is_rule : Binds K a.d_is_rule ps_is_rule []
  g_is_rule : mg "is_rule" = some (.ref a.a_is_rule)
  f_are_coordinates : Fun K "are_coordinates" "are_coordinates" st_are_coordinates a.a_are_coordinates a.d_are_coordinates
  b_are_coordinates : Binds K a.d_are_coordinates ps_are_coordinates []
  g_are_coordinates : mg "are_coordinates" = some (.ref a.a_are_coordinates)
  f_Picture_init : Fun K "__init__" "Picture.__init__" st_Picture_init a.a_Picture_init a.d_Picture_init
  b_Picture_init : Binds K a.d_Picture_init ps_Picture_init []
  f_Picture_begin : Fun K "begin" "Picture.begin" st_Picture_begin a.a_Picture_begin a.d_Picture_begin
  b_Picture_begin : Binds K a.d_Picture_begin ps_Picture_begin []
  m_Picture_begin : Meth K a.c_Picture "begin" a.a_Picture_begin
  f_Picture_holds_box : Fun K "holds_box" "Picture.holds_box" st_Picture_holds_box a.a_Picture_holds_box a.d_Picture_holds_box
  b_Picture_holds_box : Binds K a.d_Picture_holds_box ps_Picture_holds_box []
  m_Picture_holds_box : Meth K a.c_Picture "holds_box" a.a_Picture_holds_box
  f_Picture_paint : Fun K "paint" "Picture.paint" st_Picture_paint a.a_Picture_paint a.d_Picture_paint
  b_Picture_paint : Binds K a.d_Picture_paint ps_Picture_paint []
  m_Picture_paint : Meth K a.c_Picture "paint" a.a_Picture_paint
  f_Picture_move : Fun K "move" "Picture.move" st_Picture_move a.a_Picture_move a.d_Picture_move
  b_Picture_move : Binds K a.d_Picture_move ps_Picture_move []
  m_Picture_move : Meth K a.c_Picture "move" a.a_Picture_move
  f_Picture_line : Fun K "line" "Picture.line" st_Picture_line a.a_Picture_line a.d_Picture_line
  b_Picture_line : Binds K a.d_Picture_line ps_Picture_line []
  m_Picture_line : Meth K a.c_Picture "line" a.a_Picture_line
  f_Picture_curve : Fun K "curve" "Picture.curve" st_Picture_curve a.a_Picture_curve a.d_Picture_curve
  b_Picture_curve : Binds K a.d_Picture_curve ps_Picture_curve []
  m_Picture_curve : Meth K a.c_Picture "curve" a.a_Picture_curve
  f_Picture_fill : Fun K "fill" "Picture.fill" st_Picture_fill a.a_Picture_fill a.d_Picture_fill
  b_Picture_fill : Binds K a.d_Picture_fill ps_Picture_fill []
  m_Picture_fill : Meth K a.c_Picture "fill" a.a_Picture_fill
  f_Picture_within : Fun K "within" "Picture.within" st_Picture_within a.a_Picture_within a.d_Picture_within
  b_Picture_within : Binds K a.d_Picture_within ps_Picture_within []
  m_Picture_within : Meth K a.c_Picture "within" a.a_Picture_within
  f_Picture_row : Fun K "row" "Picture.row" st_Picture_row a.a_Picture_row a.d_Picture_row
  b_Picture_row : Binds K a.d_Picture_row ps_Picture_row []
  m_Picture_row : Meth K a.c_Picture "row" a.a_Picture_row
  f_Picture_box : Fun K "box" "Picture.box" st_Picture_box a.a_Picture_box a.d_Picture_box
  b_Picture_box : Binds K a.d_Picture_box ps_Picture_box []
  m_Picture_box : Meth K a.c_Picture "box" a.a_Picture_box
  f_answer_call : Fun K "answer_call" "answer_call" st_answer_call a.a_answer_call a.d_answer_call
  b_answer_call : Binds K a.d_answer_call ps_answer_call []
  g_answer_call : mg "answer_call" = some (.ref a.a_answer_call)
  f_answers : Fun K "answers" "answers" st_answers a.a_answers a.d_answers
  b_answers : Binds K a.d_answers ps_answers []
  g_answers : mg "answers" = some (.ref a.a_answers)
  bd_answers : ∀ (s : Shared) (us : List Value), us.length = ps_answers.length → BindsTo s a.d_answers ⟨us, []⟩ (ps_answers.zip us)
  cl_Step : Cls K a.c_Step
  g_Step : mg "Step" = some (.ref a.c_Step)
  mk_Step : Mk K a.c_Step a.a_Step_init
  n_Step_first : NoAttr K a.c_Step "first"
  n_Step_end : NoAttr K a.c_Step "end"
  n_Step_turn : NoAttr K a.c_Step "turn"
  n_Step_scale : NoAttr K a.c_Step "scale"
  n_Step_slope : NoAttr K a.c_Step "slope"
  n_Step_base : NoAttr K a.c_Step "base"
  cl_Outline : Cls K a.c_Outline
  g_Outline : mg "Outline" = some (.ref a.c_Outline)
  mk_Outline : Mk K a.c_Outline a.a_Outline_init
  n_Outline_rings : NoAttr K a.c_Outline "rings"
  n_Outline_point_count : NoAttr K a.c_Outline "point_count"
  cl_Picture : Cls K a.c_Picture
  g_Picture : mg "Picture" = some (.ref a.c_Picture)
  mk_Picture : Mk K a.c_Picture a.a_Picture_init
  n_Picture_width : NoAttr K a.c_Picture "width"
  n_Picture_height : NoAttr K a.c_Picture "height"
  n_Picture_rows : NoAttr K a.c_Picture "rows"
  n_Picture_outline : NoAttr K a.c_Picture "outline"
  k_ALL_SAMPLES : ∃ t, mg "ALL_SAMPLES" = some (.int 256 t)
  k_SAMPLES : ∃ t, mg "SAMPLES" = some (.int 16 t)
  k_MOST_POINTS : ∃ t, mg "MOST_POINTS" = some (.int 4096 t)
  k_CURVE_STEPS : ∃ t, mg "CURVE_STEPS" = some (.int 16 t)
  k_OUT_OF_RANGE : ∃ t, mg "OUT_OF_RANGE" = some (.int (-2) t)
  k_REFUSED : ∃ t, mg "REFUSED" = some (.int (-1) t)
  k_LARGEST_SIDE : ∃ t, mg "LARGEST_SIDE" = some (.int 512 t)
  k_FARTHEST : ∃ t, mg "FARTHEST" = some (.int 1000000 t)
  k_LARGEST_COLOUR : ∃ t, mg "LARGEST_COLOUR" = some (.int 4294967295 t)
  k_OPEN_CALL : ∃ t, mg "OPEN_CALL" = some (.int 1 t)
  k_COLOUR_CALL : ∃ t, mg "COLOUR_CALL" = some (.int 2 t)
  k_MOVE_CALL : ∃ t, mg "MOVE_CALL" = some (.int 3 t)
  k_LINE_CALL : ∃ t, mg "LINE_CALL" = some (.int 4 t)
  k_CURVE_CALL : ∃ t, mg "CURVE_CALL" = some (.int 5 t)
  k_FILL_CALL : ∃ t, mg "FILL_CALL" = some (.int 6 t)
  k_WITHIN_CALL : ∃ t, mg "WITHIN_CALL" = some (.int 7 t)
  k_ROW_CALL : ∃ t, mg "ROW_CALL" = some (.int 8 t)
  gt_PART_SHIFTS : mg "PART_SHIFTS" = some (.ref a.t_PART_SHIFTS)
  t_PART_SHIFTS : ∀ H : Hp, SqT K H a.t_PART_SHIFTS [.int 0, .int 8, .int 16, .int 24]
  gt_TELLING_BITS : mg "TELLING_BITS" = some (.ref a.t_TELLING_BITS)
  t_TELLING_BITS : ∀ H : Hp, SqT K H a.t_TELLING_BITS [.int (-1), .int 1]
  gt_ARGUMENT_COUNTS : mg "ARGUMENT_COUNTS" = some (.ref a.t_ARGUMENT_COUNTS)
  t_ARGUMENT_COUNTS : ∀ H : Hp, SqT K H a.t_ARGUMENT_COUNTS [.int 0, .int 2, .int 5, .int 2, .int 2, .int 4, .int 2, .int 3, .int 1, .int 0]
  z_range : mg "range" = none
  z_len : mg "len" = none
  z_all : mg "all" = none
  z_sorted : mg "sorted" = none
  z_min : mg "min" = none
  z_max : mg "max" = none
  z_sum : mg "sum" = none
  z_enumerate : mg "enumerate" = none
  z_zip : mg "zip" = none
  z_list : mg "list" = none
theorem txt_mk {K : PySem.W.Frag} {h : Heap} {mg : Str → Option Value} (X : K.In h) (G : h.Ns mainGlobals mg)
    {C_Step : Addr} {C_Outline : Addr} {C_Picture : Addr} {f_blended : Addr} {od_blended an_blended : Option Addr} {sl_blended : Array (Option Value)} {oc_blended kV_blended dc_blended pm_blended cd_blended ct_blended : Value} {f_blended_run : Addr} {od_blended_run an_blended_run : Option Addr} {sl_blended_run : Array (Option Value)} {oc_blended_run kV_blended_run dc_blended_run pm_blended_run cd_blended_run ct_blended_run : Value} {f_blended_row : Addr} {od_blended_row an_blended_row : Option Addr} {sl_blended_row : Array (Option Value)} {oc_blended_row kV_blended_row dc_blended_row pm_blended_row cd_blended_row ct_blended_row : Value} {f_row_below : Addr} {od_row_below an_row_below : Option Addr} {sl_row_below : Array (Option Value)} {oc_row_below kV_row_below dc_row_below pm_row_below cd_row_below ct_row_below : Value} {f_Step_init : Addr} {od_Step_init an_Step_init : Option Addr} {sl_Step_init : Array (Option Value)} {oc_Step_init kV_Step_init dc_Step_init pm_Step_init cd_Step_init ct_Step_init : Value} {f_Step_limits : Addr} {od_Step_limits an_Step_limits : Option Addr} {sl_Step_limits : Array (Option Value)} {oc_Step_limits kV_Step_limits dc_Step_limits pm_Step_limits cd_Step_limits ct_Step_limits : Value} {f_steps_across : Addr} {od_steps_across an_steps_across : Option Addr} {sl_steps_across : Array (Option Value)} {oc_steps_across kV_steps_across dc_steps_across pm_steps_across cd_steps_across ct_steps_across : Value} {f_steps_by_place_row : Addr} {od_steps_by_place_row an_steps_by_place_row : Option Addr} {sl_steps_by_place_row : Array (Option Value)} {oc_steps_by_place_row kV_steps_by_place_row dc_steps_by_place_row pm_steps_by_place_row cd_steps_by_place_row ct_steps_by_place_row : Value} {f_turns_of_place_row : Addr} {od_turns_of_place_row an_turns_of_place_row : Option Addr} {sl_turns_of_place_row : Array (Option Value)} {oc_turns_of_place_row kV_turns_of_place_row dc_turns_of_place_row pm_turns_of_place_row cd_turns_of_place_row ct_turns_of_place_row : Value} {f_spans_within : Addr} {od_spans_within an_spans_within : Option Addr} {sl_spans_within : Array (Option Value)} {oc_spans_within kV_spans_within dc_spans_within pm_spans_within cd_spans_within ct_spans_within : Value} {f_spans_of_place_row : Addr} {od_spans_of_place_row an_spans_of_place_row : Option Addr} {sl_spans_of_place_row : Array (Option Value)} {oc_spans_of_place_row kV_spans_of_place_row dc_spans_of_place_row pm_spans_of_place_row cd_spans_of_place_row ct_spans_of_place_row : Value} {f_add_columns : Addr} {od_add_columns an_add_columns : Option Addr} {sl_add_columns : Array (Option Value)} {oc_add_columns kV_add_columns dc_add_columns pm_add_columns cd_add_columns ct_add_columns : Value} {f_runs_of_place_row : Addr} {od_runs_of_place_row an_runs_of_place_row : Option Addr} {sl_runs_of_place_row : Array (Option Value)} {oc_runs_of_place_row kV_runs_of_place_row dc_runs_of_place_row pm_runs_of_place_row cd_runs_of_place_row ct_runs_of_place_row : Value} {f_samples_within : Addr} {od_samples_within an_samples_within : Option Addr} {sl_samples_within : Array (Option Value)} {oc_samples_within kV_samples_within dc_samples_within pm_samples_within cd_samples_within ct_samples_within : Value} {f_curve_coordinate : Addr} {od_curve_coordinate an_curve_coordinate : Option Addr} {sl_curve_coordinate : Array (Option Value)} {oc_curve_coordinate kV_curve_coordinate dc_curve_coordinate pm_curve_coordinate cd_curve_coordinate ct_curve_coordinate : Value} {f_curve_points : Addr} {od_curve_points an_curve_points : Option Addr} {sl_curve_points : Array (Option Value)} {oc_curve_points kV_curve_points dc_curve_points pm_curve_points cd_curve_points ct_curve_points : Value} {f_Outline_init : Addr} {od_Outline_init an_Outline_init : Option Addr} {sl_Outline_init : Array (Option Value)} {oc_Outline_init kV_Outline_init dc_Outline_init pm_Outline_init cd_Outline_init ct_Outline_init : Value} {f_Outline_has_room : Addr} {od_Outline_has_room an_Outline_has_room : Option Addr} {sl_Outline_has_room : Array (Option Value)} {oc_Outline_has_room kV_Outline_has_room dc_Outline_has_room pm_Outline_has_room cd_Outline_has_room ct_Outline_has_room : Value} {f_Outline_can_lead_on : Addr} {od_Outline_can_lead_on an_Outline_can_lead_on : Option Addr} {sl_Outline_can_lead_on : Array (Option Value)} {oc_Outline_can_lead_on kV_Outline_can_lead_on dc_Outline_can_lead_on pm_Outline_can_lead_on cd_Outline_can_lead_on ct_Outline_can_lead_on : Value} {f_Outline_last_point : Addr} {od_Outline_last_point an_Outline_last_point : Option Addr} {sl_Outline_last_point : Array (Option Value)} {oc_Outline_last_point kV_Outline_last_point dc_Outline_last_point pm_Outline_last_point cd_Outline_last_point ct_Outline_last_point : Value} {f_Outline_begin_ring : Addr} {od_Outline_begin_ring an_Outline_begin_ring : Option Addr} {sl_Outline_begin_ring : Array (Option Value)} {oc_Outline_begin_ring kV_Outline_begin_ring dc_Outline_begin_ring pm_Outline_begin_ring cd_Outline_begin_ring ct_Outline_begin_ring : Value} {f_Outline_lead_on : Addr} {od_Outline_lead_on an_Outline_lead_on : Option Addr} {sl_Outline_lead_on : Array (Option Value)} {oc_Outline_lead_on kV_Outline_lead_on dc_Outline_lead_on pm_Outline_lead_on cd_Outline_lead_on ct_Outline_lead_on : Value} {f_Outline_points : Addr} {od_Outline_points an_Outline_points : Option Addr} {sl_Outline_points : Array (Option Value)} {oc_Outline_points kV_Outline_points dc_Outline_points pm_Outline_points cd_Outline_points ct_Outline_points : Value} {f_Outline_lines : Addr} {od_Outline_lines an_Outline_lines : Option Addr} {sl_Outline_lines : Array (Option Value)} {oc_Outline_lines kV_Outline_lines dc_Outline_lines pm_Outline_lines cd_Outline_lines ct_Outline_lines : Value} {f_is_side : Addr} {od_is_side an_is_side : Option Addr} {sl_is_side : Array (Option Value)} {oc_is_side kV_is_side dc_is_side pm_is_side cd_is_side ct_is_side : Value} {f_is_colour : Addr} {od_is_colour an_is_colour : Option Addr} {sl_is_colour : Array (Option Value)} {oc_is_colour kV_is_colour dc_is_colour pm_is_colour cd_is_colour ct_is_colour : Value} {f_is_rule : Addr} {od_is_rule an_is_rule : Option Addr} {sl_is_rule : Array (Option Value)} {oc_is_rule kV_is_rule dc_is_rule pm_is_rule cd_is_rule ct_is_rule : Value} {f_are_coordinates : Addr} {od_are_coordinates an_are_coordinates : Option Addr} {sl_are_coordinates : Array (Option Value)} {oc_are_coordinates kV_are_coordinates dc_are_coordinates pm_are_coordinates cd_are_coordinates ct_are_coordinates : Value} {f_Picture_init : Addr} {od_Picture_init an_Picture_init : Option Addr} {sl_Picture_init : Array (Option Value)} {oc_Picture_init kV_Picture_init dc_Picture_init pm_Picture_init cd_Picture_init ct_Picture_init : Value} {f_Picture_begin : Addr} {od_Picture_begin an_Picture_begin : Option Addr} {sl_Picture_begin : Array (Option Value)} {oc_Picture_begin kV_Picture_begin dc_Picture_begin pm_Picture_begin cd_Picture_begin ct_Picture_begin : Value} {f_Picture_holds_box : Addr} {od_Picture_holds_box an_Picture_holds_box : Option Addr} {sl_Picture_holds_box : Array (Option Value)} {oc_Picture_holds_box kV_Picture_holds_box dc_Picture_holds_box pm_Picture_holds_box cd_Picture_holds_box ct_Picture_holds_box : Value} {f_Picture_paint : Addr} {od_Picture_paint an_Picture_paint : Option Addr} {sl_Picture_paint : Array (Option Value)} {oc_Picture_paint kV_Picture_paint dc_Picture_paint pm_Picture_paint cd_Picture_paint ct_Picture_paint : Value} {f_Picture_move : Addr} {od_Picture_move an_Picture_move : Option Addr} {sl_Picture_move : Array (Option Value)} {oc_Picture_move kV_Picture_move dc_Picture_move pm_Picture_move cd_Picture_move ct_Picture_move : Value} {f_Picture_line : Addr} {od_Picture_line an_Picture_line : Option Addr} {sl_Picture_line : Array (Option Value)} {oc_Picture_line kV_Picture_line dc_Picture_line pm_Picture_line cd_Picture_line ct_Picture_line : Value} {f_Picture_curve : Addr} {od_Picture_curve an_Picture_curve : Option Addr} {sl_Picture_curve : Array (Option Value)} {oc_Picture_curve kV_Picture_curve dc_Picture_curve pm_Picture_curve cd_Picture_curve ct_Picture_curve : Value} {f_Picture_fill : Addr} {od_Picture_fill an_Picture_fill : Option Addr} {sl_Picture_fill : Array (Option Value)} {oc_Picture_fill kV_Picture_fill dc_Picture_fill pm_Picture_fill cd_Picture_fill ct_Picture_fill : Value} {f_Picture_within : Addr} {od_Picture_within an_Picture_within : Option Addr} {sl_Picture_within : Array (Option Value)} {oc_Picture_within kV_Picture_within dc_Picture_within pm_Picture_within cd_Picture_within ct_Picture_within : Value} {f_Picture_row : Addr} {od_Picture_row an_Picture_row : Option Addr} {sl_Picture_row : Array (Option Value)} {oc_Picture_row kV_Picture_row dc_Picture_row pm_Picture_row cd_Picture_row ct_Picture_row : Value} {f_Picture_box : Addr} {od_Picture_box an_Picture_box : Option Addr} {sl_Picture_box : Array (Option Value)} {oc_Picture_box kV_Picture_box dc_Picture_box pm_Picture_box cd_Picture_box ct_Picture_box : Value} {f_answer_call : Addr} {od_answer_call an_answer_call : Option Addr} {sl_answer_call : Array (Option Value)} {oc_answer_call kV_answer_call dc_answer_call pm_answer_call cd_answer_call ct_answer_call : Value} {f_answers : Addr} {od_answers an_answers : Option Addr} {sl_answers : Array (Option Value)} {oc_answers kV_answers dc_answers pm_answers cd_answers ct_answers : Value} {tk_ALL_SAMPLES : Tok} {tk_SAMPLES : Tok} {tk_MOST_POINTS : Tok} {tk_CURVE_STEPS : Tok} {tk_OUT_OF_RANGE : Tok} {tk_REFUSED : Tok} {tk_LARGEST_SIDE : Tok} {tk_FARTHEST : Tok} {tk_LARGEST_COLOUR : Tok} {tk_OPEN_CALL : Tok} {tk_COLOUR_CALL : Tok} {tk_MOVE_CALL : Tok} {tk_LINE_CALL : Tok} {tk_CURVE_CALL : Tok} {tk_FILL_CALL : Tok} {tk_WITHIN_CALL : Tok} {tk_ROW_CALL : Tok} {t_PART_SHIFTS : Addr} {od_PART_SHIFTS : Option Addr} {n_PART_SHIFTS : Nat} {sl_PART_SHIFTS : Array (Option Value)} {tk_PART_SHIFTS_0 : Tok} {tk_PART_SHIFTS_1 : Tok} {tk_PART_SHIFTS_2 : Tok} {tk_PART_SHIFTS_3 : Tok} {t_TELLING_BITS : Addr} {od_TELLING_BITS : Option Addr} {n_TELLING_BITS : Nat} {sl_TELLING_BITS : Array (Option Value)} {tk_TELLING_BITS_0 : Tok} {tk_TELLING_BITS_1 : Tok} {t_ARGUMENT_COUNTS : Addr} {od_ARGUMENT_COUNTS : Option Addr} {n_ARGUMENT_COUNTS : Nat} {sl_ARGUMENT_COUNTS : Array (Option Value)} {tk_ARGUMENT_COUNTS_0 : Tok} {tk_ARGUMENT_COUNTS_1 : Tok} {tk_ARGUMENT_COUNTS_2 : Tok} {tk_ARGUMENT_COUNTS_3 : Tok} {tk_ARGUMENT_COUNTS_4 : Tok} {tk_ARGUMENT_COUNTS_5 : Tok} {tk_ARGUMENT_COUNTS_6 : Tok} {tk_ARGUMENT_COUNTS_7 : Tok} {tk_ARGUMENT_COUNTS_8 : Tok} {tk_ARGUMENT_COUNTS_9 : Tok}
    (aC_Step : PySem.W.nsIn K mainGlobals "Step" = some (some (.ref C_Step)))
    (aC_Outline : PySem.W.nsIn K mainGlobals "Outline" = some (some (.ref C_Outline)))
    (aC_Picture : PySem.W.nsIn K mainGlobals "Picture" = some (some (.ref C_Picture)))
    (a_blended : PySem.W.nsIn K mainGlobals "blended" = some (some (.ref f_blended)))
    (l_blended : K.lookup f_blended = some ⟨oc_blended, od_blended, .func (PySem.W.fnOf "blended" "blended" (defArgs st_blended) (defBody st_blended) (defScope st_blended) .none kV_blended dc_blended pm_blended an_blended cd_blended ct_blended), sl_blended⟩)
    (e_blended : PySem.W.codeIn K cd_blended "blended" = true)
    (k_blended : PySem.W.keepIn K (.ref f_blended) = true)
    (a_blended_run : PySem.W.nsIn K mainGlobals "blended_run" = some (some (.ref f_blended_run)))
    (l_blended_run : K.lookup f_blended_run = some ⟨oc_blended_run, od_blended_run, .func (PySem.W.fnOf "blended_run" "blended_run" (defArgs st_blended_run) (defBody st_blended_run) (defScope st_blended_run) .none kV_blended_run dc_blended_run pm_blended_run an_blended_run cd_blended_run ct_blended_run), sl_blended_run⟩)
    (e_blended_run : PySem.W.codeIn K cd_blended_run "blended_run" = true)
    (k_blended_run : PySem.W.keepIn K (.ref f_blended_run) = true)
    (a_blended_row : PySem.W.nsIn K mainGlobals "blended_row" = some (some (.ref f_blended_row)))
    (l_blended_row : K.lookup f_blended_row = some ⟨oc_blended_row, od_blended_row, .func (PySem.W.fnOf "blended_row" "blended_row" (defArgs st_blended_row) (defBody st_blended_row) (defScope st_blended_row) .none kV_blended_row dc_blended_row pm_blended_row an_blended_row cd_blended_row ct_blended_row), sl_blended_row⟩)
    (e_blended_row : PySem.W.codeIn K cd_blended_row "blended_row" = true)
    (k_blended_row : PySem.W.keepIn K (.ref f_blended_row) = true)
    (a_row_below : PySem.W.nsIn K mainGlobals "row_below" = some (some (.ref f_row_below)))
    (l_row_below : K.lookup f_row_below = some ⟨oc_row_below, od_row_below, .func (PySem.W.fnOf "row_below" "row_below" (defArgs st_row_below) (defBody st_row_below) (defScope st_row_below) .none kV_row_below dc_row_below pm_row_below an_row_below cd_row_below ct_row_below), sl_row_below⟩)
    (e_row_below : PySem.W.codeIn K cd_row_below "row_below" = true)
    (k_row_below : PySem.W.keepIn K (.ref f_row_below) = true)
    (a_Step_init : PySem.W.findIn K (.ref C_Step) "__init__" = some (some (.ref f_Step_init)))
    (i_Step_init : PySem.W.isFn K (.ref f_Step_init) = true)
    (l_Step_init : K.lookup f_Step_init = some ⟨oc_Step_init, od_Step_init, .func (PySem.W.fnOf "__init__" "Step.__init__" (defArgs st_Step_init) (defBody st_Step_init) (defScope st_Step_init) .none kV_Step_init dc_Step_init pm_Step_init an_Step_init cd_Step_init ct_Step_init), sl_Step_init⟩)
    (e_Step_init : PySem.W.codeIn K cd_Step_init "Step.__init__" = true)
    (k_Step_init : PySem.W.keepIn K (.ref f_Step_init) = true)
    (a_Step_limits : PySem.W.findIn K (.ref C_Step) "limits" = some (some (.ref f_Step_limits)))
    (i_Step_limits : PySem.W.isFn K (.ref f_Step_limits) = true)
    (l_Step_limits : K.lookup f_Step_limits = some ⟨oc_Step_limits, od_Step_limits, .func (PySem.W.fnOf "limits" "Step.limits" (defArgs st_Step_limits) (defBody st_Step_limits) (defScope st_Step_limits) .none kV_Step_limits dc_Step_limits pm_Step_limits an_Step_limits cd_Step_limits ct_Step_limits), sl_Step_limits⟩)
    (e_Step_limits : PySem.W.codeIn K cd_Step_limits "Step.limits" = true)
    (k_Step_limits : PySem.W.keepIn K (.ref f_Step_limits) = true)
    (a_steps_across : PySem.W.nsIn K mainGlobals "steps_across" = some (some (.ref f_steps_across)))
    (l_steps_across : K.lookup f_steps_across = some ⟨oc_steps_across, od_steps_across, .func (PySem.W.fnOf "steps_across" "steps_across" (defArgs st_steps_across) (defBody st_steps_across) (defScope st_steps_across) .none kV_steps_across dc_steps_across pm_steps_across an_steps_across cd_steps_across ct_steps_across), sl_steps_across⟩)
    (e_steps_across : PySem.W.codeIn K cd_steps_across "steps_across" = true)
    (k_steps_across : PySem.W.keepIn K (.ref f_steps_across) = true)
    (a_steps_by_place_row : PySem.W.nsIn K mainGlobals "steps_by_place_row" = some (some (.ref f_steps_by_place_row)))
    (l_steps_by_place_row : K.lookup f_steps_by_place_row = some ⟨oc_steps_by_place_row, od_steps_by_place_row, .func (PySem.W.fnOf "steps_by_place_row" "steps_by_place_row" (defArgs st_steps_by_place_row) (defBody st_steps_by_place_row) (defScope st_steps_by_place_row) .none kV_steps_by_place_row dc_steps_by_place_row pm_steps_by_place_row an_steps_by_place_row cd_steps_by_place_row ct_steps_by_place_row), sl_steps_by_place_row⟩)
    (e_steps_by_place_row : PySem.W.codeIn K cd_steps_by_place_row "steps_by_place_row" = true)
    (k_steps_by_place_row : PySem.W.keepIn K (.ref f_steps_by_place_row) = true)
    (a_turns_of_place_row : PySem.W.nsIn K mainGlobals "turns_of_place_row" = some (some (.ref f_turns_of_place_row)))
    (l_turns_of_place_row : K.lookup f_turns_of_place_row = some ⟨oc_turns_of_place_row, od_turns_of_place_row, .func (PySem.W.fnOf "turns_of_place_row" "turns_of_place_row" (defArgs st_turns_of_place_row) (defBody st_turns_of_place_row) (defScope st_turns_of_place_row) .none kV_turns_of_place_row dc_turns_of_place_row pm_turns_of_place_row an_turns_of_place_row cd_turns_of_place_row ct_turns_of_place_row), sl_turns_of_place_row⟩)
    (e_turns_of_place_row : PySem.W.codeIn K cd_turns_of_place_row "turns_of_place_row" = true)
    (k_turns_of_place_row : PySem.W.keepIn K (.ref f_turns_of_place_row) = true)
    (a_spans_within : PySem.W.nsIn K mainGlobals "spans_within" = some (some (.ref f_spans_within)))
    (l_spans_within : K.lookup f_spans_within = some ⟨oc_spans_within, od_spans_within, .func (PySem.W.fnOf "spans_within" "spans_within" (defArgs st_spans_within) (defBody st_spans_within) (defScope st_spans_within) .none kV_spans_within dc_spans_within pm_spans_within an_spans_within cd_spans_within ct_spans_within), sl_spans_within⟩)
    (e_spans_within : PySem.W.codeIn K cd_spans_within "spans_within" = true)
    (k_spans_within : PySem.W.keepIn K (.ref f_spans_within) = true)
    (a_spans_of_place_row : PySem.W.nsIn K mainGlobals "spans_of_place_row" = some (some (.ref f_spans_of_place_row)))
    (l_spans_of_place_row : K.lookup f_spans_of_place_row = some ⟨oc_spans_of_place_row, od_spans_of_place_row, .func (PySem.W.fnOf "spans_of_place_row" "spans_of_place_row" (defArgs st_spans_of_place_row) (defBody st_spans_of_place_row) (defScope st_spans_of_place_row) .none kV_spans_of_place_row dc_spans_of_place_row pm_spans_of_place_row an_spans_of_place_row cd_spans_of_place_row ct_spans_of_place_row), sl_spans_of_place_row⟩)
    (e_spans_of_place_row : PySem.W.codeIn K cd_spans_of_place_row "spans_of_place_row" = true)
    (k_spans_of_place_row : PySem.W.keepIn K (.ref f_spans_of_place_row) = true)
    (a_add_columns : PySem.W.nsIn K mainGlobals "add_columns" = some (some (.ref f_add_columns)))
    (l_add_columns : K.lookup f_add_columns = some ⟨oc_add_columns, od_add_columns, .func (PySem.W.fnOf "add_columns" "add_columns" (defArgs st_add_columns) (defBody st_add_columns) (defScope st_add_columns) .none kV_add_columns dc_add_columns pm_add_columns an_add_columns cd_add_columns ct_add_columns), sl_add_columns⟩)
    (e_add_columns : PySem.W.codeIn K cd_add_columns "add_columns" = true)
    (k_add_columns : PySem.W.keepIn K (.ref f_add_columns) = true)
    (a_runs_of_place_row : PySem.W.nsIn K mainGlobals "runs_of_place_row" = some (some (.ref f_runs_of_place_row)))
    (l_runs_of_place_row : K.lookup f_runs_of_place_row = some ⟨oc_runs_of_place_row, od_runs_of_place_row, .func (PySem.W.fnOf "runs_of_place_row" "runs_of_place_row" (defArgs st_runs_of_place_row) (defBody st_runs_of_place_row) (defScope st_runs_of_place_row) .none kV_runs_of_place_row dc_runs_of_place_row pm_runs_of_place_row an_runs_of_place_row cd_runs_of_place_row ct_runs_of_place_row), sl_runs_of_place_row⟩)
    (e_runs_of_place_row : PySem.W.codeIn K cd_runs_of_place_row "runs_of_place_row" = true)
    (k_runs_of_place_row : PySem.W.keepIn K (.ref f_runs_of_place_row) = true)
    (a_samples_within : PySem.W.nsIn K mainGlobals "samples_within" = some (some (.ref f_samples_within)))
    (l_samples_within : K.lookup f_samples_within = some ⟨oc_samples_within, od_samples_within, .func (PySem.W.fnOf "samples_within" "samples_within" (defArgs st_samples_within) (defBody st_samples_within) (defScope st_samples_within) .none kV_samples_within dc_samples_within pm_samples_within an_samples_within cd_samples_within ct_samples_within), sl_samples_within⟩)
    (e_samples_within : PySem.W.codeIn K cd_samples_within "samples_within" = true)
    (k_samples_within : PySem.W.keepIn K (.ref f_samples_within) = true)
    (a_curve_coordinate : PySem.W.nsIn K mainGlobals "curve_coordinate" = some (some (.ref f_curve_coordinate)))
    (l_curve_coordinate : K.lookup f_curve_coordinate = some ⟨oc_curve_coordinate, od_curve_coordinate, .func (PySem.W.fnOf "curve_coordinate" "curve_coordinate" (defArgs st_curve_coordinate) (defBody st_curve_coordinate) (defScope st_curve_coordinate) .none kV_curve_coordinate dc_curve_coordinate pm_curve_coordinate an_curve_coordinate cd_curve_coordinate ct_curve_coordinate), sl_curve_coordinate⟩)
    (e_curve_coordinate : PySem.W.codeIn K cd_curve_coordinate "curve_coordinate" = true)
    (k_curve_coordinate : PySem.W.keepIn K (.ref f_curve_coordinate) = true)
    (a_curve_points : PySem.W.nsIn K mainGlobals "curve_points" = some (some (.ref f_curve_points)))
    (l_curve_points : K.lookup f_curve_points = some ⟨oc_curve_points, od_curve_points, .func (PySem.W.fnOf "curve_points" "curve_points" (defArgs st_curve_points) (defBody st_curve_points) (defScope st_curve_points) .none kV_curve_points dc_curve_points pm_curve_points an_curve_points cd_curve_points ct_curve_points), sl_curve_points⟩)
    (e_curve_points : PySem.W.codeIn K cd_curve_points "curve_points" = true)
    (k_curve_points : PySem.W.keepIn K (.ref f_curve_points) = true)
    (a_Outline_init : PySem.W.findIn K (.ref C_Outline) "__init__" = some (some (.ref f_Outline_init)))
    (i_Outline_init : PySem.W.isFn K (.ref f_Outline_init) = true)
    (l_Outline_init : K.lookup f_Outline_init = some ⟨oc_Outline_init, od_Outline_init, .func (PySem.W.fnOf "__init__" "Outline.__init__" (defArgs st_Outline_init) (defBody st_Outline_init) (defScope st_Outline_init) .none kV_Outline_init dc_Outline_init pm_Outline_init an_Outline_init cd_Outline_init ct_Outline_init), sl_Outline_init⟩)
    (e_Outline_init : PySem.W.codeIn K cd_Outline_init "Outline.__init__" = true)
    (k_Outline_init : PySem.W.keepIn K (.ref f_Outline_init) = true)
    (a_Outline_has_room : PySem.W.findIn K (.ref C_Outline) "has_room" = some (some (.ref f_Outline_has_room)))
    (i_Outline_has_room : PySem.W.isFn K (.ref f_Outline_has_room) = true)
    (l_Outline_has_room : K.lookup f_Outline_has_room = some ⟨oc_Outline_has_room, od_Outline_has_room, .func (PySem.W.fnOf "has_room" "Outline.has_room" (defArgs st_Outline_has_room) (defBody st_Outline_has_room) (defScope st_Outline_has_room) .none kV_Outline_has_room dc_Outline_has_room pm_Outline_has_room an_Outline_has_room cd_Outline_has_room ct_Outline_has_room), sl_Outline_has_room⟩)
    (e_Outline_has_room : PySem.W.codeIn K cd_Outline_has_room "Outline.has_room" = true)
    (k_Outline_has_room : PySem.W.keepIn K (.ref f_Outline_has_room) = true)
    (a_Outline_can_lead_on : PySem.W.findIn K (.ref C_Outline) "can_lead_on" = some (some (.ref f_Outline_can_lead_on)))
    (i_Outline_can_lead_on : PySem.W.isFn K (.ref f_Outline_can_lead_on) = true)
    (l_Outline_can_lead_on : K.lookup f_Outline_can_lead_on = some ⟨oc_Outline_can_lead_on, od_Outline_can_lead_on, .func (PySem.W.fnOf "can_lead_on" "Outline.can_lead_on" (defArgs st_Outline_can_lead_on) (defBody st_Outline_can_lead_on) (defScope st_Outline_can_lead_on) .none kV_Outline_can_lead_on dc_Outline_can_lead_on pm_Outline_can_lead_on an_Outline_can_lead_on cd_Outline_can_lead_on ct_Outline_can_lead_on), sl_Outline_can_lead_on⟩)
    (e_Outline_can_lead_on : PySem.W.codeIn K cd_Outline_can_lead_on "Outline.can_lead_on" = true)
    (k_Outline_can_lead_on : PySem.W.keepIn K (.ref f_Outline_can_lead_on) = true)
    (a_Outline_last_point : PySem.W.findIn K (.ref C_Outline) "last_point" = some (some (.ref f_Outline_last_point)))
    (i_Outline_last_point : PySem.W.isFn K (.ref f_Outline_last_point) = true)
    (l_Outline_last_point : K.lookup f_Outline_last_point = some ⟨oc_Outline_last_point, od_Outline_last_point, .func (PySem.W.fnOf "last_point" "Outline.last_point" (defArgs st_Outline_last_point) (defBody st_Outline_last_point) (defScope st_Outline_last_point) .none kV_Outline_last_point dc_Outline_last_point pm_Outline_last_point an_Outline_last_point cd_Outline_last_point ct_Outline_last_point), sl_Outline_last_point⟩)
    (e_Outline_last_point : PySem.W.codeIn K cd_Outline_last_point "Outline.last_point" = true)
    (k_Outline_last_point : PySem.W.keepIn K (.ref f_Outline_last_point) = true)
    (a_Outline_begin_ring : PySem.W.findIn K (.ref C_Outline) "begin_ring" = some (some (.ref f_Outline_begin_ring)))
    (i_Outline_begin_ring : PySem.W.isFn K (.ref f_Outline_begin_ring) = true)
    (l_Outline_begin_ring : K.lookup f_Outline_begin_ring = some ⟨oc_Outline_begin_ring, od_Outline_begin_ring, .func (PySem.W.fnOf "begin_ring" "Outline.begin_ring" (defArgs st_Outline_begin_ring) (defBody st_Outline_begin_ring) (defScope st_Outline_begin_ring) .none kV_Outline_begin_ring dc_Outline_begin_ring pm_Outline_begin_ring an_Outline_begin_ring cd_Outline_begin_ring ct_Outline_begin_ring), sl_Outline_begin_ring⟩)
    (e_Outline_begin_ring : PySem.W.codeIn K cd_Outline_begin_ring "Outline.begin_ring" = true)
    (k_Outline_begin_ring : PySem.W.keepIn K (.ref f_Outline_begin_ring) = true)
    (a_Outline_lead_on : PySem.W.findIn K (.ref C_Outline) "lead_on" = some (some (.ref f_Outline_lead_on)))
    (i_Outline_lead_on : PySem.W.isFn K (.ref f_Outline_lead_on) = true)
    (l_Outline_lead_on : K.lookup f_Outline_lead_on = some ⟨oc_Outline_lead_on, od_Outline_lead_on, .func (PySem.W.fnOf "lead_on" "Outline.lead_on" (defArgs st_Outline_lead_on) (defBody st_Outline_lead_on) (defScope st_Outline_lead_on) .none kV_Outline_lead_on dc_Outline_lead_on pm_Outline_lead_on an_Outline_lead_on cd_Outline_lead_on ct_Outline_lead_on), sl_Outline_lead_on⟩)
    (e_Outline_lead_on : PySem.W.codeIn K cd_Outline_lead_on "Outline.lead_on" = true)
    (k_Outline_lead_on : PySem.W.keepIn K (.ref f_Outline_lead_on) = true)
    (a_Outline_points : PySem.W.findIn K (.ref C_Outline) "points" = some (some (.ref f_Outline_points)))
    (i_Outline_points : PySem.W.isFn K (.ref f_Outline_points) = true)
    (l_Outline_points : K.lookup f_Outline_points = some ⟨oc_Outline_points, od_Outline_points, .func (PySem.W.fnOf "points" "Outline.points" (defArgs st_Outline_points) (defBody st_Outline_points) (defScope st_Outline_points) .none kV_Outline_points dc_Outline_points pm_Outline_points an_Outline_points cd_Outline_points ct_Outline_points), sl_Outline_points⟩)
    (e_Outline_points : PySem.W.codeIn K cd_Outline_points "Outline.points" = true)
    (k_Outline_points : PySem.W.keepIn K (.ref f_Outline_points) = true)
    (a_Outline_lines : PySem.W.findIn K (.ref C_Outline) "lines" = some (some (.ref f_Outline_lines)))
    (i_Outline_lines : PySem.W.isFn K (.ref f_Outline_lines) = true)
    (l_Outline_lines : K.lookup f_Outline_lines = some ⟨oc_Outline_lines, od_Outline_lines, .func (PySem.W.fnOf "lines" "Outline.lines" (defArgs st_Outline_lines) (defBody st_Outline_lines) (defScope st_Outline_lines) .none kV_Outline_lines dc_Outline_lines pm_Outline_lines an_Outline_lines cd_Outline_lines ct_Outline_lines), sl_Outline_lines⟩)
    (e_Outline_lines : PySem.W.codeIn K cd_Outline_lines "Outline.lines" = true)
    (k_Outline_lines : PySem.W.keepIn K (.ref f_Outline_lines) = true)
    (a_is_side : PySem.W.nsIn K mainGlobals "is_side" = some (some (.ref f_is_side)))
    (l_is_side : K.lookup f_is_side = some ⟨oc_is_side, od_is_side, .func (PySem.W.fnOf "is_side" "is_side" (defArgs st_is_side) (defBody st_is_side) (defScope st_is_side) .none kV_is_side dc_is_side pm_is_side an_is_side cd_is_side ct_is_side), sl_is_side⟩)
    (e_is_side : PySem.W.codeIn K cd_is_side "is_side" = true)
    (k_is_side : PySem.W.keepIn K (.ref f_is_side) = true)
    (a_is_colour : PySem.W.nsIn K mainGlobals "is_colour" = some (some (.ref f_is_colour)))
    (l_is_colour : K.lookup f_is_colour = some ⟨oc_is_colour, od_is_colour, .func (PySem.W.fnOf "is_colour" "is_colour" (defArgs st_is_colour) (defBody st_is_colour) (defScope st_is_colour) .none kV_is_colour dc_is_colour pm_is_colour an_is_colour cd_is_colour ct_is_colour), sl_is_colour⟩)
    (e_is_colour : PySem.W.codeIn K cd_is_colour "is_colour" = true)
    (k_is_colour : PySem.W.keepIn K (.ref f_is_colour) = true)
    (a_is_rule : PySem.W.nsIn K mainGlobals "is_rule" = some (some (.ref f_is_rule)))
    (l_is_rule : K.lookup f_is_rule = some ⟨oc_is_rule, od_is_rule, .func (PySem.W.fnOf "is_rule" "is_rule" (defArgs st_is_rule) (defBody st_is_rule) (defScope st_is_rule) .none kV_is_rule dc_is_rule pm_is_rule an_is_rule cd_is_rule ct_is_rule), sl_is_rule⟩)
    (e_is_rule : PySem.W.codeIn K cd_is_rule "is_rule" = true)
    (k_is_rule : PySem.W.keepIn K (.ref f_is_rule) = true)
    (a_are_coordinates : PySem.W.nsIn K mainGlobals "are_coordinates" = some (some (.ref f_are_coordinates)))
    (l_are_coordinates : K.lookup f_are_coordinates = some ⟨oc_are_coordinates, od_are_coordinates, .func (PySem.W.fnOf "are_coordinates" "are_coordinates" (defArgs st_are_coordinates) (defBody st_are_coordinates) (defScope st_are_coordinates) .none kV_are_coordinates dc_are_coordinates pm_are_coordinates an_are_coordinates cd_are_coordinates ct_are_coordinates), sl_are_coordinates⟩)
    (e_are_coordinates : PySem.W.codeIn K cd_are_coordinates "are_coordinates" = true)
    (k_are_coordinates : PySem.W.keepIn K (.ref f_are_coordinates) = true)
    (a_Picture_init : PySem.W.findIn K (.ref C_Picture) "__init__" = some (some (.ref f_Picture_init)))
    (i_Picture_init : PySem.W.isFn K (.ref f_Picture_init) = true)
    (l_Picture_init : K.lookup f_Picture_init = some ⟨oc_Picture_init, od_Picture_init, .func (PySem.W.fnOf "__init__" "Picture.__init__" (defArgs st_Picture_init) (defBody st_Picture_init) (defScope st_Picture_init) .none kV_Picture_init dc_Picture_init pm_Picture_init an_Picture_init cd_Picture_init ct_Picture_init), sl_Picture_init⟩)
    (e_Picture_init : PySem.W.codeIn K cd_Picture_init "Picture.__init__" = true)
    (k_Picture_init : PySem.W.keepIn K (.ref f_Picture_init) = true)
    (a_Picture_begin : PySem.W.findIn K (.ref C_Picture) "begin" = some (some (.ref f_Picture_begin)))
    (i_Picture_begin : PySem.W.isFn K (.ref f_Picture_begin) = true)
    (l_Picture_begin : K.lookup f_Picture_begin = some ⟨oc_Picture_begin, od_Picture_begin, .func (PySem.W.fnOf "begin" "Picture.begin" (defArgs st_Picture_begin) (defBody st_Picture_begin) (defScope st_Picture_begin) .none kV_Picture_begin dc_Picture_begin pm_Picture_begin an_Picture_begin cd_Picture_begin ct_Picture_begin), sl_Picture_begin⟩)
    (e_Picture_begin : PySem.W.codeIn K cd_Picture_begin "Picture.begin" = true)
    (k_Picture_begin : PySem.W.keepIn K (.ref f_Picture_begin) = true)
    (a_Picture_holds_box : PySem.W.findIn K (.ref C_Picture) "holds_box" = some (some (.ref f_Picture_holds_box)))
    (i_Picture_holds_box : PySem.W.isFn K (.ref f_Picture_holds_box) = true)
    (l_Picture_holds_box : K.lookup f_Picture_holds_box = some ⟨oc_Picture_holds_box, od_Picture_holds_box, .func (PySem.W.fnOf "holds_box" "Picture.holds_box" (defArgs st_Picture_holds_box) (defBody st_Picture_holds_box) (defScope st_Picture_holds_box) .none kV_Picture_holds_box dc_Picture_holds_box pm_Picture_holds_box an_Picture_holds_box cd_Picture_holds_box ct_Picture_holds_box), sl_Picture_holds_box⟩)
    (e_Picture_holds_box : PySem.W.codeIn K cd_Picture_holds_box "Picture.holds_box" = true)
    (k_Picture_holds_box : PySem.W.keepIn K (.ref f_Picture_holds_box) = true)
    (a_Picture_paint : PySem.W.findIn K (.ref C_Picture) "paint" = some (some (.ref f_Picture_paint)))
    (i_Picture_paint : PySem.W.isFn K (.ref f_Picture_paint) = true)
    (l_Picture_paint : K.lookup f_Picture_paint = some ⟨oc_Picture_paint, od_Picture_paint, .func (PySem.W.fnOf "paint" "Picture.paint" (defArgs st_Picture_paint) (defBody st_Picture_paint) (defScope st_Picture_paint) .none kV_Picture_paint dc_Picture_paint pm_Picture_paint an_Picture_paint cd_Picture_paint ct_Picture_paint), sl_Picture_paint⟩)
    (e_Picture_paint : PySem.W.codeIn K cd_Picture_paint "Picture.paint" = true)
    (k_Picture_paint : PySem.W.keepIn K (.ref f_Picture_paint) = true)
    (a_Picture_move : PySem.W.findIn K (.ref C_Picture) "move" = some (some (.ref f_Picture_move)))
    (i_Picture_move : PySem.W.isFn K (.ref f_Picture_move) = true)
    (l_Picture_move : K.lookup f_Picture_move = some ⟨oc_Picture_move, od_Picture_move, .func (PySem.W.fnOf "move" "Picture.move" (defArgs st_Picture_move) (defBody st_Picture_move) (defScope st_Picture_move) .none kV_Picture_move dc_Picture_move pm_Picture_move an_Picture_move cd_Picture_move ct_Picture_move), sl_Picture_move⟩)
    (e_Picture_move : PySem.W.codeIn K cd_Picture_move "Picture.move" = true)
    (k_Picture_move : PySem.W.keepIn K (.ref f_Picture_move) = true)
    (a_Picture_line : PySem.W.findIn K (.ref C_Picture) "line" = some (some (.ref f_Picture_line)))
    (i_Picture_line : PySem.W.isFn K (.ref f_Picture_line) = true)
    (l_Picture_line : K.lookup f_Picture_line = some ⟨oc_Picture_line, od_Picture_line, .func (PySem.W.fnOf "line" "Picture.line" (defArgs st_Picture_line) (defBody st_Picture_line) (defScope st_Picture_line) .none kV_Picture_line dc_Picture_line pm_Picture_line an_Picture_line cd_Picture_line ct_Picture_line), sl_Picture_line⟩)
    (e_Picture_line : PySem.W.codeIn K cd_Picture_line "Picture.line" = true)
    (k_Picture_line : PySem.W.keepIn K (.ref f_Picture_line) = true)
    (a_Picture_curve : PySem.W.findIn K (.ref C_Picture) "curve" = some (some (.ref f_Picture_curve)))
    (i_Picture_curve : PySem.W.isFn K (.ref f_Picture_curve) = true)
    (l_Picture_curve : K.lookup f_Picture_curve = some ⟨oc_Picture_curve, od_Picture_curve, .func (PySem.W.fnOf "curve" "Picture.curve" (defArgs st_Picture_curve) (defBody st_Picture_curve) (defScope st_Picture_curve) .none kV_Picture_curve dc_Picture_curve pm_Picture_curve an_Picture_curve cd_Picture_curve ct_Picture_curve), sl_Picture_curve⟩)
    (e_Picture_curve : PySem.W.codeIn K cd_Picture_curve "Picture.curve" = true)
    (k_Picture_curve : PySem.W.keepIn K (.ref f_Picture_curve) = true)
    (a_Picture_fill : PySem.W.findIn K (.ref C_Picture) "fill" = some (some (.ref f_Picture_fill)))
    (i_Picture_fill : PySem.W.isFn K (.ref f_Picture_fill) = true)
    (l_Picture_fill : K.lookup f_Picture_fill = some ⟨oc_Picture_fill, od_Picture_fill, .func (PySem.W.fnOf "fill" "Picture.fill" (defArgs st_Picture_fill) (defBody st_Picture_fill) (defScope st_Picture_fill) .none kV_Picture_fill dc_Picture_fill pm_Picture_fill an_Picture_fill cd_Picture_fill ct_Picture_fill), sl_Picture_fill⟩)
    (e_Picture_fill : PySem.W.codeIn K cd_Picture_fill "Picture.fill" = true)
    (k_Picture_fill : PySem.W.keepIn K (.ref f_Picture_fill) = true)
    (a_Picture_within : PySem.W.findIn K (.ref C_Picture) "within" = some (some (.ref f_Picture_within)))
    (i_Picture_within : PySem.W.isFn K (.ref f_Picture_within) = true)
    (l_Picture_within : K.lookup f_Picture_within = some ⟨oc_Picture_within, od_Picture_within, .func (PySem.W.fnOf "within" "Picture.within" (defArgs st_Picture_within) (defBody st_Picture_within) (defScope st_Picture_within) .none kV_Picture_within dc_Picture_within pm_Picture_within an_Picture_within cd_Picture_within ct_Picture_within), sl_Picture_within⟩)
    (e_Picture_within : PySem.W.codeIn K cd_Picture_within "Picture.within" = true)
    (k_Picture_within : PySem.W.keepIn K (.ref f_Picture_within) = true)
    (a_Picture_row : PySem.W.findIn K (.ref C_Picture) "row" = some (some (.ref f_Picture_row)))
    (i_Picture_row : PySem.W.isFn K (.ref f_Picture_row) = true)
    (l_Picture_row : K.lookup f_Picture_row = some ⟨oc_Picture_row, od_Picture_row, .func (PySem.W.fnOf "row" "Picture.row" (defArgs st_Picture_row) (defBody st_Picture_row) (defScope st_Picture_row) .none kV_Picture_row dc_Picture_row pm_Picture_row an_Picture_row cd_Picture_row ct_Picture_row), sl_Picture_row⟩)
    (e_Picture_row : PySem.W.codeIn K cd_Picture_row "Picture.row" = true)
    (k_Picture_row : PySem.W.keepIn K (.ref f_Picture_row) = true)
    (a_Picture_box : PySem.W.findIn K (.ref C_Picture) "box" = some (some (.ref f_Picture_box)))
    (i_Picture_box : PySem.W.isFn K (.ref f_Picture_box) = true)
    (l_Picture_box : K.lookup f_Picture_box = some ⟨oc_Picture_box, od_Picture_box, .func (PySem.W.fnOf "box" "Picture.box" (defArgs st_Picture_box) (defBody st_Picture_box) (defScope st_Picture_box) .none kV_Picture_box dc_Picture_box pm_Picture_box an_Picture_box cd_Picture_box ct_Picture_box), sl_Picture_box⟩)
    (e_Picture_box : PySem.W.codeIn K cd_Picture_box "Picture.box" = true)
    (k_Picture_box : PySem.W.keepIn K (.ref f_Picture_box) = true)
    (a_answer_call : PySem.W.nsIn K mainGlobals "answer_call" = some (some (.ref f_answer_call)))
    (l_answer_call : K.lookup f_answer_call = some ⟨oc_answer_call, od_answer_call, .func (PySem.W.fnOf "answer_call" "answer_call" (defArgs st_answer_call) (defBody st_answer_call) (defScope st_answer_call) .none kV_answer_call dc_answer_call pm_answer_call an_answer_call cd_answer_call ct_answer_call), sl_answer_call⟩)
    (e_answer_call : PySem.W.codeIn K cd_answer_call "answer_call" = true)
    (k_answer_call : PySem.W.keepIn K (.ref f_answer_call) = true)
    (a_answers : PySem.W.nsIn K mainGlobals "answers" = some (some (.ref f_answers)))
    (l_answers : K.lookup f_answers = some ⟨oc_answers, od_answers, .func (PySem.W.fnOf "answers" "answers" (defArgs st_answers) (defBody st_answers) (defScope st_answers) .none kV_answers dc_answers pm_answers an_answers cd_answers ct_answers), sl_answers⟩)
    (e_answers : PySem.W.codeIn K cd_answers "answers" = true)
    (k_answers : PySem.W.keepIn K (.ref f_answers) = true)
    (pg_Step : PySem.W.plainGet K C_Step Str.empty = true)
    (hd_Step : PySem.W.hasDictIn K C_Step = true)
    (po_Step : PySem.W.plainOver K C_Step = true)
    (sa_Step : PySem.W.findIn K (.ref C_Step) "__setattr__" = some (some (.builtin "object.__setattr__")))
    (mk_Step : PySem.W.makesIn K C_Step = true)
    (kc_Step : PySem.W.keepIn K (.ref C_Step) = true)
    (n_Step_first : PySem.W.findIn K (.ref C_Step) "first" = some none)
    (n_Step_end : PySem.W.findIn K (.ref C_Step) "end" = some none)
    (n_Step_turn : PySem.W.findIn K (.ref C_Step) "turn" = some none)
    (n_Step_scale : PySem.W.findIn K (.ref C_Step) "scale" = some none)
    (n_Step_slope : PySem.W.findIn K (.ref C_Step) "slope" = some none)
    (n_Step_base : PySem.W.findIn K (.ref C_Step) "base" = some none)
    (pg_Outline : PySem.W.plainGet K C_Outline Str.empty = true)
    (hd_Outline : PySem.W.hasDictIn K C_Outline = true)
    (po_Outline : PySem.W.plainOver K C_Outline = true)
    (sa_Outline : PySem.W.findIn K (.ref C_Outline) "__setattr__" = some (some (.builtin "object.__setattr__")))
    (mk_Outline : PySem.W.makesIn K C_Outline = true)
    (kc_Outline : PySem.W.keepIn K (.ref C_Outline) = true)
    (n_Outline_rings : PySem.W.findIn K (.ref C_Outline) "rings" = some none)
    (n_Outline_point_count : PySem.W.findIn K (.ref C_Outline) "point_count" = some none)
    (pg_Picture : PySem.W.plainGet K C_Picture Str.empty = true)
    (hd_Picture : PySem.W.hasDictIn K C_Picture = true)
    (po_Picture : PySem.W.plainOver K C_Picture = true)
    (sa_Picture : PySem.W.findIn K (.ref C_Picture) "__setattr__" = some (some (.builtin "object.__setattr__")))
    (mk_Picture : PySem.W.makesIn K C_Picture = true)
    (kc_Picture : PySem.W.keepIn K (.ref C_Picture) = true)
    (n_Picture_width : PySem.W.findIn K (.ref C_Picture) "width" = some none)
    (n_Picture_height : PySem.W.findIn K (.ref C_Picture) "height" = some none)
    (n_Picture_rows : PySem.W.findIn K (.ref C_Picture) "rows" = some none)
    (n_Picture_outline : PySem.W.findIn K (.ref C_Picture) "outline" = some none)
    (c_ALL_SAMPLES : PySem.W.nsIn K mainGlobals "ALL_SAMPLES" = some (some (.int 256 tk_ALL_SAMPLES)))
    (c_SAMPLES : PySem.W.nsIn K mainGlobals "SAMPLES" = some (some (.int 16 tk_SAMPLES)))
    (c_MOST_POINTS : PySem.W.nsIn K mainGlobals "MOST_POINTS" = some (some (.int 4096 tk_MOST_POINTS)))
    (c_CURVE_STEPS : PySem.W.nsIn K mainGlobals "CURVE_STEPS" = some (some (.int 16 tk_CURVE_STEPS)))
    (c_OUT_OF_RANGE : PySem.W.nsIn K mainGlobals "OUT_OF_RANGE" = some (some (.int (-2) tk_OUT_OF_RANGE)))
    (c_REFUSED : PySem.W.nsIn K mainGlobals "REFUSED" = some (some (.int (-1) tk_REFUSED)))
    (c_LARGEST_SIDE : PySem.W.nsIn K mainGlobals "LARGEST_SIDE" = some (some (.int 512 tk_LARGEST_SIDE)))
    (c_FARTHEST : PySem.W.nsIn K mainGlobals "FARTHEST" = some (some (.int 1000000 tk_FARTHEST)))
    (c_LARGEST_COLOUR : PySem.W.nsIn K mainGlobals "LARGEST_COLOUR" = some (some (.int 4294967295 tk_LARGEST_COLOUR)))
    (c_OPEN_CALL : PySem.W.nsIn K mainGlobals "OPEN_CALL" = some (some (.int 1 tk_OPEN_CALL)))
    (c_COLOUR_CALL : PySem.W.nsIn K mainGlobals "COLOUR_CALL" = some (some (.int 2 tk_COLOUR_CALL)))
    (c_MOVE_CALL : PySem.W.nsIn K mainGlobals "MOVE_CALL" = some (some (.int 3 tk_MOVE_CALL)))
    (c_LINE_CALL : PySem.W.nsIn K mainGlobals "LINE_CALL" = some (some (.int 4 tk_LINE_CALL)))
    (c_CURVE_CALL : PySem.W.nsIn K mainGlobals "CURVE_CALL" = some (some (.int 5 tk_CURVE_CALL)))
    (c_FILL_CALL : PySem.W.nsIn K mainGlobals "FILL_CALL" = some (some (.int 6 tk_FILL_CALL)))
    (c_WITHIN_CALL : PySem.W.nsIn K mainGlobals "WITHIN_CALL" = some (some (.int 7 tk_WITHIN_CALL)))
    (c_ROW_CALL : PySem.W.nsIn K mainGlobals "ROW_CALL" = some (some (.int 8 tk_ROW_CALL)))
    (c_PART_SHIFTS : PySem.W.nsIn K mainGlobals "PART_SHIFTS" = some (some (.ref t_PART_SHIFTS)))
    (l_PART_SHIFTS : K.lookup t_PART_SHIFTS = some ⟨.type "tuple", od_PART_SHIFTS, .seq #[.int 0 tk_PART_SHIFTS_0, .int 8 tk_PART_SHIFTS_1, .int 16 tk_PART_SHIFTS_2, .int 24 tk_PART_SHIFTS_3] n_PART_SHIFTS, sl_PART_SHIFTS⟩)
    (c_TELLING_BITS : PySem.W.nsIn K mainGlobals "TELLING_BITS" = some (some (.ref t_TELLING_BITS)))
    (l_TELLING_BITS : K.lookup t_TELLING_BITS = some ⟨.type "tuple", od_TELLING_BITS, .seq #[.int (-1) tk_TELLING_BITS_0, .int 1 tk_TELLING_BITS_1] n_TELLING_BITS, sl_TELLING_BITS⟩)
    (c_ARGUMENT_COUNTS : PySem.W.nsIn K mainGlobals "ARGUMENT_COUNTS" = some (some (.ref t_ARGUMENT_COUNTS)))
    (l_ARGUMENT_COUNTS : K.lookup t_ARGUMENT_COUNTS = some ⟨.type "tuple", od_ARGUMENT_COUNTS, .seq #[.int 0 tk_ARGUMENT_COUNTS_0, .int 2 tk_ARGUMENT_COUNTS_1, .int 5 tk_ARGUMENT_COUNTS_2, .int 2 tk_ARGUMENT_COUNTS_3, .int 2 tk_ARGUMENT_COUNTS_4, .int 4 tk_ARGUMENT_COUNTS_5, .int 2 tk_ARGUMENT_COUNTS_6, .int 3 tk_ARGUMENT_COUNTS_7, .int 1 tk_ARGUMENT_COUNTS_8, .int 0 tk_ARGUMENT_COUNTS_9] n_ARGUMENT_COUNTS, sl_ARGUMENT_COUNTS⟩)
    (z_range : PySem.W.nsIn K mainGlobals "range" = some none)
    (z_len : PySem.W.nsIn K mainGlobals "len" = some none)
    (z_all : PySem.W.nsIn K mainGlobals "all" = some none)
    (z_sorted : PySem.W.nsIn K mainGlobals "sorted" = some none)
    (z_min : PySem.W.nsIn K mainGlobals "min" = some none)
    (z_max : PySem.W.nsIn K mainGlobals "max" = some none)
    (z_sum : PySem.W.nsIn K mainGlobals "sum" = some none)
    (z_enumerate : PySem.W.nsIn K mainGlobals "enumerate" = some none)
    (z_zip : PySem.W.nsIn K mainGlobals "zip" = some none)
    (z_list : PySem.W.nsIn K mainGlobals "list" = some none) :
    ∃ a, Txt K mg a := ⟨⟨f_blended, PySem.W.fnOf "blended" "blended" (defArgs st_blended) (defBody st_blended) (defScope st_blended) .none kV_blended dc_blended pm_blended an_blended cd_blended ct_blended, f_blended_run, PySem.W.fnOf "blended_run" "blended_run" (defArgs st_blended_run) (defBody st_blended_run) (defScope st_blended_run) .none kV_blended_run dc_blended_run pm_blended_run an_blended_run cd_blended_run ct_blended_run, f_blended_row, PySem.W.fnOf "blended_row" "blended_row" (defArgs st_blended_row) (defBody st_blended_row) (defScope st_blended_row) .none kV_blended_row dc_blended_row pm_blended_row an_blended_row cd_blended_row ct_blended_row, f_row_below, PySem.W.fnOf "row_below" "row_below" (defArgs st_row_below) (defBody st_row_below) (defScope st_row_below) .none kV_row_below dc_row_below pm_row_below an_row_below cd_row_below ct_row_below, f_Step_init, PySem.W.fnOf "__init__" "Step.__init__" (defArgs st_Step_init) (defBody st_Step_init) (defScope st_Step_init) .none kV_Step_init dc_Step_init pm_Step_init an_Step_init cd_Step_init ct_Step_init, f_Step_limits, PySem.W.fnOf "limits" "Step.limits" (defArgs st_Step_limits) (defBody st_Step_limits) (defScope st_Step_limits) .none kV_Step_limits dc_Step_limits pm_Step_limits an_Step_limits cd_Step_limits ct_Step_limits, f_steps_across, PySem.W.fnOf "steps_across" "steps_across" (defArgs st_steps_across) (defBody st_steps_across) (defScope st_steps_across) .none kV_steps_across dc_steps_across pm_steps_across an_steps_across cd_steps_across ct_steps_across, f_steps_by_place_row, PySem.W.fnOf "steps_by_place_row" "steps_by_place_row" (defArgs st_steps_by_place_row) (defBody st_steps_by_place_row) (defScope st_steps_by_place_row) .none kV_steps_by_place_row dc_steps_by_place_row pm_steps_by_place_row an_steps_by_place_row cd_steps_by_place_row ct_steps_by_place_row, f_turns_of_place_row, PySem.W.fnOf "turns_of_place_row" "turns_of_place_row" (defArgs st_turns_of_place_row) (defBody st_turns_of_place_row) (defScope st_turns_of_place_row) .none kV_turns_of_place_row dc_turns_of_place_row pm_turns_of_place_row an_turns_of_place_row cd_turns_of_place_row ct_turns_of_place_row, f_spans_within, PySem.W.fnOf "spans_within" "spans_within" (defArgs st_spans_within) (defBody st_spans_within) (defScope st_spans_within) .none kV_spans_within dc_spans_within pm_spans_within an_spans_within cd_spans_within ct_spans_within, f_spans_of_place_row, PySem.W.fnOf "spans_of_place_row" "spans_of_place_row" (defArgs st_spans_of_place_row) (defBody st_spans_of_place_row) (defScope st_spans_of_place_row) .none kV_spans_of_place_row dc_spans_of_place_row pm_spans_of_place_row an_spans_of_place_row cd_spans_of_place_row ct_spans_of_place_row, f_add_columns, PySem.W.fnOf "add_columns" "add_columns" (defArgs st_add_columns) (defBody st_add_columns) (defScope st_add_columns) .none kV_add_columns dc_add_columns pm_add_columns an_add_columns cd_add_columns ct_add_columns, f_runs_of_place_row, PySem.W.fnOf "runs_of_place_row" "runs_of_place_row" (defArgs st_runs_of_place_row) (defBody st_runs_of_place_row) (defScope st_runs_of_place_row) .none kV_runs_of_place_row dc_runs_of_place_row pm_runs_of_place_row an_runs_of_place_row cd_runs_of_place_row ct_runs_of_place_row, f_samples_within, PySem.W.fnOf "samples_within" "samples_within" (defArgs st_samples_within) (defBody st_samples_within) (defScope st_samples_within) .none kV_samples_within dc_samples_within pm_samples_within an_samples_within cd_samples_within ct_samples_within, f_curve_coordinate, PySem.W.fnOf "curve_coordinate" "curve_coordinate" (defArgs st_curve_coordinate) (defBody st_curve_coordinate) (defScope st_curve_coordinate) .none kV_curve_coordinate dc_curve_coordinate pm_curve_coordinate an_curve_coordinate cd_curve_coordinate ct_curve_coordinate, f_curve_points, PySem.W.fnOf "curve_points" "curve_points" (defArgs st_curve_points) (defBody st_curve_points) (defScope st_curve_points) .none kV_curve_points dc_curve_points pm_curve_points an_curve_points cd_curve_points ct_curve_points, f_Outline_init, PySem.W.fnOf "__init__" "Outline.__init__" (defArgs st_Outline_init) (defBody st_Outline_init) (defScope st_Outline_init) .none kV_Outline_init dc_Outline_init pm_Outline_init an_Outline_init cd_Outline_init ct_Outline_init, f_Outline_has_room, PySem.W.fnOf "has_room" "Outline.has_room" (defArgs st_Outline_has_room) (defBody st_Outline_has_room) (defScope st_Outline_has_room) .none kV_Outline_has_room dc_Outline_has_room pm_Outline_has_room an_Outline_has_room cd_Outline_has_room ct_Outline_has_room, f_Outline_can_lead_on, PySem.W.fnOf "can_lead_on" "Outline.can_lead_on" (defArgs st_Outline_can_lead_on) (defBody st_Outline_can_lead_on) (defScope st_Outline_can_lead_on) .none kV_Outline_can_lead_on dc_Outline_can_lead_on pm_Outline_can_lead_on an_Outline_can_lead_on cd_Outline_can_lead_on ct_Outline_can_lead_on, f_Outline_last_point, PySem.W.fnOf "last_point" "Outline.last_point" (defArgs st_Outline_last_point) (defBody st_Outline_last_point) (defScope st_Outline_last_point) .none kV_Outline_last_point dc_Outline_last_point pm_Outline_last_point an_Outline_last_point cd_Outline_last_point ct_Outline_last_point, f_Outline_begin_ring, PySem.W.fnOf "begin_ring" "Outline.begin_ring" (defArgs st_Outline_begin_ring) (defBody st_Outline_begin_ring) (defScope st_Outline_begin_ring) .none kV_Outline_begin_ring dc_Outline_begin_ring pm_Outline_begin_ring an_Outline_begin_ring cd_Outline_begin_ring ct_Outline_begin_ring, f_Outline_lead_on, PySem.W.fnOf "lead_on" "Outline.lead_on" (defArgs st_Outline_lead_on) (defBody st_Outline_lead_on) (defScope st_Outline_lead_on) .none kV_Outline_lead_on dc_Outline_lead_on pm_Outline_lead_on an_Outline_lead_on cd_Outline_lead_on ct_Outline_lead_on, f_Outline_points, PySem.W.fnOf "points" "Outline.points" (defArgs st_Outline_points) (defBody st_Outline_points) (defScope st_Outline_points) .none kV_Outline_points dc_Outline_points pm_Outline_points an_Outline_points cd_Outline_points ct_Outline_points, f_Outline_lines, PySem.W.fnOf "lines" "Outline.lines" (defArgs st_Outline_lines) (defBody st_Outline_lines) (defScope st_Outline_lines) .none kV_Outline_lines dc_Outline_lines pm_Outline_lines an_Outline_lines cd_Outline_lines ct_Outline_lines, f_is_side, PySem.W.fnOf "is_side" "is_side" (defArgs st_is_side) (defBody st_is_side) (defScope st_is_side) .none kV_is_side dc_is_side pm_is_side an_is_side cd_is_side ct_is_side, f_is_colour, PySem.W.fnOf "is_colour" "is_colour" (defArgs st_is_colour) (defBody st_is_colour) (defScope st_is_colour) .none kV_is_colour dc_is_colour pm_is_colour an_is_colour cd_is_colour ct_is_colour, f_is_rule, PySem.W.fnOf "is_rule" "is_rule" (defArgs st_is_rule) (defBody st_is_rule) (defScope st_is_rule) .none kV_is_rule dc_is_rule pm_is_rule an_is_rule cd_is_rule ct_is_rule, f_are_coordinates, PySem.W.fnOf "are_coordinates" "are_coordinates" (defArgs st_are_coordinates) (defBody st_are_coordinates) (defScope st_are_coordinates) .none kV_are_coordinates dc_are_coordinates pm_are_coordinates an_are_coordinates cd_are_coordinates ct_are_coordinates, f_Picture_init, PySem.W.fnOf "__init__" "Picture.__init__" (defArgs st_Picture_init) (defBody st_Picture_init) (defScope st_Picture_init) .none kV_Picture_init dc_Picture_init pm_Picture_init an_Picture_init cd_Picture_init ct_Picture_init, f_Picture_begin, PySem.W.fnOf "begin" "Picture.begin" (defArgs st_Picture_begin) (defBody st_Picture_begin) (defScope st_Picture_begin) .none kV_Picture_begin dc_Picture_begin pm_Picture_begin an_Picture_begin cd_Picture_begin ct_Picture_begin, f_Picture_holds_box, PySem.W.fnOf "holds_box" "Picture.holds_box" (defArgs st_Picture_holds_box) (defBody st_Picture_holds_box) (defScope st_Picture_holds_box) .none kV_Picture_holds_box dc_Picture_holds_box pm_Picture_holds_box an_Picture_holds_box cd_Picture_holds_box ct_Picture_holds_box, f_Picture_paint, PySem.W.fnOf "paint" "Picture.paint" (defArgs st_Picture_paint) (defBody st_Picture_paint) (defScope st_Picture_paint) .none kV_Picture_paint dc_Picture_paint pm_Picture_paint an_Picture_paint cd_Picture_paint ct_Picture_paint, f_Picture_move, PySem.W.fnOf "move" "Picture.move" (defArgs st_Picture_move) (defBody st_Picture_move) (defScope st_Picture_move) .none kV_Picture_move dc_Picture_move pm_Picture_move an_Picture_move cd_Picture_move ct_Picture_move, f_Picture_line, PySem.W.fnOf "line" "Picture.line" (defArgs st_Picture_line) (defBody st_Picture_line) (defScope st_Picture_line) .none kV_Picture_line dc_Picture_line pm_Picture_line an_Picture_line cd_Picture_line ct_Picture_line, f_Picture_curve, PySem.W.fnOf "curve" "Picture.curve" (defArgs st_Picture_curve) (defBody st_Picture_curve) (defScope st_Picture_curve) .none kV_Picture_curve dc_Picture_curve pm_Picture_curve an_Picture_curve cd_Picture_curve ct_Picture_curve, f_Picture_fill, PySem.W.fnOf "fill" "Picture.fill" (defArgs st_Picture_fill) (defBody st_Picture_fill) (defScope st_Picture_fill) .none kV_Picture_fill dc_Picture_fill pm_Picture_fill an_Picture_fill cd_Picture_fill ct_Picture_fill, f_Picture_within, PySem.W.fnOf "within" "Picture.within" (defArgs st_Picture_within) (defBody st_Picture_within) (defScope st_Picture_within) .none kV_Picture_within dc_Picture_within pm_Picture_within an_Picture_within cd_Picture_within ct_Picture_within, f_Picture_row, PySem.W.fnOf "row" "Picture.row" (defArgs st_Picture_row) (defBody st_Picture_row) (defScope st_Picture_row) .none kV_Picture_row dc_Picture_row pm_Picture_row an_Picture_row cd_Picture_row ct_Picture_row, f_Picture_box, PySem.W.fnOf "box" "Picture.box" (defArgs st_Picture_box) (defBody st_Picture_box) (defScope st_Picture_box) .none kV_Picture_box dc_Picture_box pm_Picture_box an_Picture_box cd_Picture_box ct_Picture_box, f_answer_call, PySem.W.fnOf "answer_call" "answer_call" (defArgs st_answer_call) (defBody st_answer_call) (defScope st_answer_call) .none kV_answer_call dc_answer_call pm_answer_call an_answer_call cd_answer_call ct_answer_call, f_answers, PySem.W.fnOf "answers" "answers" (defArgs st_answers) (defBody st_answers) (defScope st_answers) .none kV_answers dc_answers pm_answers an_answers cd_answers ct_answers, C_Step, C_Outline, C_Picture, t_PART_SHIFTS, t_TELLING_BITS, t_ARGUMENT_COUNTS⟩, {
  f_blended := fun_mk (st := st_blended) l_blended e_blended k_blended
  b_blended := (fun_mk (st := st_blended) l_blended e_blended k_blended).binds (ps := ps_blended) fun _ _ _ _ _ _ us hl => match us, hl with | [_, _, _], _ => rfl
  g_blended := PySem.W.mg_of X G a_blended
  f_blended_run := fun_mk (st := st_blended_run) l_blended_run e_blended_run k_blended_run
  b_blended_run := (fun_mk (st := st_blended_run) l_blended_run e_blended_run k_blended_run).binds (ps := ps_blended_run) fun _ _ _ _ _ _ us hl => match us, hl with | [_, _, _], _ => rfl
  g_blended_run := PySem.W.mg_of X G a_blended_run
  f_blended_row := fun_mk (st := st_blended_row) l_blended_row e_blended_row k_blended_row
  b_blended_row := (fun_mk (st := st_blended_row) l_blended_row e_blended_row k_blended_row).binds (ps := ps_blended_row) fun _ _ _ _ _ _ us hl => match us, hl with | [_, _, _], _ => rfl
  g_blended_row := PySem.W.mg_of X G a_blended_row
  f_row_below := fun_mk (st := st_row_below) l_row_below e_row_below k_row_below
  b_row_below := (fun_mk (st := st_row_below) l_row_below e_row_below k_row_below).binds (ps := ps_row_below) fun _ _ _ _ _ _ us hl => match us, hl with | [_], _ => rfl
  g_row_below := PySem.W.mg_of X G a_row_below
  f_Step_init := fun_mk (st := st_Step_init) l_Step_init e_Step_init k_Step_init
  b_Step_init := (fun_mk (st := st_Step_init) l_Step_init e_Step_init k_Step_init).binds (ps := ps_Step_init) fun _ _ _ _ _ _ us hl => match us, hl with | [_, _, _, _], _ => rfl
  f_Step_limits := fun_mk (st := st_Step_limits) l_Step_limits e_Step_limits k_Step_limits
  b_Step_limits := (fun_mk (st := st_Step_limits) l_Step_limits e_Step_limits k_Step_limits).binds (ps := ps_Step_limits) fun _ _ _ _ _ _ us hl => match us, hl with | [_, _, _], _ => rfl
  m_Step_limits := ⟨a_Step_limits, i_Step_limits, k_Step_limits⟩
  f_steps_across := fun_mk (st := st_steps_across) l_steps_across e_steps_across k_steps_across
  b_steps_across := (fun_mk (st := st_steps_across) l_steps_across e_steps_across k_steps_across).binds (ps := ps_steps_across) fun _ _ _ _ _ _ us hl => match us, hl with | [_, _, _], _ => rfl
  g_steps_across := PySem.W.mg_of X G a_steps_across
  f_steps_by_place_row := fun_mk (st := st_steps_by_place_row) l_steps_by_place_row e_steps_by_place_row k_steps_by_place_row
  b_steps_by_place_row := (fun_mk (st := st_steps_by_place_row) l_steps_by_place_row e_steps_by_place_row k_steps_by_place_row).binds (ps := ps_steps_by_place_row) fun _ _ _ _ _ _ us hl => match us, hl with | [_, _], _ => rfl
  g_steps_by_place_row := PySem.W.mg_of X G a_steps_by_place_row
  f_turns_of_place_row := fun_mk (st := st_turns_of_place_row) l_turns_of_place_row e_turns_of_place_row k_turns_of_place_row
  b_turns_of_place_row := (fun_mk (st := st_turns_of_place_row) l_turns_of_place_row e_turns_of_place_row k_turns_of_place_row).binds (ps := ps_turns_of_place_row) fun _ _ _ _ _ _ us hl => match us, hl with | [_, _, _, _], _ => rfl
  g_turns_of_place_row := PySem.W.mg_of X G a_turns_of_place_row
  f_spans_within := fun_mk (st := st_spans_within) l_spans_within e_spans_within k_spans_within
  b_spans_within := (fun_mk (st := st_spans_within) l_spans_within e_spans_within k_spans_within).binds (ps := ps_spans_within) fun _ _ _ _ _ _ us hl => match us, hl with | [_, _, _], _ => rfl
  g_spans_within := PySem.W.mg_of X G a_spans_within
  f_spans_of_place_row := fun_mk (st := st_spans_of_place_row) l_spans_of_place_row e_spans_of_place_row k_spans_of_place_row
  b_spans_of_place_row := (fun_mk (st := st_spans_of_place_row) l_spans_of_place_row e_spans_of_place_row k_spans_of_place_row).binds (ps := ps_spans_of_place_row) fun _ _ _ _ _ _ us hl => match us, hl with | [_, _, _, _, _], _ => rfl
  g_spans_of_place_row := PySem.W.mg_of X G a_spans_of_place_row
  f_add_columns := fun_mk (st := st_add_columns) l_add_columns e_add_columns k_add_columns
  b_add_columns := (fun_mk (st := st_add_columns) l_add_columns e_add_columns k_add_columns).binds (ps := ps_add_columns) fun _ _ _ _ _ _ us hl => match us, hl with | [_, _, _], _ => rfl
  g_add_columns := PySem.W.mg_of X G a_add_columns
  f_runs_of_place_row := fun_mk (st := st_runs_of_place_row) l_runs_of_place_row e_runs_of_place_row k_runs_of_place_row
  b_runs_of_place_row := (fun_mk (st := st_runs_of_place_row) l_runs_of_place_row e_runs_of_place_row k_runs_of_place_row).binds (ps := ps_runs_of_place_row) fun _ _ _ _ _ _ us hl => match us, hl with | [_, _, _, _], _ => rfl
  g_runs_of_place_row := PySem.W.mg_of X G a_runs_of_place_row
  f_samples_within := fun_mk (st := st_samples_within) l_samples_within e_samples_within k_samples_within
  b_samples_within := (fun_mk (st := st_samples_within) l_samples_within e_samples_within k_samples_within).binds (ps := ps_samples_within) fun _ _ _ _ _ _ us hl => match us, hl with | [_, _, _, _], _ => rfl
  g_samples_within := PySem.W.mg_of X G a_samples_within
  f_curve_coordinate := fun_mk (st := st_curve_coordinate) l_curve_coordinate e_curve_coordinate k_curve_coordinate
  b_curve_coordinate := (fun_mk (st := st_curve_coordinate) l_curve_coordinate e_curve_coordinate k_curve_coordinate).binds (ps := ps_curve_coordinate) fun _ _ _ _ _ _ us hl => match us, hl with | [_, _, _, _], _ => rfl
  g_curve_coordinate := PySem.W.mg_of X G a_curve_coordinate
  f_curve_points := fun_mk (st := st_curve_points) l_curve_points e_curve_points k_curve_points
  b_curve_points := (fun_mk (st := st_curve_points) l_curve_points e_curve_points k_curve_points).binds (ps := ps_curve_points) fun _ _ _ _ _ _ us hl => match us, hl with | [_, _, _], _ => rfl
  g_curve_points := PySem.W.mg_of X G a_curve_points
  f_Outline_init := fun_mk (st := st_Outline_init) l_Outline_init e_Outline_init k_Outline_init
  b_Outline_init := (fun_mk (st := st_Outline_init) l_Outline_init e_Outline_init k_Outline_init).binds (ps := ps_Outline_init) fun _ _ _ _ _ _ us hl => match us, hl with | [_], _ => rfl
  f_Outline_has_room := fun_mk (st := st_Outline_has_room) l_Outline_has_room e_Outline_has_room k_Outline_has_room
  b_Outline_has_room := (fun_mk (st := st_Outline_has_room) l_Outline_has_room e_Outline_has_room k_Outline_has_room).binds (ps := ps_Outline_has_room) fun _ _ _ _ _ _ us hl => match us, hl with | [_, _], _ => rfl
  m_Outline_has_room := ⟨a_Outline_has_room, i_Outline_has_room, k_Outline_has_room⟩
  f_Outline_can_lead_on := fun_mk (st := st_Outline_can_lead_on) l_Outline_can_lead_on e_Outline_can_lead_on k_Outline_can_lead_on
  b_Outline_can_lead_on := (fun_mk (st := st_Outline_can_lead_on) l_Outline_can_lead_on e_Outline_can_lead_on k_Outline_can_lead_on).binds (ps := ps_Outline_can_lead_on) fun _ _ _ _ _ _ us hl => match us, hl with | [_, _], _ => rfl
  m_Outline_can_lead_on := ⟨a_Outline_can_lead_on, i_Outline_can_lead_on, k_Outline_can_lead_on⟩
  f_Outline_last_point := fun_mk (st := st_Outline_last_point) l_Outline_last_point e_Outline_last_point k_Outline_last_point
  b_Outline_last_point := (fun_mk (st := st_Outline_last_point) l_Outline_last_point e_Outline_last_point k_Outline_last_point).binds (ps := ps_Outline_last_point) fun _ _ _ _ _ _ us hl => match us, hl with | [_], _ => rfl
  m_Outline_last_point := ⟨a_Outline_last_point, i_Outline_last_point, k_Outline_last_point⟩
  f_Outline_begin_ring := fun_mk (st := st_Outline_begin_ring) l_Outline_begin_ring e_Outline_begin_ring k_Outline_begin_ring
  b_Outline_begin_ring := (fun_mk (st := st_Outline_begin_ring) l_Outline_begin_ring e_Outline_begin_ring k_Outline_begin_ring).binds (ps := ps_Outline_begin_ring) fun _ _ _ _ _ _ us hl => match us, hl with | [_, _], _ => rfl
  m_Outline_begin_ring := ⟨a_Outline_begin_ring, i_Outline_begin_ring, k_Outline_begin_ring⟩
  f_Outline_lead_on := fun_mk (st := st_Outline_lead_on) l_Outline_lead_on e_Outline_lead_on k_Outline_lead_on
  b_Outline_lead_on := (fun_mk (st := st_Outline_lead_on) l_Outline_lead_on e_Outline_lead_on k_Outline_lead_on).binds (ps := ps_Outline_lead_on) fun _ _ _ _ _ _ us hl => match us, hl with | [_, _], _ => rfl
  m_Outline_lead_on := ⟨a_Outline_lead_on, i_Outline_lead_on, k_Outline_lead_on⟩
  f_Outline_points := fun_mk (st := st_Outline_points) l_Outline_points e_Outline_points k_Outline_points
  b_Outline_points := (fun_mk (st := st_Outline_points) l_Outline_points e_Outline_points k_Outline_points).binds (ps := ps_Outline_points) fun _ _ _ _ _ _ us hl => match us, hl with | [_], _ => rfl
  m_Outline_points := ⟨a_Outline_points, i_Outline_points, k_Outline_points⟩
  f_Outline_lines := fun_mk (st := st_Outline_lines) l_Outline_lines e_Outline_lines k_Outline_lines
  b_Outline_lines := (fun_mk (st := st_Outline_lines) l_Outline_lines e_Outline_lines k_Outline_lines).binds (ps := ps_Outline_lines) fun _ _ _ _ _ _ us hl => match us, hl with | [_], _ => rfl
  m_Outline_lines := ⟨a_Outline_lines, i_Outline_lines, k_Outline_lines⟩
  f_is_side := fun_mk (st := st_is_side) l_is_side e_is_side k_is_side
  b_is_side := (fun_mk (st := st_is_side) l_is_side e_is_side k_is_side).binds (ps := ps_is_side) fun _ _ _ _ _ _ us hl => match us, hl with | [_], _ => rfl
  g_is_side := PySem.W.mg_of X G a_is_side
  f_is_colour := fun_mk (st := st_is_colour) l_is_colour e_is_colour k_is_colour
  b_is_colour := (fun_mk (st := st_is_colour) l_is_colour e_is_colour k_is_colour).binds (ps := ps_is_colour) fun _ _ _ _ _ _ us hl => match us, hl with | [_], _ => rfl
  g_is_colour := PySem.W.mg_of X G a_is_colour
  f_is_rule := fun_mk (st := st_is_rule) l_is_rule e_is_rule k_is_rule
  b_is_rule := (fun_mk (st := st_is_rule) l_is_rule e_is_rule k_is_rule).binds (ps := ps_is_rule) fun _ _ _ _ _ _ us hl => match us, hl with | [_], _ => rfl
  g_is_rule := PySem.W.mg_of X G a_is_rule
  f_are_coordinates := fun_mk (st := st_are_coordinates) l_are_coordinates e_are_coordinates k_are_coordinates
  b_are_coordinates := (fun_mk (st := st_are_coordinates) l_are_coordinates e_are_coordinates k_are_coordinates).binds (ps := ps_are_coordinates) fun _ _ _ _ _ _ us hl => match us, hl with | [_], _ => rfl
  g_are_coordinates := PySem.W.mg_of X G a_are_coordinates
  f_Picture_init := fun_mk (st := st_Picture_init) l_Picture_init e_Picture_init k_Picture_init
  b_Picture_init := (fun_mk (st := st_Picture_init) l_Picture_init e_Picture_init k_Picture_init).binds (ps := ps_Picture_init) fun _ _ _ _ _ _ us hl => match us, hl with | [_], _ => rfl
  f_Picture_begin := fun_mk (st := st_Picture_begin) l_Picture_begin e_Picture_begin k_Picture_begin
  b_Picture_begin := (fun_mk (st := st_Picture_begin) l_Picture_begin e_Picture_begin k_Picture_begin).binds (ps := ps_Picture_begin) fun _ _ _ _ _ _ us hl => match us, hl with | [_, _, _], _ => rfl
  m_Picture_begin := ⟨a_Picture_begin, i_Picture_begin, k_Picture_begin⟩
  f_Picture_holds_box := fun_mk (st := st_Picture_holds_box) l_Picture_holds_box e_Picture_holds_box k_Picture_holds_box
  b_Picture_holds_box := (fun_mk (st := st_Picture_holds_box) l_Picture_holds_box e_Picture_holds_box k_Picture_holds_box).binds (ps := ps_Picture_holds_box) fun _ _ _ _ _ _ us hl => match us, hl with | [_, _, _, _, _], _ => rfl
  m_Picture_holds_box := ⟨a_Picture_holds_box, i_Picture_holds_box, k_Picture_holds_box⟩
  f_Picture_paint := fun_mk (st := st_Picture_paint) l_Picture_paint e_Picture_paint k_Picture_paint
  b_Picture_paint := (fun_mk (st := st_Picture_paint) l_Picture_paint e_Picture_paint k_Picture_paint).binds (ps := ps_Picture_paint) fun _ _ _ _ _ _ us hl => match us, hl with | [_, _, _, _, _, _], _ => rfl
  m_Picture_paint := ⟨a_Picture_paint, i_Picture_paint, k_Picture_paint⟩
  f_Picture_move := fun_mk (st := st_Picture_move) l_Picture_move e_Picture_move k_Picture_move
  b_Picture_move := (fun_mk (st := st_Picture_move) l_Picture_move e_Picture_move k_Picture_move).binds (ps := ps_Picture_move) fun _ _ _ _ _ _ us hl => match us, hl with | [_, _, _], _ => rfl
  m_Picture_move := ⟨a_Picture_move, i_Picture_move, k_Picture_move⟩
  f_Picture_line := fun_mk (st := st_Picture_line) l_Picture_line e_Picture_line k_Picture_line
  b_Picture_line := (fun_mk (st := st_Picture_line) l_Picture_line e_Picture_line k_Picture_line).binds (ps := ps_Picture_line) fun _ _ _ _ _ _ us hl => match us, hl with | [_, _, _], _ => rfl
  m_Picture_line := ⟨a_Picture_line, i_Picture_line, k_Picture_line⟩
  f_Picture_curve := fun_mk (st := st_Picture_curve) l_Picture_curve e_Picture_curve k_Picture_curve
  b_Picture_curve := (fun_mk (st := st_Picture_curve) l_Picture_curve e_Picture_curve k_Picture_curve).binds (ps := ps_Picture_curve) fun _ _ _ _ _ _ us hl => match us, hl with | [_, _, _, _, _], _ => rfl
  m_Picture_curve := ⟨a_Picture_curve, i_Picture_curve, k_Picture_curve⟩
  f_Picture_fill := fun_mk (st := st_Picture_fill) l_Picture_fill e_Picture_fill k_Picture_fill
  b_Picture_fill := (fun_mk (st := st_Picture_fill) l_Picture_fill e_Picture_fill k_Picture_fill).binds (ps := ps_Picture_fill) fun _ _ _ _ _ _ us hl => match us, hl with | [_, _, _], _ => rfl
  m_Picture_fill := ⟨a_Picture_fill, i_Picture_fill, k_Picture_fill⟩
  f_Picture_within := fun_mk (st := st_Picture_within) l_Picture_within e_Picture_within k_Picture_within
  b_Picture_within := (fun_mk (st := st_Picture_within) l_Picture_within e_Picture_within k_Picture_within).binds (ps := ps_Picture_within) fun _ _ _ _ _ _ us hl => match us, hl with | [_, _, _, _], _ => rfl
  m_Picture_within := ⟨a_Picture_within, i_Picture_within, k_Picture_within⟩
  f_Picture_row := fun_mk (st := st_Picture_row) l_Picture_row e_Picture_row k_Picture_row
  b_Picture_row := (fun_mk (st := st_Picture_row) l_Picture_row e_Picture_row k_Picture_row).binds (ps := ps_Picture_row) fun _ _ _ _ _ _ us hl => match us, hl with | [_, _], _ => rfl
  m_Picture_row := ⟨a_Picture_row, i_Picture_row, k_Picture_row⟩
  f_Picture_box := fun_mk (st := st_Picture_box) l_Picture_box e_Picture_box k_Picture_box
  b_Picture_box := (fun_mk (st := st_Picture_box) l_Picture_box e_Picture_box k_Picture_box).binds (ps := ps_Picture_box) fun _ _ _ _ _ _ us hl => match us, hl with | [_], _ => rfl
  m_Picture_box := ⟨a_Picture_box, i_Picture_box, k_Picture_box⟩
  f_answer_call := fun_mk (st := st_answer_call) l_answer_call e_answer_call k_answer_call
  b_answer_call := (fun_mk (st := st_answer_call) l_answer_call e_answer_call k_answer_call).binds (ps := ps_answer_call) fun _ _ _ _ _ _ us hl => match us, hl with | [_, _, _], _ => rfl
  g_answer_call := PySem.W.mg_of X G a_answer_call
  f_answers := fun_mk (st := st_answers) l_answers e_answers k_answers
  b_answers := (fun_mk (st := st_answers) l_answers e_answers k_answers).binds (ps := ps_answers) fun _ _ _ _ _ _ us hl => match us, hl with | [_], _ => rfl
  g_answers := PySem.W.mg_of X G a_answers
  bd_answers := fun s us hu => match us, hu with | [_], _ => .of_eq rfl
  cl_Step := ⟨pg_Step, hd_Step, po_Step, sa_Step⟩
  g_Step := PySem.W.mg_of X G aC_Step
  mk_Step := ⟨mk_Step, a_Step_init, i_Step_init, kc_Step⟩
  n_Step_first := n_Step_first
  n_Step_end := n_Step_end
  n_Step_turn := n_Step_turn
  n_Step_scale := n_Step_scale
  n_Step_slope := n_Step_slope
  n_Step_base := n_Step_base
  cl_Outline := ⟨pg_Outline, hd_Outline, po_Outline, sa_Outline⟩
  g_Outline := PySem.W.mg_of X G aC_Outline
  mk_Outline := ⟨mk_Outline, a_Outline_init, i_Outline_init, kc_Outline⟩
  n_Outline_rings := n_Outline_rings
  n_Outline_point_count := n_Outline_point_count
  cl_Picture := ⟨pg_Picture, hd_Picture, po_Picture, sa_Picture⟩
  g_Picture := PySem.W.mg_of X G aC_Picture
  mk_Picture := ⟨mk_Picture, a_Picture_init, i_Picture_init, kc_Picture⟩
  n_Picture_width := n_Picture_width
  n_Picture_height := n_Picture_height
  n_Picture_rows := n_Picture_rows
  n_Picture_outline := n_Picture_outline
  k_ALL_SAMPLES := ⟨_, PySem.W.mg_of X G c_ALL_SAMPLES⟩
  k_SAMPLES := ⟨_, PySem.W.mg_of X G c_SAMPLES⟩
  k_MOST_POINTS := ⟨_, PySem.W.mg_of X G c_MOST_POINTS⟩
  k_CURVE_STEPS := ⟨_, PySem.W.mg_of X G c_CURVE_STEPS⟩
  k_OUT_OF_RANGE := ⟨_, PySem.W.mg_of X G c_OUT_OF_RANGE⟩
  k_REFUSED := ⟨_, PySem.W.mg_of X G c_REFUSED⟩
  k_LARGEST_SIDE := ⟨_, PySem.W.mg_of X G c_LARGEST_SIDE⟩
  k_FARTHEST := ⟨_, PySem.W.mg_of X G c_FARTHEST⟩
  k_LARGEST_COLOUR := ⟨_, PySem.W.mg_of X G c_LARGEST_COLOUR⟩
  k_OPEN_CALL := ⟨_, PySem.W.mg_of X G c_OPEN_CALL⟩
  k_COLOUR_CALL := ⟨_, PySem.W.mg_of X G c_COLOUR_CALL⟩
  k_MOVE_CALL := ⟨_, PySem.W.mg_of X G c_MOVE_CALL⟩
  k_LINE_CALL := ⟨_, PySem.W.mg_of X G c_LINE_CALL⟩
  k_CURVE_CALL := ⟨_, PySem.W.mg_of X G c_CURVE_CALL⟩
  k_FILL_CALL := ⟨_, PySem.W.mg_of X G c_FILL_CALL⟩
  k_WITHIN_CALL := ⟨_, PySem.W.mg_of X G c_WITHIN_CALL⟩
  k_ROW_CALL := ⟨_, PySem.W.mg_of X G c_ROW_CALL⟩
  gt_PART_SHIFTS := PySem.W.mg_of X G c_PART_SHIFTS
  t_PART_SHIFTS := fun H => .inr ⟨_, _, _, l_PART_SHIFTS, rfl, rfl, (show 4 ≤ sizeLine by decide), .cons ⟨_, rfl⟩ (.cons ⟨_, rfl⟩ (.cons ⟨_, rfl⟩ (.cons ⟨_, rfl⟩ (.nil))))⟩
  gt_TELLING_BITS := PySem.W.mg_of X G c_TELLING_BITS
  t_TELLING_BITS := fun H => .inr ⟨_, _, _, l_TELLING_BITS, rfl, rfl, (show 2 ≤ sizeLine by decide), .cons ⟨_, rfl⟩ (.cons ⟨_, rfl⟩ (.nil))⟩
  gt_ARGUMENT_COUNTS := PySem.W.mg_of X G c_ARGUMENT_COUNTS
  t_ARGUMENT_COUNTS := fun H => .inr ⟨_, _, _, l_ARGUMENT_COUNTS, rfl, rfl, (show 10 ≤ sizeLine by decide), .cons ⟨_, rfl⟩ (.cons ⟨_, rfl⟩ (.cons ⟨_, rfl⟩ (.cons ⟨_, rfl⟩ (.cons ⟨_, rfl⟩ (.cons ⟨_, rfl⟩ (.cons ⟨_, rfl⟩ (.cons ⟨_, rfl⟩ (.cons ⟨_, rfl⟩ (.cons ⟨_, rfl⟩ (.nil))))))))))⟩
  z_range := PySem.W.mg_none_of X G z_range
  z_len := PySem.W.mg_none_of X G z_len
  z_all := PySem.W.mg_none_of X G z_all
  z_sorted := PySem.W.mg_none_of X G z_sorted
  z_min := PySem.W.mg_none_of X G z_min
  z_max := PySem.W.mg_none_of X G z_max
  z_sum := PySem.W.mg_none_of X G z_sum
  z_enumerate := PySem.W.mg_none_of X G z_enumerate
  z_zip := PySem.W.mg_none_of X G z_zip
  z_list := PySem.W.mg_none_of X G z_list
  }⟩
end Of
set_option Elab.async false
set_option linter.all false
set_option maxRecDepth 100000
set_option maxHeartbeats 2000000
namespace Of
open PySem PySem.Spec PyProof.Rows L2
/-! ### readings in short -/
theorem pe_gint {X : Cx} {x : Str} {i : Int} (hm : ∃ t, X.mg x = some (.int i t)) {pos : Pos} (hg : Gl X x := by rfl) (hd : (x == ("__debug__" : Str)) = false := by decide) : PE X (.Name x pos) (tC (.int i)) := by
  obtain ⟨t, hm⟩ := hm
  exact pe_glob hg hm ⟨_, rfl⟩ hd
theorem ix_tupK {X : Cx} (K : PySem.W.Frag) (h : X.K = K := by rfl) : IxR X (rIxT K) := h ▸ ix_tup
theorem ix_listK {X : Cx} (K : PySem.W.Frag) (h : X.K = K := by rfl) : IxR X (rIxL K) := h ▸ ix_list
abbrev oLe : R2 := rI0 fun i j => .bl (decide (i ≤ j))
/-- lo <= x <= hi -/
theorem chain_le {ta tb tc : TE} {σ : L2.St} {H : Hp} {Q : VK} {i j k : Int} (ha : ∀ R : VK, R (.int i) H → ta σ H R) (hb : ∀ R : VK, R (.int j) H → tb σ H R) (hc : ∀ R : VK, R (.int k) H → tc σ H R)
    (h : Q (.bl (decide (i ≤ j) && decide (j ≤ k))) H) : tChain oLe oLe ta tb tc σ H Q := by
  refine ha _ (hb _ ⟨i, j, rfl, rfl, _, rfl, ?_⟩)
  by_cases e : i ≤ j
  · rw [if_pos (decide_eq_true e)]
    refine hc _ ⟨j, k, rfl, rfl, ?_⟩
    rw [decide_eq_true e, Bool.true_and] at h
    exact h
  · rw [if_neg (by rw [decide_eq_false e]; exact Bool.false_ne_true)]
    rw [decide_eq_false e, Bool.false_and] at h
    exact h
/-- a name's value -/
theorem rd_var {σ : L2.St} {H : Hp} {n : Nat} {v : V} (e : σ[n]? = some (some v)) : ∀ R : VK, R v H → tVar n σ H R := fun _ r => ⟨v, e, r⟩
theorem rd_c {σ : L2.St} {H : Hp} {v : V} : ∀ R : VK, R v H → tC v σ H R := fun _ r => r
/-- attributes by a written list -/
theorem lk_hd {k : Str} {v : V} {r : List (Str × V)} : List.lookup k ((k, v) :: r) = some v := by simp
theorem lk_tl {k k' : Str} {v : V} {r : List (Str × V)} {o : Option V} (h : (k == k') = false) (q : List.lookup k r = o) : List.lookup k ((k', v) :: r) = o := by
  rw [List.lookup_cons, h]
  exact q
theorem lk_nil {k : Str} : List.lookup k ([] : List (Str × V)) = none := rfl
theorem pf_hd {k : Str} {v x : V} {r : List (Str × V)} : putF k v ((k, x) :: r) = (k, v) :: r := by
  show (if k = k then (k, v) :: r else _) = _
  rw [if_pos rfl]
theorem pf_tl {k k' : Str} {v x : V} {r r' : List (Str × V)} (h : ¬ k' = k) (q : putF k v r = r') : putF k v ((k', x) :: r) = (k', x) :: r' := by
  show (if k' = k then _ else (k', x) :: putF k v r) = _
  rw [if_neg h, q]
theorem pf_nil {k : Str} {v : V} : putF k v [] = [(k, v)] := rfl
/-! ### the rest of a text as a letter: it is told once, and not again in each step of a reading -/
theorem seq_abs {t u : TS} {D : Ends} {σ : L2.St} {H : Hp} (h : ∀ N : L2.St → Hp → Prop, (∀ σ' H', u D σ' H' → N σ' H') → t { D with nx := N } σ H) : tSeq t u D σ H := h _ fun _ _ x => x
theorem nx_abs {t : TS} {D : Ends} {σ : L2.St} {H : Hp} (h : ∀ D' : Ends, (∀ σ' H', D.nx σ' H' → D'.nx σ' H') → t D' σ H) : t D σ H := h D fun _ _ x => x
/-! ### who owns what -/
inductive Role | pic | out | rows | row | rings | ring (j : Nat)
  deriving DecidableEq
abbrev Lab := Addr → Option Role
def isMut : HO → Prop
  | .lst _ => True
  | .ins _ _ _ => True
  | _ => False
/-- what is labelled is a list or an instance -/
def LabOk (H : Hp) (own : Lab) : Prop := ∀ b r, own b = some r → ∃ o, H b = some o ∧ isMut o
/-- a step that changes what bears a label of S, and lays new things -/
structure Stp (S : Role → Prop) (H : Hp) (own : Lab) (H' : Hp) (own' : Lab) : Prop where
  kp : ∀ b o, H b = some o → (∀ r, own b = some r → ¬ S r) → H' b = some o
  ex : ∀ b, own' b = own b ∨ (H b = none ∧ ∀ r, own' b = some r → S r)
  ok : LabOk H' own'
theorem LabOk.free {H : Hp} {own : Lab} (h : LabOk H own) {b : Addr} (e : H b = none) : own b = none := by
  cases q : own b with
  | none => rfl
  | some r =>
    obtain ⟨o, z, _⟩ := h b r q
    rw [e] at z
    cases z
theorem LabOk.not {H : Hp} {own : Lab} (h : LabOk H own) {b : Addr} {o : HO} (e : H b = some o) (m : ¬ isMut o) : own b = none := by
  cases q : own b with
  | none => rfl
  | some r =>
    obtain ⟨o', z, z'⟩ := h b r q
    rw [e] at z
    cases z
    exact absurd z' m
theorem Stp.lab {S : Role → Prop} {H H' : Hp} {own own' : Lab} (s : Stp S H own H' own') {b : Addr} {r : Role} (e : own b = some r) (h : LabOk H own) : own' b = some r := by
  rcases s.ex b with q | ⟨q, _⟩
  · rw [q, e]
  · obtain ⟨o, z, _⟩ := h b r e
    rw [q] at z
    cases z
theorem Stp.none {S : Role → Prop} {H H' : Hp} {own own' : Lab} (s : Stp S H own H' own') {b : Addr} {o : HO} (e : H b = some o) (n : own b = Option.none) : own' b = Option.none := by
  rcases s.ex b with q | ⟨q, _⟩
  · rw [q, n]
  · rw [q] at e
    cases e
/-- what bears no label stays -/
theorem Stp.un {S : Role → Prop} {H H' : Hp} {own own' : Lab} (s : Stp S H own H' own') {b : Addr} {o : HO} (e : H b = some o) (n : own b = Option.none) : H' b = some o := s.kp b o e fun r q => by rw [n] at q; cases q
theorem Stp.oth {S : Role → Prop} {H H' : Hp} {own own' : Lab} (s : Stp S H own H' own') {b : Addr} {o : HO} {r : Role} (e : H b = some o) (n : own b = some r) (h : ¬ S r) : H' b = some o := s.kp b o e fun r' q => by rw [n] at q; cases q; exact h
theorem Stp.nonmut {S : Role → Prop} {H H' : Hp} {own own' : Lab} (s : Stp S H own H' own') (h : LabOk H own) {b : Addr} {o : HO} (e : H b = some o) (m : ¬ isMut o) : H' b = some o := s.un e (h.not e m)
theorem Stp.tup {S : Role → Prop} {H H' : Hp} {own own' : Lab} (s : Stp S H own H' own') (h : LabOk H own) : ∀ b xs, H b = some (.tup xs) → H' b = some (.tup xs) := fun b xs e => s.nonmut h e (fun z => z)
theorem Stp.mono {S S' : Role → Prop} {H H' : Hp} {own own' : Lab} (s : Stp S H own H' own') (h : ∀ r, S r → S' r) : Stp S' H own H' own' :=
  ⟨fun b o e n => s.kp b o e fun r q z => n r q (h r z), fun b => (s.ex b).imp id fun ⟨a, c⟩ => ⟨a, fun r q => h r (c r q)⟩, s.ok⟩
theorem same_lab {H H' : Hp} {own : Lab} (s : Same H H') (h : LabOk H own) : LabOk H' own := fun b r e => by
  obtain ⟨o, z, m⟩ := h b r e
  exact ⟨o, s b o z, m⟩
/-- nothing that was there has changed -/
theorem Stp.same {S : Role → Prop} {H H' : Hp} {own : Lab} (s : Same H H') (h : LabOk H own) : Stp S H own H' own := ⟨fun b o e _ => s b o e, fun _ => .inl rfl, same_lab s h⟩
theorem Stp.refl {S : Role → Prop} {H : Hp} {own : Lab} (h : LabOk H own) : Stp S H own H own := .same (Same.refl H) h
theorem Stp.trans {S : Role → Prop} {H H1 H2 : Hp} {own own1 own2 : Lab} (h : LabOk H own) (a : Stp S H own H1 own1) (b : Stp S H1 own1 H2 own2) : Stp S H own H2 own2 where
  kp := fun c o e n => b.kp c o (a.kp c o e n) fun r q => by
    rcases a.ex c with z | ⟨z, _⟩
    · exact n r (by rw [← z]; exact q)
    · rw [e] at z
      cases z
  ex := fun c => by
    rcases b.ex c with z | ⟨z, k⟩
    · rcases a.ex c with y | ⟨y, k⟩
      · exact .inl (z.trans y)
      · exact .inr ⟨y, fun r q => k r (by rw [← z]; exact q)⟩
    · refine .inr ⟨?_, k⟩
      cases q : H c with
      | none => rfl
      | some o =>
        exfalso
        by_cases hl : ∃ r, own c = some r ∧ S r
        · obtain ⟨r, e, _⟩ := hl
          obtain ⟨o', y, _⟩ := a.ok c r (a.lab e h)
          rw [z] at y
          cases y
        · have y := a.kp c o q fun r e s => hl ⟨r, e, s⟩
          rw [z] at y
          cases y
  ok := b.ok
/-- a new thing is laid -/
theorem same_new {H : Hp} {a : Addr} {o : HO} (n : H a = none) : Same H (upd H a o) := fun b u e => by
  rw [upd_ne (ne_of_none e n)]
  exact e
/-- a labelled thing is changed -/
theorem Stp.put {S : Role → Prop} {H : Hp} {own : Lab} {a : Addr} {o : HO} {r : Role} (h : LabOk H own) (e : own a = some r) (s : S r) (m : isMut o) : Stp S H own (upd H a o) own where
  kp := fun b u q n => by
    have ne : b ≠ a := fun z => by
      subst z
      exact n r e s
    rw [upd_ne ne]
    exact q
  ex := fun _ => .inl rfl
  ok := fun b r' q => by
    by_cases z : b = a
    · subst z
      exact ⟨o, upd_same, m⟩
    · obtain ⟨u, y, k⟩ := h b r' q
      exact ⟨u, by rw [upd_ne z]; exact y, k⟩
/-- a label for a thing -/
def lay (own : Lab) (a : Addr) (r : Role) : Lab := fun b => if b = a then some r else own b
theorem lay_same {own : Lab} {a : Addr} {r : Role} : lay own a r a = some r := by unfold lay; rw [if_pos rfl]
theorem lay_ne {own : Lab} {a b : Addr} {r : Role} (h : b ≠ a) : lay own a r b = own b := by unfold lay; rw [if_neg h]
/-- a thing that was not there at H gets its label -/
theorem Stp.name {S : Role → Prop} {H H' : Hp} {own own' : Lab} {a : Addr} {o : HO} {r : Role} (st : Stp S H own H' own') (n : H a = Option.none) (e : H' a = some o) (s : S r) (m : isMut o) : Stp S H own H' (lay own' a r) where
  kp := st.kp
  ex := fun b => by
    by_cases z : b = a
    · subst z
      exact .inr ⟨n, fun r' q => by rw [lay_same] at q; cases q; exact s⟩
    · rw [lay_ne z]
      exact st.ex b
  ok := fun b r' q => by
    by_cases z : b = a
    · subst z
      exact ⟨o, e, m⟩
    · rw [lay_ne z] at q
      exact st.ok b r' q
theorem lab_ne {own : Lab} {a b : Addr} {r r' : Role} (h : own a = some r) (h' : own b = some r') (d : r ≠ r') : a ≠ b := fun e => by
  subst e
  rw [h] at h'
  exact d (Option.some.inj h')
theorem lab_none {own : Lab} {a b : Addr} {r : Role} (h : own a = some r) (h' : own b = none) : a ≠ b := fun e => by
  subst e
  rw [h] at h'
  cases h'
/-! ### points on the heap -/
def PtAt (H : Hp) (t : Addr) (p : Sw24.P) : Prop := H t = some (.tup [.int p.x, .int p.y])
abbrev PtsAt (H : Hp) : List Addr → List Sw24.P → Prop := Paired (PtAt H)
theorem paired_snoc {α β : Type} {F : α → β → Prop} {a : α} {b : β} : ∀ {l : List α} {m : List β}, Paired F l m → F a b → Paired F (l ++ [a]) (m ++ [b])
  | _, _, .nil, last => .cons last .nil
  | _, _, .cons r t, h => .cons r (paired_snoc t h)
theorem paired_app {α β : Type} {F : α → β → Prop} : ∀ {l l' : List α} {m m' : List β}, Paired F l m → Paired F l' m' → Paired F (l ++ l') (m ++ m')
  | _, _, _, _, .nil, h => h
  | _, _, _, _, .cons r t, h => .cons r (paired_app t h)
theorem paired_get {α β : Type} {F : α → β → Prop} : ∀ {l : List α} {m : List β} {i : Nat} {b : β}, Paired F l m → m[i]? = some b → ∃ a, l[i]? = some a ∧ F a b
  | _, _, _, _, .nil, h => by simp at h
  | _, _, 0, _, .cons r _, h => by
    have e := Option.some.inj h
    subst e
    exact ⟨_, rfl, r⟩
  | _, _, i + 1, _, .cons _ t, h => paired_get (i := i) t h
theorem PtsAt.same {H H' : Hp} {ts : List Addr} {ps : List Sw24.P} (s : ∀ t xs, H t = some (.tup xs) → H' t = some (.tup xs)) (h : PtsAt H ts ps) : PtsAt H' ts ps := Paired.mapP h fun t p e => s t _ e
end Of
set_option linter.all false
namespace Of
/-! ### rows and places -/
/-- row by row, with the row's number from y on -/
def rowsF {α β : Type} (f : α → Nat → Nat → β) : List (List α) → Nat → List (List β)
  | [], _ => []
  | r :: l, y => ((r.zip (List.range r.length)).map fun c => f c.1 c.2 y) :: rowsF f l (y + 1)
theorem grid_at {α β : Type} (f : α → Nat → Nat → β) (w : Nat) : ∀ (l : List (List α)) (y : Nat), (∀ r ∈ l, r.length = w) →
    (l.flatten.zip ((List.range' y l.length).flatMap fun y => (List.range w).map fun x => (x, y))).map (fun c => f c.1 c.2.1 c.2.2) = (rowsF f l y).flatten
  | [], y, _ => rfl
  | r :: l, y, h => by
    have hr : r.length = w := h r (by simp)
    have ih := grid_at f w l (y + 1) fun x hx => h x (by simp [hx])
    show (((r ++ l.flatten).zip ((List.range' y (l.length + 1)).flatMap fun y => (List.range w).map fun x => (x, y))).map (fun c => f c.1 c.2.1 c.2.2)) = _
    rw [List.range'_succ, List.flatMap_cons, List.zip_append (by rw [List.length_map, List.length_range, hr]), List.map_append, ih]
    show _ = ((r.zip (List.range r.length)).map fun c => f c.1 c.2 y) ++ (rowsF f l (y + 1)).flatten
    congr 1
    rw [List.zip_map_right, List.map_map, hr]
    rfl
theorem grid {α β : Type} (f : α → Nat → Nat → β) (l : List (List α)) {w h : Nat} (hw : ∀ r ∈ l, r.length = w) (hh : l.length = h) :
    (l.flatten.zip ((List.range h).flatMap fun y => (List.range w).map fun x => (x, y))).map (fun c => f c.1 c.2.1 c.2.2) = (rowsF f l 0).flatten := by
  subst hh
  rw [show List.range l.length = List.range' 0 l.length from List.range_eq_range']
  exact grid_at f w l 0 hw
theorem rowsF_len {α β : Type} (f : α → Nat → Nat → β) : ∀ (l : List (List α)) (y : Nat), (rowsF f l y).length = l.length
  | [], _ => rfl
  | r :: l, y => by
    show (rowsF f l (y + 1)).length + 1 = l.length + 1
    rw [rowsF_len f l]
theorem rowsF_get {α β : Type} (f : α → Nat → Nat → β) : ∀ (l : List (List α)) (y j : Nat), (rowsF f l y)[j]? = (l[j]?).map fun r => (r.zip (List.range r.length)).map fun c => f c.1 c.2 (y + j)
  | [], _, _ => rfl
  | r :: l, y, 0 => rfl
  | r :: l, y, j + 1 => by
    show (rowsF f l (y + 1))[j]? = (l[j]?).map _
    rw [rowsF_get f l (y + 1) j, show y + 1 + j = y + (j + 1) by omega]
/-- a row with its places -/
theorem row_get {α β : Type} (f : α → Nat → β) (r : List α) (i : Nat) : ((r.zip (List.range r.length)).map fun c => f c.1 c.2)[i]? = (r[i]?).map fun a => f a i := by
  rw [List.getElem?_map, List.zip_eq_zipWith, List.getElem?_zipWith]
  by_cases h : i < r.length
  · rw [List.getElem?_eq_getElem h, List.getElem?_range h]
    rfl
  · rw [List.getElem?_eq_none (by omega)]
    rfl
/-! ### colour -/
def paintRow (x w c : Nat) (r : List Nat) : List Nat := r.take x ++ List.replicate w c ++ r.drop (x + w)
def painted (x y w c i : Nat) (rws : List (List Nat)) : List (List Nat) := rws.mapIdx fun j r => if y ≤ j ∧ j < y + i then paintRow x w c r else r
theorem painted_len {x y w c i : Nat} {rws : List (List Nat)} : (painted x y w c i rws).length = rws.length := by
  unfold painted
  rw [List.length_mapIdx]
theorem painted_get {x y w c i : Nat} {rws : List (List Nat)} (j : Nat) : (painted x y w c i rws)[j]? = (rws[j]?).map fun r => if y ≤ j ∧ j < y + i then paintRow x w c r else r := by
  unfold painted
  rw [List.getElem?_mapIdx]
theorem painted_0 {x y w c : Nat} {rws : List (List Nat)} : painted x y w c 0 rws = rws := by
  refine List.ext_getElem? fun j => ?_
  rw [painted_get]
  cases rws[j]? with
  | none => rfl
  | some r =>
    show some (if y ≤ j ∧ j < y + 0 then _ else r) = some r
    rw [if_neg (by omega)]
theorem painted_s {x y w c i : Nat} {rws : List (List Nat)} {r : List Nat} (h : rws[y + i]? = some r) : (painted x y w c i rws).set (y + i) (paintRow x w c r) = painted x y w c (i + 1) rws := by
  refine List.ext_getElem? fun j => ?_
  rw [List.getElem?_set, painted_get, painted_get, painted_len]
  by_cases e : y + i = j
  · subst e
    rw [if_pos rfl, if_pos (List.getElem?_eq_some_iff.mp h).1, h]
    show _ = some (if y ≤ y + i ∧ y + i < y + (i + 1) then _ else r)
    rw [if_pos (by omega)]
  · rw [if_neg e]
    cases rws[j]? with
    | none => rfl
    | some q =>
      show some (if _ then _ else _) = some (if _ then _ else _)
      by_cases h2 : y ≤ j ∧ j < y + i
      · rw [if_pos h2, if_pos (by omega)]
      · rw [if_neg h2, if_neg (by omega)]
theorem paint_row {x w c : Nat} {r : List Nat} (h : x + w ≤ r.length) : ((r.zip (List.range r.length)).map fun d => if x ≤ d.2 ∧ d.2 < x + w then c else d.1) = paintRow x w c r := by
  refine List.ext_getElem? fun i => ?_
  rw [row_get (fun a i => if x ≤ i ∧ i < x + w then c else a)]
  unfold paintRow
  rw [List.getElem?_append, List.length_append, List.length_take, List.length_replicate, Nat.min_eq_left (by omega)]
  by_cases h1 : i < x + w
  · rw [if_pos h1, List.getElem?_append, List.length_take, Nat.min_eq_left (by omega)]
    by_cases h2 : i < x
    · rw [if_pos h2, List.getElem?_take, if_pos h2]
      cases r[i]? with
      | none => rfl
      | some a =>
        show some (if _ then _ else _) = _
        rw [if_neg (by omega)]
    · rw [if_neg h2, List.getElem?_replicate, if_pos (by omega), List.getElem?_eq_getElem (by omega)]
      show some (if _ then _ else _) = _
      rw [if_pos (by omega)]
  · rw [if_neg h1, List.getElem?_drop, show x + w + (i - (x + w)) = i by omega]
    cases r[i]? with
    | none => rfl
    | some a =>
      show some (if _ then _ else _) = _
      rw [if_neg (by omega)]
theorem paint_not {c : Nat} {r : List Nat} {P : Nat → Prop} [DecidablePred P] (h : ∀ i, ¬ P i) : ((r.zip (List.range r.length)).map fun d => if P d.2 then c else d.1) = r := by
  refine List.ext_getElem? fun i => ?_
  rw [row_get (fun a i => if P i then c else a)]
  cases r[i]? with
  | none => rfl
  | some a =>
    show some (if _ then _ else _) = _
    rw [if_neg (h i)]
theorem coloured_rows {p : Sw24.Picture} {rws : List (List Nat)} {x y w h c : Nat} (e : p.colours = rws.flatten) (hh : rws.length = p.height) (hw : ∀ r ∈ rws, r.length = p.width) (hx : x + w ≤ p.width) :
    (Sw24.coloured p x y w h c).colours = (painted x y w c h rws).flatten := by
  show ((p.colours.zip (Sw24.places p)).map fun d => if x ≤ d.2.1 ∧ d.2.1 < x + w ∧ y ≤ d.2.2 ∧ d.2.2 < y + h then c else d.1) = _
  rw [e]
  have g := grid (fun (d x' y' : Nat) => if x ≤ x' ∧ x' < x + w ∧ y ≤ y' ∧ y' < y + h then c else d) rws hw hh
  unfold Sw24.places
  rw [g]
  congr 1
  refine List.ext_getElem? fun j => ?_
  rw [rowsF_get, painted_get]
  cases q : rws[j]? with
  | none => rfl
  | some r =>
    simp only [Option.map_some]
    have hr : r.length = p.width := hw r (List.mem_of_getElem? q)
    by_cases hj : y ≤ j ∧ j < y + h
    · rw [if_pos hj, ← paint_row (by rw [hr]; exact hx)]
      congr 1
      refine List.map_congr_left fun d _ => ?_
      rw [Nat.zero_add]
      by_cases z : x ≤ d.2 ∧ d.2 < x + w
      · rw [if_pos z, if_pos ⟨z.1, z.2, hj.1, hj.2⟩]
      · rw [if_neg z, if_neg fun y => z ⟨y.1, y.2.1⟩]
    · rw [if_neg hj]
      exact congrArg some (paint_not (P := fun i => x ≤ i ∧ i < x + w ∧ y ≤ 0 + j ∧ 0 + j < y + h) fun i z => hj ⟨by omega, by omega⟩)
end Of
set_option linter.all false
namespace Of
/-- how many numbers stand behind a call's number -/
def argN (p : Int) : Nat := if p = 1 then 2 else if p = 2 then 5 else if p = 3 then 2 else if p = 4 then 2 else if p = 5 then 4 else if p = 6 then 2 else if p = 7 then 3 else if p = 8 then 1 else 0
theorem shape_some {p : Int} {s : Nat × Nat} (h : PySw24.shape p = some s) : 1 ≤ p ∧ p ≤ 9 ∧ s = (argN p, 0) := by
  unfold PySw24.shape at h
  unfold argN
  by_cases h1 : p = 1
  · subst h1; simp at h; exact ⟨by decide, by decide, by simp [← h]⟩
  by_cases h2 : p = 2
  · subst h2; simp at h; exact ⟨by decide, by decide, by simp [← h]⟩
  by_cases h3 : p = 3
  · subst h3; simp at h; exact ⟨by decide, by decide, by simp [← h]⟩
  by_cases h4 : p = 4
  · subst h4; simp at h; exact ⟨by decide, by decide, by simp [← h]⟩
  by_cases h5 : p = 5
  · subst h5; simp at h; exact ⟨by decide, by decide, by simp [← h]⟩
  by_cases h6 : p = 6
  · subst h6; simp at h; exact ⟨by decide, by decide, by simp [← h]⟩
  by_cases h7 : p = 7
  · subst h7; simp at h; exact ⟨by decide, by decide, by simp [← h]⟩
  by_cases h8 : p = 8
  · subst h8; simp at h; exact ⟨by decide, by decide, by simp [← h]⟩
  by_cases h9 : p = 9
  · subst h9; simp at h; exact ⟨by decide, by decide, by simp [← h]⟩
  simp [h1, h2, h3, h4, h5, h6, h7, h8, h9] at h
/-- the calls of what is left, whatever the fuel -/
def Calls (l : List Int) (cs : List (List (List Int))) : Prop := ∃ f, PyFlat.calls PySw24.shape f l = some cs
theorem Calls.nil {cs : List (List (List Int))} (h : Calls [] cs) : cs = [] := by
  obtain ⟨f, h⟩ := h
  unfold PyFlat.calls at h
  exact (Option.some.inj h).symm
theorem Calls.cons {p : Int} {r : List Int} {cs : List (List (List Int))} (h : Calls (p :: r) cs) : 1 ≤ p ∧ p ≤ 9 ∧ argN p ≤ r.length ∧ ∃ cs', cs = [p :: r.take (argN p)] :: cs' ∧ Calls (r.drop (argN p)) cs' := by
  obtain ⟨f, h⟩ := h
  cases f with
  | zero => simp [PyFlat.calls] at h
  | succ f =>
    unfold PyFlat.calls at h
    cases hc : PyFlat.call PySw24.shape (p :: r) with
    | none => rw [hc] at h; simp at h
    | some ct =>
      obtain ⟨c, t⟩ := ct
      rw [hc] at h
      dsimp only at h
      cases hk : PyFlat.calls PySw24.shape f t with
      | none => rw [hk] at h; simp at h
      | some cs' =>
        rw [hk] at h
        dsimp only at h
        unfold PyFlat.call at hc
        dsimp only at hc
        cases hs : PySw24.shape p with
        | none => rw [hs] at hc; simp at hc
        | some s =>
          obtain ⟨p1, p2, e⟩ := shape_some hs
          subst e
          rw [hs] at hc
          dsimp only at hc
          by_cases hl : r.length < argN p
          · rw [if_pos hl] at hc; simp at hc
          · rw [if_neg hl] at hc
            simp only [PyFlat.rows, Option.some.injEq, Prod.mk.injEq] at hc
            obtain ⟨e1, e2⟩ := hc
            refine ⟨p1, p2, by omega, cs', ?_, f, ?_⟩
            · rw [e1]; exact (Option.some.inj h).symm
            · rw [e2]; exact hk
theorem whole_shape {p : Int} {args : List Int} (h1 : 1 ≤ p) (h9 : p ≤ 9) (hl : args.length = argN p) : PySw24.whole [p :: args] = [p :: args] := by
  have e : p = 1 ∨ p = 2 ∨ p = 3 ∨ p = 4 ∨ p = 5 ∨ p = 6 ∨ p = 7 ∨ p = 8 ∨ p = 9 := by omega
  rcases e with e | e | e | e | e | e | e | e | e <;> subst e
  · match args, hl with
    | [], hl => exact absurd (show 0 = 2 from hl) (by decide)
    | [_], hl => exact absurd (show 1 = 2 from hl) (by decide)
    | [_, _], _ => rfl
    | _ :: _ :: _ :: r, hl => exact absurd (show r.length + 3 = 2 from hl) (by omega)
  · match args, hl with
    | [], hl => exact absurd (show 0 = 5 from hl) (by decide)
    | [_], hl => exact absurd (show 1 = 5 from hl) (by decide)
    | [_, _], hl => exact absurd (show 2 = 5 from hl) (by decide)
    | [_, _, _], hl => exact absurd (show 3 = 5 from hl) (by decide)
    | [_, _, _, _], hl => exact absurd (show 4 = 5 from hl) (by decide)
    | [_, _, _, _, _], _ => rfl
    | _ :: _ :: _ :: _ :: _ :: _ :: r, hl => exact absurd (show r.length + 6 = 5 from hl) (by omega)
  · match args, hl with
    | [], hl => exact absurd (show 0 = 2 from hl) (by decide)
    | [_], hl => exact absurd (show 1 = 2 from hl) (by decide)
    | [_, _], _ => rfl
    | _ :: _ :: _ :: r, hl => exact absurd (show r.length + 3 = 2 from hl) (by omega)
  · match args, hl with
    | [], hl => exact absurd (show 0 = 2 from hl) (by decide)
    | [_], hl => exact absurd (show 1 = 2 from hl) (by decide)
    | [_, _], _ => rfl
    | _ :: _ :: _ :: r, hl => exact absurd (show r.length + 3 = 2 from hl) (by omega)
  · match args, hl with
    | [], hl => exact absurd (show 0 = 4 from hl) (by decide)
    | [_], hl => exact absurd (show 1 = 4 from hl) (by decide)
    | [_, _], hl => exact absurd (show 2 = 4 from hl) (by decide)
    | [_, _, _], hl => exact absurd (show 3 = 4 from hl) (by decide)
    | [_, _, _, _], _ => rfl
    | _ :: _ :: _ :: _ :: _ :: r, hl => exact absurd (show r.length + 5 = 4 from hl) (by omega)
  · match args, hl with
    | [], hl => exact absurd (show 0 = 2 from hl) (by decide)
    | [_], hl => exact absurd (show 1 = 2 from hl) (by decide)
    | [_, _], _ => rfl
    | _ :: _ :: _ :: r, hl => exact absurd (show r.length + 3 = 2 from hl) (by omega)
  · match args, hl with
    | [], hl => exact absurd (show 0 = 3 from hl) (by decide)
    | [_], hl => exact absurd (show 1 = 3 from hl) (by decide)
    | [_, _], hl => exact absurd (show 2 = 3 from hl) (by decide)
    | [_, _, _], _ => rfl
    | _ :: _ :: _ :: _ :: r, hl => exact absurd (show r.length + 4 = 3 from hl) (by omega)
  · match args, hl with
    | [], hl => exact absurd (show 0 = 1 from hl) (by decide)
    | [_], _ => rfl
    | _ :: _ :: r, hl => exact absurd (show r.length + 2 = 1 from hl) (by omega)
  · match args, hl with
    | [], _ => rfl
    | _ :: r, hl => exact absurd (show r.length + 1 = 0 from hl) (by omega)
theorem Calls.shapes : ∀ {cs : List (List (List Int))} {l : List Int}, Calls l cs → cs.map PySw24.whole = cs
  | [], _, _ => rfl
  | c :: cs, l, h => by
    cases l with
    | nil => cases h.nil
    | cons p r =>
      obtain ⟨h1, h9, hl, cs', e, h'⟩ := h.cons
      cases e
      rw [List.map_cons, Calls.shapes h', whole_shape h1 h9 (by rw [List.length_take]; omega)]
/-- what is asked of a list, and what is due -/
theorem asked_calls {ns : List Int} (h : PySw24.answers_asked ns = true) : ∃ cs, Calls ns cs ∧ Sw24Neutral.asked cs = true ∧ cs.length ≤ 400 ∧ PySw24.answers ns = PyFlat.told (PyFlat.played Sw24Neutral.step Sw24Neutral.start cs) := by
  unfold PySw24.answers_asked at h
  cases hc : PySw24.calls ns with
  | none => rw [hc] at h; simp at h
  | some cs =>
    rw [hc] at h
    dsimp only at h
    rw [Bool.and_eq_true] at h
    have e : PySw24.answers ns = PyFlat.told (PyFlat.played Sw24Neutral.step Sw24Neutral.start cs) := by
      unfold PySw24.answers
      rw [hc]
    unfold PySw24.calls at hc
    cases hk : PyFlat.calls PySw24.shape ns.length ns with
    | none => rw [hk] at hc; simp at hc
    | some raw =>
      rw [hk] at hc
      have e2 : raw.map PySw24.whole = cs := Option.some.inj hc
      rw [Calls.shapes ⟨_, hk⟩] at e2
      subst e2
      exact ⟨raw, ⟨_, hk⟩, h.2, of_decide_eq_true h.1, e⟩
theorem asked_all {cs : List (List (List Int))} (h : Sw24Neutral.asked cs = true) : (∀ c ∈ cs, Sw24Neutral.asked1 c = true) ∧ Sw24Neutral.numbersOf Sw24Neutral.start cs ≤ 1000000 ∧ ∃ w h rest, cs = [[1, w, h]] :: rest ∧ 1 ≤ w ∧ w ≤ 512 ∧ 1 ≤ h ∧ h ≤ 512 := by
  unfold Sw24Neutral.asked at h
  rw [Bool.and_eq_true, Bool.and_eq_true, Bool.and_eq_true] at h
  obtain ⟨h1, h2, h3, h4⟩ := h
  refine ⟨List.all_eq_true.mp h1, of_decide_eq_true h4, ?_⟩
  split at h3
  · rename_i w' h' rest
    simp only [decide_eq_true_eq, Bool.and_eq_true] at h3
    exact ⟨w', h', rest, rfl, h3.1, h3.2.1, h3.2.2.1, h3.2.2.2⟩
  · simp at h3
theorem told_len : ∀ (s : Sw24Neutral.S) (cs : List (List (List Int))), (PyFlat.told (PyFlat.played Sw24Neutral.step s cs)).length = cs.length + Sw24Neutral.numbersOf s cs
  | _, [] => rfl
  | s, c :: r => by
    have ih := told_len (Sw24Neutral.step s c).1 r
    unfold PyFlat.told at ih ⊢
    show (((((Sw24Neutral.step s c).2.length : Int) :: (Sw24Neutral.step s c).2) :: ((PyFlat.played Sw24Neutral.step (Sw24Neutral.step s c).1 r).map _)).flatten).length = _
    rw [List.flatten_cons, List.length_append, List.length_cons]
    have e : ((PyFlat.played Sw24Neutral.step (Sw24Neutral.step s c).1 r).map fun (a : List Int) => (a.length : Int) :: a).flatten.length = r.length + Sw24Neutral.numbersOf (Sw24Neutral.step s c).1 r := by
      rw [← ih, List.flatMap_def]
    rw [e]
    show _ = r.length + 1 + ((Sw24Neutral.step s c).2.length + Sw24Neutral.numbersOf (Sw24Neutral.step s c).1 r)
    omega
theorem told_cons (s : Sw24Neutral.S) (c : List (List Int)) (r : List (List (List Int))) : PyFlat.told (PyFlat.played Sw24Neutral.step s (c :: r)) = (((Sw24Neutral.step s c).2.length : Int) :: (Sw24Neutral.step s c).2) ++ PyFlat.told (PyFlat.played Sw24Neutral.step (Sw24Neutral.step s c).1 r) := rfl
end Of
set_option linter.all false
namespace Of
/-! ### an outline's steps, as the sample rows see them -/
structure Sg where
  first : Int
  fin : Int
  turn : Int
  scale : Int
  slope : Int
  base : Int
def sgOf (a b : Sw24.P) (t : Int) : Sg := ⟨(2 * a.y + 3) / 8, (2 * b.y + 3) / 8, t, 8 * (b.y - a.y), 8 * (b.x - a.x), (b.x - a.x) * (5 - 2 * a.y) + (b.y - a.y) * (2 * a.x - 5)⟩
def mkS (s : Sw24.P × Sw24.P) : Sg := if s.1.y < s.2.y then sgOf s.1 s.2 1 else sgOf s.2 s.1 (-1)
def lim (g : Sg) (t : Int) : Int := -((-g.base - g.slope * t) / g.scale)
def ctr (g : Sg) (t s : Int) : Int := if g.first ≤ t ∧ t < g.fin ∧ s < lim g t then g.turn else 0
theorem lim_iff {a b : Sw24.P} (h : a.y < b.y) (t0 s t : Int) : s < lim (sgOf a b t0) t ↔ (b.y - a.y) * (8 * s + 5 - 2 * a.x) < (b.x - a.x) * (8 * t + 5 - 2 * a.y) := by
  have h8 : 0 < 8 * (b.y - a.y) := by omega
  have e1 : s < lim (sgOf a b t0) t ↔ (-(sgOf a b t0).base - (sgOf a b t0).slope * t) / (sgOf a b t0).scale < -s := by
    unfold lim
    omega
  rw [e1]
  show (-((b.x - a.x) * (5 - 2 * a.y) + (b.y - a.y) * (2 * a.x - 5)) - 8 * (b.x - a.x) * t) / (8 * (b.y - a.y)) < -s ↔ _
  rw [Int.ediv_lt_iff_lt_mul h8]
  have e : (b.x - a.x) * (8 * t + 5 - 2 * a.y) - (b.y - a.y) * (8 * s + 5 - 2 * a.x) = -s * (8 * (b.y - a.y)) - (-((b.x - a.x) * (5 - 2 * a.y) + (b.y - a.y) * (2 * a.x - 5)) - 8 * (b.x - a.x) * t) := by grind
  omega
theorem adds_ctr (c : Sw24.P × Sw24.P) (s t : Int) : Sw24.adds ⟨8 * s + 5, 8 * t + 5⟩ c = ctr (mkS c) t s := by
  obtain ⟨p, g⟩ := c
  unfold Sw24.adds mkS
  dsimp only
  by_cases h : p.y < g.y
  · rw [if_pos h]
    unfold ctr
    have e1 : (sgOf p g 1).first = (2 * p.y + 3) / 8 := rfl
    have e2 : (sgOf p g 1).fin = (2 * g.y + 3) / 8 := rfl
    have l := lim_iff h 1 s t
    rw [e1, e2]
    by_cases h1 : 2 * p.y < 8 * t + 5 ∧ 8 * t + 5 < 2 * g.y
    · rw [if_pos h1]
      by_cases h2 : (g.y - p.y) * (8 * s + 5 - 2 * p.x) < (g.x - p.x) * (8 * t + 5 - 2 * p.y)
      · rw [if_pos (decide_eq_true h2), if_pos ⟨by omega, by omega, l.mpr h2⟩]
        rfl
      · rw [if_neg (by rw [decide_eq_false h2]; exact Bool.false_ne_true), if_neg fun z => h2 (l.mp z.2.2)]
    · rw [if_neg h1, if_neg (by omega), if_neg (by omega)]
  · rw [if_neg h]
    unfold ctr
    have e1 : (sgOf g p (-1)).first = (2 * g.y + 3) / 8 := rfl
    have e2 : (sgOf g p (-1)).fin = (2 * p.y + 3) / 8 := rfl
    rw [e1, e2, if_neg (by omega)]
    by_cases h1 : 2 * g.y < 8 * t + 5 ∧ 8 * t + 5 < 2 * p.y
    · rw [if_pos h1]
      have l := lim_iff (a := g) (b := p) (by omega) (-1) s t
      by_cases h2 : (p.y - g.y) * (8 * s + 5 - 2 * g.x) < (p.x - g.x) * (8 * t + 5 - 2 * g.y)
      · rw [if_pos (decide_eq_true h2), if_pos ⟨by omega, by omega, l.mpr h2⟩]
        rfl
      · rw [if_neg (by rw [decide_eq_false h2]; exact Bool.false_ne_true), if_neg fun z => h2 (l.mp z.2.2)]
    · rw [if_neg h1, if_neg (by omega)]
/-- how often they go round -/
def rnd (gs : List Sg) (t s : Int) : Int := (gs.map fun g => ctr g t s).sum
def gsOf (o : Sw24.Outline) : List Sg := (o.flatMap Sw24.steps).map mkS
theorem turns_rnd (o : Sw24.Outline) (s t : Int) : Sw24.turns o ⟨8 * s + 5, 8 * t + 5⟩ = rnd (gsOf o) t s := by
  unfold Sw24.turns rnd gsOf
  rw [List.map_map]
  congr 1
  exact List.map_congr_left fun c _ => adds_ctr c s t
theorem rnd_filter {p : Sg → Bool} {t s : Int} : ∀ {gs : List Sg}, (∀ g ∈ gs, p g = false → ctr g t s = 0) → rnd (gs.filter p) t s = rnd gs t s
  | [], _ => rfl
  | g :: r, h => by
    have ih := rnd_filter (p := p) (t := t) (s := s) (gs := r) fun x hx => h x (by simp [hx])
    unfold rnd at ih ⊢
    cases e : p g with
    | true => rw [List.filter_cons_of_pos e, List.map_cons, List.map_cons, List.sum_cons, List.sum_cons, ih]
    | false => rw [List.filter_cons_of_neg (by simp [e]), List.map_cons, List.sum_cons, ih, h g (by simp) e, Int.zero_add]
theorem rnd_nil (t s : Int) : rnd [] t s = 0 := rfl
theorem rnd_snoc (gs : List Sg) (g : Sg) (t s : Int) : rnd (gs ++ [g]) t s = rnd gs t s + ctr g t s := by
  unfold rnd
  simp
/-! ### sums -/
def ind (b : Bool) : Int := if b = true then 1 else 0
def sumN (n : Nat) (f : Nat → Int) : Int := ((List.range n).map f).sum
theorem sumN_succ (n : Nat) (f : Nat → Int) : sumN (n + 1) f = sumN n f + f n := by
  unfold sumN
  rw [List.range_succ, List.map_append, List.sum_append]
  simp
theorem sumN_add (f g : Nat → Int) : ∀ n : Nat, sumN n (fun i => f i + g i) = sumN n f + sumN n g
  | 0 => rfl
  | n + 1 => by
    rw [sumN_succ, sumN_succ, sumN_succ, sumN_add f g n]
    omega
theorem sumN_congr {f g : Nat → Int} {n : Nat} (h : ∀ i, i < n → f i = g i) : sumN n f = sumN n g := by
  unfold sumN
  rw [List.map_congr_left fun i hi => h i (List.mem_range.mp hi)]
theorem sumN_zero : ∀ n : Nat, sumN n (fun _ => 0) = 0
  | 0 => rfl
  | n + 1 => by rw [sumN_succ, sumN_zero n]; rfl
theorem sumN_swap (f : Nat → Nat → Int) (m : Nat) : ∀ n : Nat, sumN n (fun i => sumN m (fun j => f i j)) = sumN m (fun j => sumN n (fun i => f i j))
  | 0 => (sumN_zero m).symm
  | n + 1 => by
    rw [sumN_succ, sumN_swap f m n, ← sumN_add]
    exact sumN_congr fun j _ => (sumN_succ n fun i => f i j).symm
theorem sumN_nonneg {f : Nat → Int} (h : ∀ i, 0 ≤ f i) : ∀ n : Nat, 0 ≤ sumN n f
  | 0 => Int.le_refl 0
  | n + 1 => by
    rw [sumN_succ]
    have a := sumN_nonneg h n
    have b := h n
    omega
theorem sumN_le {f : Nat → Int} {c : Int} (h : ∀ i, f i ≤ c) : ∀ n : Nat, sumN n f ≤ n * c
  | 0 => by simp [sumN]
  | n + 1 => by
    rw [sumN_succ]
    have a := sumN_le h n
    have b := h n
    have e : ((n + 1 : Nat) : Int) * c = n * c + c := by
      rw [Int.natCast_add, Int.add_mul]
      simp
    omega
theorem ind_01 (b : Bool) : 0 ≤ ind b ∧ ind b ≤ 1 := by
  cases b <;> decide
theorem len_filter {α : Type} (p : α → Bool) : ∀ l : List α, ((l.filter p).length : Int) = (l.map fun a => ind (p a)).sum
  | [] => rfl
  | a :: r => by
    rw [List.map_cons, List.sum_cons, ← len_filter p r]
    cases e : p a with
    | true =>
      rw [List.filter_cons_of_pos e, List.length_cons]
      unfold ind
      simp
      omega
    | false =>
      rw [List.filter_cons_of_neg (by simp [e])]
      unfold ind
      simp
theorem sum_flatMap {α β : Type} (f : α → List β) (g : β → Int) : ∀ l : List α, ((l.flatMap f).map g).sum = (l.map fun a => ((f a).map g).sum).sum
  | [] => rfl
  | a :: r => by
    rw [List.flatMap_cons, List.map_append, List.sum_append, sum_flatMap f g r, List.map_cons, List.sum_cons]
theorem sample_eq (x y i j : Nat) : Sw24.sample x y i j = ⟨8 * (16 * (x : Int) + i) + 5, 8 * (16 * (y : Int) + j) + 5⟩ := by
  unfold Sw24.sample
  congr 1 <;> omega
/-- of a column, how many of a row of places' sample rows lie within -/
def colN (rule : Nat) (gs : List Sg) (y s : Int) : Int := sumN 16 fun j => ind (Sw24.inside rule (rnd gs (16 * y + j) s))
/-- of a place -/
def cvN (rule : Nat) (gs : List Sg) (y x : Int) : Int := sumN 16 fun i => colN rule gs y (16 * x + i)
theorem covered_eq (rule : Nat) (o : Sw24.Outline) (x y : Nat) : (Sw24.covered rule o x y : Int) = cvN rule (gsOf o) y x := by
  unfold Sw24.covered cvN colN
  rw [len_filter, sum_flatMap, sumN_swap]
  unfold sumN
  congr 1
  refine List.map_congr_left fun j _ => ?_
  rw [List.map_map]
  congr 1
  refine List.map_congr_left fun i _ => (?_ : ind _ = _)
  show ind (Sw24.inside rule (Sw24.turns o (Sw24.sample x y i j))) = _
  rw [sample_eq, turns_rnd]
theorem colN_bd (rule : Nat) (gs : List Sg) (y s : Int) : 0 ≤ colN rule gs y s ∧ colN rule gs y s ≤ 16 :=
  ⟨sumN_nonneg (fun _ => (ind_01 _).1) _, by have h := sumN_le (f := fun j => ind (Sw24.inside rule (rnd gs (16 * y + j) s))) (c := 1) (fun _ => (ind_01 _).2) 16; unfold colN; omega⟩
theorem cvN_bd (rule : Nat) (gs : List Sg) (y x : Int) : 0 ≤ cvN rule gs y x ∧ cvN rule gs y x ≤ 256 :=
  ⟨sumN_nonneg (fun _ => (colN_bd _ _ _ _).1) _, by have h := sumN_le (f := fun i => colN rule gs y (16 * x + i)) (c := 16) (fun _ => (colN_bd _ _ _ _).2) 16; unfold cvN; omega⟩
theorem inside_0 (rule : Nat) : Sw24.inside rule 0 = false := by
  unfold Sw24.inside
  split <;> rfl
theorem colN_congr {rule : Nat} {gs gs' : List Sg} {y s : Int} (h : ∀ j : Nat, j < 16 → rnd gs (16 * y + j) s = rnd gs' (16 * y + j) s) : colN rule gs y s = colN rule gs' y s :=
  sumN_congr fun j hj => by rw [h j hj]
theorem cvN_congr {rule : Nat} {gs gs' : List Sg} {y x : Int} (h : ∀ (j : Nat) (s : Int), j < 16 → rnd gs (16 * y + j) s = rnd gs' (16 * y + j) s) : cvN rule gs y x = cvN rule gs' y x :=
  sumN_congr fun i _ => colN_congr fun j hj => h j _ hj
theorem cvN_nil (rule : Nat) (y x : Int) : cvN rule [] y x = 0 := by
  unfold cvN colN
  have e : ∀ i : Nat, (sumN 16 fun j => ind (Sw24.inside rule (rnd [] (16 * y + j) (16 * x + i)))) = 0 := fun i => by
    rw [← sumN_zero 16]
    refine sumN_congr fun j _ => ?_
    rw [rnd_nil, inside_0]
    rfl
  rw [← sumN_zero 16]
  exact sumN_congr fun i _ => e i
/-! ### dicts of ints -/
def getI : List (Int × Int) → Int → Option Int
  | [], _ => none
  | (a, b) :: r, k => if a = k then some b else getI r k
def putI : List (Int × Int) → Int → Int → List (Int × Int)
  | [], k, v => [(k, v)]
  | (a, b) :: r, k, v => if a = k then (a, v) :: r else (a, b) :: putI r k v
def bump (d : List (Int × Int)) (k v : Int) : List (Int × Int) := putI d k ((getI d k).getD 0 + v)
def wsum (p : Int → Bool) (d : List (Int × Int)) : Int := (d.map fun e => if p e.1 = true then e.2 else 0).sum
abbrev keysI (d : List (Int × Int)) : List Int := d.map (·.1)
theorem wsum_bump (p : Int → Bool) (k v : Int) : ∀ d : List (Int × Int), wsum p (bump d k v) = wsum p d + if p k = true then v else 0
  | [] => by
    unfold bump wsum getI putI
    simp
  | (a, b) :: r => by
    have ih := wsum_bump p k v r
    unfold bump wsum at ih ⊢
    unfold getI putI
    by_cases h : a = k
    · rw [if_pos h, if_pos h]
      simp only [List.map_cons, List.sum_cons, Option.getD_some]
      rw [h]
      split <;> omega
    · rw [if_neg h, if_neg h]
      simp only [List.map_cons, List.sum_cons, ih]
      omega
theorem putI_keys (k v : Int) : ∀ d : List (Int × Int), (k ∈ keysI d → keysI (putI d k v) = keysI d) ∧ (¬ k ∈ keysI d → keysI (putI d k v) = keysI d ++ [k])
  | [] => ⟨fun h => by simp at h, fun _ => rfl⟩
  | (a, b) :: r => by
    have ih := putI_keys k v r
    unfold putI
    by_cases h : a = k
    · rw [if_pos h]
      exact ⟨fun _ => rfl, fun n => absurd (by simp [h]) n⟩
    · rw [if_neg h]
      refine ⟨fun m => ?_, fun n => ?_⟩
      · have m' : k ∈ keysI r := by
          exact (List.mem_cons.mp m).resolve_left fun e => h e.symm
        show a :: keysI (putI r k v) = a :: keysI r
        rw [ih.1 m']
      · have n' : ¬ k ∈ keysI r := fun z => n (List.mem_cons_of_mem _ z)
        show a :: keysI (putI r k v) = a :: keysI r ++ [k]
        rw [ih.2 n']
        rfl
theorem putI_nodup {k v : Int} {d : List (Int × Int)} (h : (keysI d).Nodup) : (keysI (putI d k v)).Nodup := by
  by_cases m : k ∈ keysI d
  · rw [(putI_keys k v d).1 m]
    exact h
  · rw [(putI_keys k v d).2 m, List.nodup_append]
    refine ⟨h, by simp, fun a ha b hb => ?_⟩
    rw [List.mem_singleton.mp hb]
    exact fun e => m (e ▸ ha)
theorem putI_mem {k v x : Int} {d : List (Int × Int)} (h : x ∈ keysI (putI d k v)) : x ∈ keysI d ∨ x = k := by
  by_cases m : k ∈ keysI d
  · rw [(putI_keys k v d).1 m] at h
    exact .inl h
  · rw [(putI_keys k v d).2 m] at h
    rcases List.mem_append.mp h with z | z
    · exact .inl z
    · exact .inr (List.mem_singleton.mp z)
theorem putI_len {k v : Int} {d : List (Int × Int)} : (putI d k v).length ≤ d.length + 1 := by
  have e : (putI d k v).length = (keysI (putI d k v)).length := by rw [List.length_map]
  have e2 : d.length = (keysI d).length := by rw [List.length_map]
  by_cases m : k ∈ keysI d
  · rw [e, (putI_keys k v d).1 m]
    omega
  · rw [e, (putI_keys k v d).2 m, List.length_append, ← e2]
    simp
/-- sums by the keys -/
def vI (d : List (Int × Int)) (k : Int) : Int := (getI d k).getD 0
theorem getI_mem {a b : Int} : ∀ {d : List (Int × Int)}, (keysI d).Nodup → (a, b) ∈ d → getI d a = some b
  | [], _, h => by simp at h
  | (c, e) :: r, n, h => by
    unfold getI
    have n' : (c :: keysI r).Nodup := n
    rw [List.nodup_cons] at n'
    rcases List.mem_cons.mp h with z | z
    · cases z
      rw [if_pos rfl]
    · have hne : ¬ c = a := fun q => n'.1 (by rw [q]; exact List.mem_map.mpr ⟨(a, b), z, rfl⟩)
      rw [if_neg hne]
      exact getI_mem n'.2 z
theorem getI_some {k : Int} {d : List (Int × Int)} (h : k ∈ keysI d) (n : (keysI d).Nodup) : getI d k = some (vI d k) := by
  obtain ⟨⟨a, b⟩, h1, h2⟩ := List.mem_map.mp h
  have e : a = k := h2
  subst e
  unfold vI
  rw [getI_mem n h1]
  rfl
def ksum (p : Int → Bool) (f : Int → Int) (ks : List Int) : Int := (ks.map fun k => if p k = true then f k else 0).sum
theorem ksum_keys {p : Int → Bool} {d : List (Int × Int)} (n : (keysI d).Nodup) : ksum p (vI d) (keysI d) = wsum p d := by
  unfold ksum wsum keysI
  rw [List.map_map]
  congr 1
  refine List.map_congr_left fun e he => ?_
  obtain ⟨a, b⟩ := e
  have h : vI d a = b := by
    unfold vI
    rw [getI_mem n he]
    rfl
  show (if p a = true then vI d a else 0) = if p a = true then b else 0
  rw [h]
theorem sum_perm {l m : List Int} (h : l.Perm m) : l.sum = m.sum := by
  induction h with
  | nil => rfl
  | cons x _ ih => rw [List.sum_cons, List.sum_cons, ih]
  | swap x y l => rw [List.sum_cons, List.sum_cons, List.sum_cons, List.sum_cons]; omega
  | trans _ _ a b => exact a.trans b
theorem ksum_perm {p : Int → Bool} {f : Int → Int} {l m : List Int} (h : l.Perm m) : ksum p f l = ksum p f m := sum_perm (h.map _)
theorem ksum_none {p : Int → Bool} {f : Int → Int} : ∀ {ks : List Int}, (∀ k ∈ ks, p k = false) → ksum p f ks = 0
  | [], _ => rfl
  | k :: r, h => by
    have ih := ksum_none (p := p) (f := f) (ks := r) fun x hx => h x (by simp [hx])
    unfold ksum at ih ⊢
    rw [List.map_cons, List.sum_cons, ih, if_neg (by rw [h k (by simp)]; exact Bool.false_ne_true)]
    rfl
theorem ksum_cons (p : Int → Bool) (f : Int → Int) (k : Int) (r : List Int) : ksum p f (k :: r) = (if p k = true then f k else 0) + ksum p f r := rfl
end Of
set_option linter.all false
namespace Of
/-! ### spans of columns -/
def in1 (e : Int × Int) (s : Int) : Int := if e.1 ≤ s ∧ s < e.2 then 1 else 0
def cov (sp : List (Int × Int)) (s : Int) : Int := (sp.map fun e => in1 e s).sum
theorem cov_nil (s : Int) : cov [] s = 0 := rfl
theorem cov_cons (e : Int × Int) (r : List (Int × Int)) (s : Int) : cov (e :: r) s = in1 e s + cov r s := rfl
theorem cov_app (a b : List (Int × Int)) (s : Int) : cov (a ++ b) s = cov a s + cov b s := by
  unfold cov
  rw [List.map_append, List.sum_append]
/-- from the right to the left -/
def spansF (rule : Nat) (left : Int) (f : Int → Int) : List Int → Int → List (Int × Int)
  | [], _ => []
  | k :: r, acc => if Sw24.inside rule (acc + f k) = true then (r.headD left, k) :: spansF rule left f r (acc + f k) else spansF rule left f r (acc + f k)
theorem spansF_in {rule : Nat} {left right : Int} {f : Int → Int} : ∀ {ks : List Int} {acc : Int} {e : Int × Int}, ks.Pairwise (· > ·) → (∀ k ∈ ks, left < k ∧ k ≤ right) → e ∈ spansF rule left f ks acc → left ≤ e.1 ∧ e.1 < e.2 ∧ e.2 ≤ right
  | [], _, _, _, _, h => by simp [spansF] at h
  | k :: r, acc, e, hp, hb, h => by
    have hk := hb k (by simp)
    rw [List.pairwise_cons] at hp
    have ih := fun h' => spansF_in (rule := rule) (left := left) (right := right) (f := f) (ks := r) (acc := acc + f k) (e := e) hp.2 (fun x hx => hb x (by simp [hx])) h'
    unfold spansF at h
    split at h
    · rcases List.mem_cons.mp h with z | z
      · subst z
        cases r with
        | nil => exact ⟨Int.le_refl _, hk.1, hk.2⟩
        | cons k' r' =>
          have h1 := hb k' (by simp)
          have h2 := hp.1 k' (by simp)
          show left ≤ k' ∧ k' < k ∧ k ≤ right
          omega
      · exact ih z
    · exact ih h
theorem spansF_cov {rule : Nat} {left : Int} {f : Int → Int} {s : Int} (hs : left ≤ s) : ∀ {ks : List Int} {acc : Int}, ks.Pairwise (· > ·) → (∀ k ∈ ks, left < k) →
    cov (spansF rule left f ks acc) s = if s < ks.headD left then ind (Sw24.inside rule (acc + ksum (fun k => decide (s < k)) f ks)) else 0
  | [], acc, _, _ => by
    show 0 = if s < left then _ else 0
    rw [if_neg (by omega)]
  | k :: r, acc, hp, hb => by
    rw [List.pairwise_cons] at hp
    have ih := spansF_cov (rule := rule) (f := f) hs (ks := r) (acc := acc + f k) hp.2 (fun x hx => hb x (by simp [hx]))
    have hh : (k :: r).headD left = k := rfl
    rw [hh, ksum_cons]
    have hr : r.headD left < k := by
      cases r with
      | nil => exact hb k (by simp)
      | cons k' r' => exact hp.1 k' (by simp)
    have low : r.headD left ≤ s → ∀ x ∈ r, (decide (s < x)) = false := fun hle x hx => by
      refine decide_eq_false ?_
      cases r with
      | nil => simp at hx
      | cons k' r' =>
        have h0 : k' ≤ s := hle
        rcases List.mem_cons.mp hx with z | z
        · omega
        · have := (List.pairwise_cons.mp hp.2).1 x z
          omega
    have ef : spansF rule left f (k :: r) acc = if Sw24.inside rule (acc + f k) = true then (r.headD left, k) :: spansF rule left f r (acc + f k) else spansF rule left f r (acc + f k) := rfl
    have ec : cov (spansF rule left f (k :: r) acc) s = (if Sw24.inside rule (acc + f k) = true then in1 (r.headD left, k) s else 0) + cov (spansF rule left f r (acc + f k)) s := by
      rw [ef]
      split
      · rw [cov_cons]
      · rw [Int.zero_add]
    rw [ec, ih]
    by_cases h1 : s < k
    · rw [if_pos h1, if_pos (decide_eq_true h1)]
      by_cases h2 : s < r.headD left
      · have i0 : in1 (r.headD left, k) s = 0 := if_neg fun z => by have := z.1; omega
        rw [if_pos h2, i0, ite_self, Int.zero_add, Int.add_assoc]
      · have i1 : in1 (r.headD left, k) s = 1 := if_pos ⟨by show r.headD left ≤ s; omega, h1⟩
        rw [if_neg h2, i1, ksum_none (low (by omega)), Int.add_zero, Int.add_zero]
        rfl
    · have i0 : in1 (r.headD left, k) s = 0 := if_neg fun z => h1 z.2
      rw [if_neg h1, i0, ite_self, if_neg (show ¬ s < r.headD left by omega)]
      rfl
/-- what a sample row's dict of limits tells -/
structure LimOk (d : List (Int × Int)) (left right : Int) (W : Int → Int) : Prop where
  nd : (keysI d).Nodup
  bd : ∀ k ∈ keysI d, left < k ∧ k ≤ right
  sm : ∀ s, left ≤ s → s < right → wsum (fun k => decide (s < k)) d = W s
theorem LimOk.nil {left right : Int} {W : Int → Int} (h : ∀ s, left ≤ s → s < right → W s = 0) : LimOk [] left right W := ⟨List.nodup_nil, fun k hk => by simp at hk, fun s h1 h2 => (h s h1 h2).symm⟩
theorem LimOk.congr {d : List (Int × Int)} {left right : Int} {W W' : Int → Int} (h : LimOk d left right W) (e : ∀ s, left ≤ s → s < right → W s = W' s) : LimOk d left right W' := ⟨h.nd, h.bd, fun s h1 h2 => (h.sm s h1 h2).trans (e s h1 h2)⟩
theorem LimOk.bump {d : List (Int × Int)} {left right l v : Int} {W : Int → Int} (h : LimOk d left right W) (hl : left < l) (hlr : left < right) : LimOk (bump d (if right < l then right else l) v) left right (fun s => W s + if s < l then v else 0) := by
  refine ⟨putI_nodup h.nd, fun k hk => ?_, fun s h1 h2 => ?_⟩
  · rcases putI_mem hk with z | z
    · exact h.bd k z
    · rw [z]
      split <;> omega
  · rw [wsum_bump, h.sm s h1 h2]
    congr 1
    by_cases h3 : s < l
    · rw [if_pos h3, if_pos (decide_eq_true (by split <;> omega))]
    · rw [if_neg h3, if_neg (by rw [decide_eq_false (by split <;> omega)]; exact Bool.false_ne_true)]
theorem LimOk.skip {d : List (Int × Int)} {left right l v : Int} {W : Int → Int} (h : LimOk d left right W) (hl : l ≤ left) : LimOk d left right (fun s => W s + if s < l then v else 0) :=
  h.congr fun s h1 _ => by rw [if_neg (by omega), Int.add_zero]
theorem spansF_row {rule : Nat} {left right : Int} {d : List (Int × Int)} {ks : List Int} {W : Int → Int} (h : LimOk d left right W) (hp : ks.Perm (keysI d)) (hs : ks.Pairwise (· > ·)) {s : Int} (h1 : left ≤ s) (h2 : s < right) :
    cov (spansF rule left (vI d) ks 0) s = ind (Sw24.inside rule (W s)) := by
  rw [spansF_cov h1 hs fun k hk => (h.bd k (hp.mem_iff.mp hk)).1, Int.zero_add, ksum_perm hp, ksum_keys h.nd, h.sm s h1 h2]
  by_cases h3 : s < ks.headD left
  · rw [if_pos h3]
  · rw [if_neg h3]
    have e : W s = 0 := by
      rw [← h.sm s h1 h2, ← ksum_keys h.nd, ← ksum_perm hp]
      refine ksum_none fun k hk => decide_eq_false ?_
      cases ks with
      | nil => simp at hk
      | cons k' r =>
        have h4 : ¬ s < k' := h3
        rcases List.mem_cons.mp hk with z | z
        · omega
        · have := (List.pairwise_cons.mp hs).1 k z
          omega
    rw [e, inside_0]
    rfl
theorem strict_of {ks : List Int} (h : ks.Pairwise (· ≥ ·)) (n : ks.Nodup) : ks.Pairwise (· > ·) := by
  have n' : ks.Pairwise (· ≠ ·) := n
  exact (h.and n').imp fun ⟨a, b⟩ => by
    have a' := a
    omega
theorem strict_up {ks : List Int} (h : ks.Pairwise (· ≤ ·)) (n : ks.Nodup) : ks.Pairwise (· < ·) := by
  have n' : ks.Pairwise (· ≠ ·) := n
  exact (h.and n').imp fun ⟨a, b⟩ => by omega
/-! ### columns added up -/
theorem sumN_in1 (a b L : Int) (h : a ≤ b) : ∀ n : Nat, sumN n (fun i => in1 (a, b) (L + i)) = if min b (L + n) ≤ max a L then 0 else min b (L + n) - max a L
  | 0 => by
    show (0 : Int) = _
    rw [if_pos (by omega)]
  | n + 1 => by
    rw [sumN_succ, sumN_in1 a b L h n]
    unfold in1
    dsimp only
    split <;> split <;> split <;> omega
theorem sumN_cov {left right : Int} {n : Nat} (hn : left + n = right) : ∀ {sp : List (Int × Int)}, (∀ e ∈ sp, left ≤ e.1 ∧ e.1 < e.2 ∧ e.2 ≤ right) → sumN n (fun i => cov sp (left + i)) = (sp.map fun e => e.2 - e.1).sum
  | [], _ => sumN_zero n
  | e :: r, h => by
    have ih := sumN_cov hn (sp := r) fun x hx => h x (by simp [hx])
    have he := h e (by simp)
    have e1 : sumN n (fun i => cov (e :: r) (left + i)) = sumN n (fun i => in1 e (left + i)) + sumN n (fun i => cov r (left + i)) := sumN_add _ _ n
    rw [e1, ih, List.map_cons, List.sum_cons]
    have e2 : sumN n (fun i => in1 e (left + i)) = e.2 - e.1 := by
      have z := sumN_in1 e.1 e.2 left (by omega) n
      have z2 : sumN n (fun i => in1 e (left + i)) = sumN n (fun i => in1 (e.1, e.2) (left + i)) := rfl
      rw [z2, z]
      split <;> omega
    rw [e2]
/-! ### a row of places: what a row's spans come to -/
structure SpOk (sp : List (Int × Int)) (left right : Int) (C : Int → Int) : Prop where
  bd : ∀ e ∈ sp, left ≤ e.1 ∧ e.1 < e.2 ∧ e.2 ≤ right
  cv : ∀ s, left ≤ s → s < right → cov sp s = C s
theorem SpOk.app {a b : List (Int × Int)} {left right : Int} {C D : Int → Int} (h : SpOk a left right C) (k : SpOk b left right D) : SpOk (a ++ b) left right (fun s => C s + D s) :=
  ⟨fun e he => (List.mem_append.mp he).elim (h.bd e) (k.bd e), fun s h1 h2 => by rw [cov_app, h.cv s h1 h2, k.cv s h1 h2]⟩
/-- the columns of place x from column c on -/
def cc (c x : Int) : Int := if c ≤ 16 * x then 16 else if 16 * x + 16 ≤ c then 0 else 16 * x + 16 - c
def addC (c : List (Int × Int)) (col sign : Int) : List (Int × Int) := bump (bump c (col / 16) (sign * (16 - col % 16))) (col / 16 + 1) (sign * (col % 16))
theorem addC_sum (c : List (Int × Int)) (col x : Int) : wsum (fun k => decide (k ≤ x)) (addC c col 1) = wsum (fun k => decide (k ≤ x)) c + cc col x ∧ wsum (fun k => decide (k ≤ x)) (addC c col (-1)) = wsum (fun k => decide (k ≤ x)) c - cc col x := by
  unfold addC
  rw [wsum_bump, wsum_bump, wsum_bump, wsum_bump]
  unfold cc
  constructor
  all_goals
    by_cases h1 : col / 16 ≤ x
    · rw [if_pos (decide_eq_true h1)]
      by_cases h2 : col / 16 + 1 ≤ x
      · rw [if_pos (decide_eq_true h2), if_pos (by omega)]
        omega
      · rw [if_neg (by rw [decide_eq_false h2]; exact Bool.false_ne_true)]
        split
        · omega
        · rw [if_neg (by omega)]
          omega
    · rw [if_neg (by rw [decide_eq_false h1]; exact Bool.false_ne_true), if_neg (by rw [decide_eq_false (by omega)]; exact Bool.false_ne_true), if_neg (by omega), if_pos (by omega)]
      omega
theorem addC_nodup {c : List (Int × Int)} {col sign : Int} (h : (keysI c).Nodup) : (keysI (addC c col sign)).Nodup := putI_nodup (putI_nodup h)
theorem addC_mem {c : List (Int × Int)} {col sign k : Int} (h : k ∈ keysI (addC c col sign)) : k ∈ keysI c ∨ k = col / 16 ∨ k = col / 16 + 1 := by
  rcases putI_mem h with z | z
  · rcases putI_mem z with y | y
    · exact .inl y
    · exact .inr (.inl y)
  · exact .inr (.inr z)
theorem addC_len {c : List (Int × Int)} {col sign : Int} : (addC c col sign).length ≤ c.length + 2 := by
  have h1 := putI_len (d := bump c (col / 16) (sign * (16 - col % 16))) (k := col / 16 + 1) (v := vI (bump c (col / 16) (sign * (16 - col % 16))) (col / 16 + 1) + sign * (col % 16))
  have h2 := putI_len (d := c) (k := col / 16) (v := vI c (col / 16) + sign * (16 - col % 16))
  have e1 : (addC c col sign).length ≤ (bump c (col / 16) (sign * (16 - col % 16))).length + 1 := h1
  have e2 : (bump c (col / 16) (sign * (16 - col % 16))).length ≤ c.length + 1 := h2
  omega
theorem cc_in1 {a b x : Int} (h : a < b) : cc a x - cc b x = sumN 16 fun i => in1 (a, b) (16 * x + i) := by
  rw [sumN_in1 a b (16 * x) (by omega) 16]
  unfold cc
  split <;> split <;> (try split) <;> (try split) <;> omega
/-! ### runs of places -/
inductive RunsOf (N : Int → Int) (hi : Int) : Int → List (Int × Int × Int) → Prop
  | nil {lo : Int} : (∀ x, lo ≤ x → x < hi → N x = 0) → RunsOf N hi lo []
  | cons {lo s e n : Int} {r : List (Int × Int × Int)} : lo ≤ s → s < e → e ≤ hi → 0 < n → (∀ x, lo ≤ x → x < s → N x = 0) → (∀ x, s ≤ x → x < e → N x = n) → RunsOf N hi e r → RunsOf N hi lo ((s, e, n) :: r)
theorem RunsOf.low {N : Int → Int} {hi lo lo' : Int} {r : List (Int × Int × Int)} (h : RunsOf N hi lo' r) (l : lo ≤ lo') (z : ∀ x, lo ≤ x → x < lo' → N x = 0) : RunsOf N hi lo r := by
  cases h with
  | nil a => exact .nil fun x h1 h2 => if h : x < lo' then z x h1 h else a x (by omega) h2
  | cons a b c d e f g => exact .cons (by omega) b c d (fun x h1 h2 => if h : x < lo' then z x h1 h else e x (by omega) h2) f g
def runsF (f : Int → Int) : List Int → Int → List (Int × Int × Int)
  | a :: b :: r, n => if 0 < n + f a then (a, b, n + f a) :: runsF f (b :: r) (n + f a) else runsF f (b :: r) (n + f a)
  | _, _ => []
theorem runsF_ok {N : Int → Int} {hi : Int} {f : Int → Int} (n0 : ∀ x, 0 ≤ N x) (nh : ∀ x, hi ≤ x → N x = 0) : ∀ {ps : List Int} {a n : Int}, (a :: ps).Pairwise (· < ·) → (∀ x, a ≤ x → N x = n + ksum (fun k => decide (k ≤ x)) f (a :: ps)) → RunsOf N hi a (runsF f (a :: ps) n)
  | [], a, n, _, h => by
    refine .nil fun x h1 h2 => ?_
    have e1 := h x h1
    have e2 := h (max x hi) (by omega)
    rw [ksum_cons, if_pos (decide_eq_true (by omega))] at e1 e2
    have e3 := nh (max x hi) (by omega)
    have k0 : ∀ p : Int → Bool, ksum p f [] = 0 := fun _ => rfl
    rw [k0] at e1 e2
    omega
  | b :: r, a, n, hp, h => by
    rw [List.pairwise_cons] at hp
    have hab : a < b := hp.1 b (by simp)
    have mid : ∀ x, a ≤ x → x < b → N x = n + f a := fun x h1 h2 => by
      rw [h x h1, ksum_cons, if_pos (decide_eq_true h1), ksum_none fun k hk => decide_eq_false ?_, Int.add_zero]
      rcases List.mem_cons.mp hk with z | z
      · omega
      · have := (List.pairwise_cons.mp hp.2).1 k z
        omega
    have ih := runsF_ok (f := f) n0 nh (ps := r) (a := b) (n := n + f a) hp.2 fun x h1 => by
      rw [h x (by omega), ksum_cons, if_pos (decide_eq_true (by omega)), Int.add_assoc]
    show RunsOf N hi a (if 0 < n + f a then (a, b, n + f a) :: runsF f (b :: r) (n + f a) else runsF f (b :: r) (n + f a))
    by_cases hn : 0 < n + f a
    · rw [if_pos hn]
      have hbi : b ≤ hi := by
        by_cases z : b ≤ hi
        · exact z
        · have e1 := mid (max a hi) (by omega) (by omega)
          have e2 := nh (max a hi) (by omega)
          omega
      exact .cons (Int.le_refl _) hab hbi hn (fun x h1 h2 => by omega) mid ih
    · rw [if_neg hn]
      refine ih.low (by omega) fun x h1 h2 => ?_
      have e := mid x h1 h2
      have e2 := n0 x
      omega
/-- the places of a row of spans: what the changes tell -/
structure ChOk (c : List (Int × Int)) (sp : List (Int × Int)) (hi : Int) : Prop where
  nd : (keysI c).Nodup
  bd : ∀ k ∈ keysI c, 0 ≤ k ∧ k ≤ hi + 1
  sm : ∀ x, wsum (fun k => decide (k ≤ x)) c = sumN 16 fun i => cov sp (16 * x + i)
theorem ChOk.nil {hi : Int} : ChOk [] [] hi := ⟨List.nodup_nil, fun k hk => by simp at hk, fun x => (sumN_zero 16).symm⟩
theorem ChOk.add {c : List (Int × Int)} {sp : List (Int × Int)} {hi a b : Int} (h : ChOk c sp hi) (ha : 0 ≤ a) (hab : a < b) (hb : b ≤ 16 * hi) : ChOk (addC (addC c a 1) b (-1)) (sp ++ [(a, b)]) hi := by
  refine ⟨addC_nodup (addC_nodup h.nd), fun k hk => ?_, fun x => ?_⟩
  · rcases addC_mem hk with z | z | z
    · rcases addC_mem z with y | y | y
      · exact h.bd k y
      · omega
      · omega
    · omega
    · omega
  · rw [(addC_sum _ b x).2, (addC_sum _ a x).1, h.sm x]
    have e : sumN 16 (fun i => cov (sp ++ [(a, b)]) (16 * x + i)) = sumN 16 (fun i => cov sp (16 * x + i)) + sumN 16 (fun i => in1 (a, b) (16 * x + i)) := by
      rw [← sumN_add]
      refine sumN_congr fun i _ => ?_
      rw [cov_app, cov_cons, cov_nil, Int.add_zero]
    rw [e, ← cc_in1 hab]
    omega
theorem cov_out {sp : List (Int × Int)} {left right s : Int} : (∀ e ∈ sp, left ≤ e.1 ∧ e.1 < e.2 ∧ e.2 ≤ right) → (s < left ∨ right ≤ s) → cov sp s = 0 := fun h hs => by
  induction sp with
  | nil => rfl
  | cons e r ih =>
    have he := h e (by simp)
    rw [cov_cons, ih fun x hx => h x (by simp [hx])]
    show in1 e s + 0 = 0
    unfold in1
    rw [if_neg (by omega)]
    rfl
theorem cov_nonneg (s : Int) : ∀ sp : List (Int × Int), 0 ≤ cov sp s
  | [] => Int.le_refl 0
  | e :: r => by
    rw [cov_cons]
    have a := cov_nonneg s r
    have b : 0 ≤ in1 e s := by
      unfold in1
      split <;> decide
    omega
theorem runs_row {rule : Nat} {gs : List Sg} {y : Int} {w : Nat} {c sp : List (Int × Int)} {ps : List Int} (h : ChOk c sp w) (k : SpOk sp 0 (16 * w) (colN rule gs y)) (hp : ps.Perm (keysI c)) (hs : ps.Pairwise (· < ·)) :
    RunsOf (fun x => sumN 16 fun i => cov sp (16 * x + i)) w 0 (runsF (vI c) ps 0) := by
  have n0 : ∀ x : Int, 0 ≤ sumN 16 fun i => cov sp (16 * x + i) := fun x => sumN_nonneg (fun i => cov_nonneg _ _) 16
  have nh : ∀ x : Int, (w : Int) ≤ x → (sumN 16 fun i => cov sp (16 * x + i)) = 0 := fun x hx => by
    rw [← sumN_zero 16]
    exact sumN_congr fun i _ => cov_out k.bd (.inr (by omega))
  have sm : ∀ x : Int, (sumN 16 fun i => cov sp (16 * x + i)) = ksum (fun k => decide (k ≤ x)) (vI c) ps := fun x => by
    rw [ksum_perm hp, ksum_keys h.nd, h.sm x]
  cases ps with
  | nil => exact .nil fun x _ _ => sm x
  | cons a r =>
    have a0 := (h.bd a (hp.mem_iff.mp (by simp))).1
    refine (runsF_ok n0 nh hs fun x _ => by rw [Int.zero_add]; exact sm x).low a0 fun x _ h2 => ?_
    rw [sm x]
    refine ksum_none fun k hk => decide_eq_false ?_
    rcases List.mem_cons.mp hk with z | z
    · omega
    · have := (List.pairwise_cons.mp hs).1 k z
      omega
theorem row_cvN {rule : Nat} {gs : List Sg} {y : Int} {w : Nat} {sp : List (Int × Int)} (k : SpOk sp 0 (16 * w) (colN rule gs y)) {x : Int} (h0 : 0 ≤ x) (h1 : x < w) : (sumN 16 fun i => cov sp (16 * x + i)) = cvN rule gs y x :=
  sumN_congr fun i hi => k.cv _ (by omega) (by omega)
theorem RunsOf.congr {N N' : Int → Int} {hi : Int} {lo : Int} {r : List (Int × Int × Int)} (h : RunsOf N hi lo r) (h0 : 0 ≤ lo) (e : ∀ x, 0 ≤ x → x < hi → N x = N' x) : RunsOf N' hi lo r := by
  induction h with
  | nil a => exact .nil fun x h1 h2 => by rw [← e x (by omega) h2]; exact a x h1 h2
  | cons a b c d f g _ ih => exact .cons a b c d (fun x h1 h2 => by rw [← e x (by omega) (by omega)]; exact f x h1 h2) (fun x h1 h2 => by rw [← e x (by omega) (by omega)]; exact g x h1 h2) (ih (by omega))
/-- how many places a row's runs have -/
def posN (N : Int → Int) (lo : Int) (n : Nat) : Int := sumN n fun i => ind (decide (0 < N (lo + i)))
theorem posN_split (N : Int → Int) (lo : Int) (m : Nat) : ∀ n : Nat, posN N lo (m + n) = posN N lo m + posN N (lo + m) n
  | 0 => by
    show posN N lo m = posN N lo m + 0
    omega
  | n + 1 => by
    have ih := posN_split N lo m n
    unfold posN at ih ⊢
    rw [show m + (n + 1) = (m + n) + 1 from rfl, sumN_succ, sumN_succ, ih, Int.add_assoc]
    congr 3
    rw [show lo + (m : Int) + (n : Int) = lo + ((m + n : Nat) : Int) by omega]
theorem posN_0 {N : Int → Int} {lo : Int} {n : Nat} (h : ∀ x, lo ≤ x → x < lo + n → N x = 0) : posN N lo n = 0 := by
  refine (sumN_congr fun i hi => ?_).trans (sumN_zero n)
  rw [h _ (by omega) (by omega)]
  rfl
theorem sumN_one : ∀ n : Nat, sumN n (fun _ => 1) = n
  | 0 => rfl
  | n + 1 => by rw [sumN_succ, sumN_one n]; rfl
theorem posN_1 {N : Int → Int} {lo : Int} {n : Nat} (h : ∀ x, lo ≤ x → x < lo + n → 0 < N x) : posN N lo n = n := by
  refine (sumN_congr fun i hi => ?_).trans (sumN_one n)
  rw [decide_eq_true (h _ (by omega) (by omega))]
  rfl
theorem RunsOf.sum {N : Int → Int} {hi : Int} {lo : Int} {r : List (Int × Int × Int)} (h : RunsOf N hi lo r) (hl : lo ≤ hi) : (r.map fun e => e.2.1 - e.1).sum = posN N lo (hi - lo).toNat := by
  induction h with
  | nil a => exact (posN_0 fun x h1 h2 => a x h1 (by omega)).symm
  | @cons lo s e n r a b c d f g _ ih =>
    rw [List.map_cons, List.sum_cons, ih c]
    show e - s + _ = _
    have e1 : (hi - lo).toNat = (s - lo).toNat + ((e - s).toNat + (hi - e).toNat) := by omega
    have p0 : posN N lo (s - lo).toNat = 0 := posN_0 fun x h1 h2 => f x h1 (by omega)
    have p1 : posN N (lo + ((s - lo).toNat : Int)) (e - s).toNat = ((e - s).toNat : Int) := posN_1 fun x h1 h2 => by rw [g x (by omega) (by omega)]; exact d
    have e2 : lo + ((s - lo).toNat : Int) + ((e - s).toNat : Int) = e := by omega
    rw [e1, posN_split, posN_split, p0, p1, e2]
    omega
theorem RunsOf.few {N : Int → Int} {hi : Int} {lo : Int} {r : List (Int × Int × Int)} (h : RunsOf N hi lo r) (hl : lo ≤ hi) : (r.length : Int) ≤ hi - lo := by
  induction h with
  | nil a => simp; omega
  | cons a b c d f g _ ih =>
    have := ih c
    rw [List.length_cons]
    omega
end Of
set_option linter.all false
namespace Of
/-! ### blending -/
def partB (o n w sh : Nat) : Nat := (o / 2 ^ sh % 256 * (256 - w) + n / 2 ^ sh % 256 * w + 128) / 256 * 2 ^ sh
theorem sum4 (f : Nat → Nat) : ((List.range 4).map f).sum = f 0 + f 1 + f 2 + f 3 := by
  simp [List.range_succ]
  omega
theorem blend_parts (o n w : Nat) : Sw24.blend o n w = partB o n w 0 + partB o n w 8 + partB o n w 16 + partB o n w 24 := by
  have e : ∀ k : Nat, (Sw24.part o k * (256 - w) + Sw24.part n k * w + 128) / 256 * 256 ^ k = partB o n w (8 * k) := fun k => by
    unfold Sw24.part partB
    rw [Nat.pow_mul]
  unfold Sw24.blend
  rw [sum4, e, e, e, e]
theorem blend_0 {o n : Nat} (h : o < 4294967296) : Sw24.blend o n 0 = o := by
  rw [blend_parts]
  unfold partB
  simp only [Nat.reducePow, Nat.sub_zero, Nat.mul_zero, Nat.add_zero, Nat.div_one, Nat.mul_one]
  omega
theorem blend_256 {o n : Nat} (h : n < 4294967296) : Sw24.blend o n 256 = n := by
  rw [blend_parts]
  unfold partB
  simp only [Nat.reducePow, Nat.sub_self, Nat.mul_zero, Nat.zero_add, Nat.div_one, Nat.mul_one]
  omega
theorem part_le (o n w sh : Nat) (hw : w ≤ 256) : (o / 2 ^ sh % 256 * (256 - w) + n / 2 ^ sh % 256 * w + 128) / 256 ≤ 255 := by
  have a : o / 2 ^ sh % 256 * (256 - w) ≤ 255 * (256 - w) := Nat.mul_le_mul_right _ (by omega)
  have b : n / 2 ^ sh % 256 * w ≤ 255 * w := Nat.mul_le_mul_right _ (by omega)
  generalize o / 2 ^ sh % 256 * (256 - w) = u at *
  generalize n / 2 ^ sh % 256 * w = v at *
  omega
theorem four_lt {a b c d : Nat} (h0 : a ≤ 255) (h1 : b ≤ 255) (h2 : c ≤ 255) (h3 : d ≤ 255) : a * 2 ^ 0 + b * 2 ^ 8 + c * 2 ^ 16 + d * 2 ^ 24 < 4294967296 := by
  simp only [Nat.reducePow]
  omega
theorem blend_lt {o n w : Nat} (hw : w ≤ 256) : Sw24.blend o n w < 4294967296 := by
  rw [blend_parts]
  unfold partB
  exact four_lt (part_le o n w 0 hw) (part_le o n w 8 hw) (part_le o n w 16 hw) (part_le o n w 24 hw)
/-! ### a row, blended -/
def mapRow (F : Nat → Nat → Nat) (row : List Nat) : List Nat := (row.zip (List.range row.length)).map fun c => F c.1 c.2
theorem mapRow_get (F : Nat → Nat → Nat) (row : List Nat) (i : Nat) : (mapRow F row)[i]? = (row[i]?).map fun a => F a i := row_get F row i
theorem mapRow_len (F : Nat → Nat → Nat) (row : List Nat) : (mapRow F row).length = row.length := by
  unfold mapRow
  rw [List.length_map, List.length_zip, List.length_range, Nat.min_self]
theorem mapRow_seg {F : Nat → Nat → Nat} {row : List Nat} {lo hi : Nat} {g : Nat → Nat} (h : ∀ x a, lo ≤ x → x < hi → row[x]? = some a → F a x = g a) : ((mapRow F row).drop lo).take (hi - lo) = ((row.drop lo).take (hi - lo)).map g := by
  refine List.ext_getElem? fun i => ?_
  rw [List.getElem?_map, List.getElem?_take, List.getElem?_take]
  by_cases hi' : i < hi - lo
  · rw [if_pos hi', if_pos hi', List.getElem?_drop, List.getElem?_drop, mapRow_get]
    cases e : row[lo + i]? with
    | none => rfl
    | some a =>
      simp only [Option.map_some]
      rw [h _ a (by omega) (by omega) e]
  · rw [if_neg hi', if_neg hi']
    rfl
theorem take_drop_take {α : Type} (T : List α) {lo hi : Nat} (h : lo ≤ hi) : T.take lo ++ (T.drop lo).take (hi - lo) = T.take hi := by
  have e : hi = lo + (hi - lo) := by omega
  rw [show T.take hi = T.take (lo + (hi - lo)) by rw [← e], List.take_add]
theorem mapRow_id {F : Nat → Nat → Nat} {row : List Nat} (h : ∀ x a, row[x]? = some a → F a x = a) : mapRow F row = row := by
  refine List.ext_getElem? fun i => ?_
  rw [mapRow_get]
  cases e : row[i]? with
  | none => rfl
  | some a =>
    simp only [Option.map_some]
    rw [h i a e]
theorem mapRow_mem {F : Nat → Nat → Nat} {row : List Nat} {a : Nat} (h : a ∈ mapRow F row) : ∃ b x, a = F b x := by
  obtain ⟨j, hj, e⟩ := List.mem_iff_getElem.mp h
  have e2 : (mapRow F row)[j]? = some a := by rw [List.getElem?_eq_getElem hj, e]
  rw [mapRow_get] at e2
  cases q : row[j]? with
  | none => rw [q] at e2; cases e2
  | some r0 =>
    rw [q] at e2
    exact ⟨r0, j, (Option.some.inj e2).symm⟩
/-! ### fill -/
/-- rows before i by F, the others as they are -/
def toRows (F : Nat → List Nat → List Nat) (i : Nat) (rws : List (List Nat)) : List (List Nat) := rws.mapIdx fun j r => if j < i then F j r else r
theorem toRows_get {F : Nat → List Nat → List Nat} {i : Nat} {rws : List (List Nat)} (j : Nat) : (toRows F i rws)[j]? = (rws[j]?).map fun r => if j < i then F j r else r := by
  unfold toRows
  rw [List.getElem?_mapIdx]
theorem toRows_len {F : Nat → List Nat → List Nat} {i : Nat} {rws : List (List Nat)} : (toRows F i rws).length = rws.length := by
  unfold toRows
  rw [List.length_mapIdx]
theorem toRows_0 {F : Nat → List Nat → List Nat} {rws : List (List Nat)} : toRows F 0 rws = rws := by
  refine List.ext_getElem? fun j => ?_
  rw [toRows_get]
  cases rws[j]? with
  | none => rfl
  | some r =>
    show some (if j < 0 then _ else r) = some r
    rw [if_neg (by omega)]
theorem toRows_s {F : Nat → List Nat → List Nat} {i : Nat} {rws : List (List Nat)} {r : List Nat} (h : rws[i]? = some r) : (toRows F i rws).set i (F i r) = toRows F (i + 1) rws := by
  refine List.ext_getElem? fun j => ?_
  rw [List.getElem?_set, toRows_get, toRows_get, toRows_len]
  by_cases e : i = j
  · subst e
    rw [if_pos rfl, if_pos (List.getElem?_eq_some_iff.mp h).1, h]
    show _ = some (if i < i + 1 then _ else r)
    rw [if_pos (by omega)]
  · rw [if_neg e]
    cases rws[j]? with
    | none => rfl
    | some q =>
      show some (if _ then _ else _) = some (if _ then _ else _)
      by_cases h2 : j < i
      · rw [if_pos h2, if_pos (by omega)]
      · rw [if_neg h2, if_neg (by omega)]
theorem toRows_skip {F : Nat → List Nat → List Nat} {i : Nat} {rws : List (List Nat)} {r : List Nat} (h : rws[i]? = some r) (e : F i r = r) : toRows F i rws = toRows F (i + 1) rws := by
  rw [← toRows_s h, e]
  refine List.ext_getElem? fun j => ?_
  rw [List.getElem?_set, toRows_get, toRows_len]
  by_cases z : i = j
  · subst z
    rw [if_pos rfl, if_pos (List.getElem?_eq_some_iff.mp h).1, h]
    show some (if i < i then _ else r) = some r
    rw [if_neg (by omega)]
  · rw [if_neg z]
theorem toRows_mem {F : Nat → List Nat → List Nat} {i : Nat} {rws : List (List Nat)} {r : List Nat} (h : r ∈ toRows F i rws) : ∃ r0 ∈ rws, ∃ j, r = r0 ∨ r = F j r0 := by
  obtain ⟨j, hj, e⟩ := List.mem_iff_getElem.mp h
  have e2 : (toRows F i rws)[j]? = some r := by rw [List.getElem?_eq_getElem hj, e]
  rw [toRows_get] at e2
  cases q : rws[j]? with
  | none => rw [q] at e2; cases e2
  | some r0 =>
    rw [q] at e2
    simp only [Option.map_some, Option.some.injEq] at e2
    refine ⟨r0, List.mem_of_getElem? q, j, ?_⟩
    split at e2
    · exact .inr e2.symm
    · exact .inl e2.symm
theorem rowsF_to (F : Nat → Nat → Nat → Nat) (rws : List (List Nat)) : rowsF F rws 0 = toRows (fun y r => mapRow (fun a x => F a x y) r) rws.length rws := by
  refine List.ext_getElem? fun j => ?_
  rw [rowsF_get, toRows_get]
  cases q : rws[j]? with
  | none => rfl
  | some r =>
    simp only [Option.map_some]
    rw [if_pos (List.getElem?_eq_some_iff.mp q).1, Nat.zero_add]
    rfl
def flF (rule new : Nat) (o : Sw24.Outline) (a x y : Nat) : Nat := Sw24.blend a new (Sw24.covered rule o x y)
def flRow (rule new : Nat) (o : Sw24.Outline) (y : Nat) (row : List Nat) : List Nat := mapRow (fun a x => flF rule new o a x y) row
theorem filled_rows {p : Sw24.Picture} {rws : List (List Nat)} {rule new : Nat} (e : p.colours = rws.flatten) (hh : rws.length = p.height) (hw : ∀ r ∈ rws, r.length = p.width) :
    (Sw24.filled p rule new).colours = (toRows (flRow rule new p.outline) p.height rws).flatten := by
  have e1 : (Sw24.filled p rule new).colours = (p.colours.zip (Sw24.places p)).map fun c => flF rule new p.outline c.1 c.2.1 c.2.2 := rfl
  have g := grid (flF rule new p.outline) rws hw hh
  rw [e1, e]
  unfold Sw24.places
  rw [g, rowsF_to, hh]
  rfl
theorem covered_le (rule : Nat) (o : Sw24.Outline) (x y : Nat) : Sw24.covered rule o x y ≤ 256 := by
  have h := covered_eq rule o x y
  have b := cvN_bd rule (gsOf o) y x
  omega
theorem flRow_lt {rule new : Nat} {o : Sw24.Outline} {y : Nat} {row : List Nat} {a : Nat} (h : a ∈ flRow rule new o y row) : a < 4294967296 := by
  obtain ⟨b, x, e⟩ := mapRow_mem h
  rw [e]
  exact blend_lt (covered_le _ _ _ _)
/-- how many places of a row have a sample point within -/
def tchRow (rule : Nat) (o : Sw24.Outline) (w y : Nat) : Int := sumN w fun x => ind (decide (0 < Sw24.covered rule o x y))
theorem touched_eq (p : Sw24.Picture) (rule : Nat) : (Sw24.touched p rule : Int) = sumN p.height fun y => tchRow rule p.outline p.width y := by
  unfold Sw24.touched Sw24.places
  rw [len_filter, sum_flatMap]
  unfold sumN
  congr 1
  refine List.map_congr_left fun y _ => ?_
  rw [List.map_map]
  rfl
theorem tch_pos {rule : Nat} {o : Sw24.Outline} {w y : Nat} {N : Int → Int} (h : ∀ x : Nat, x < w → N x = Sw24.covered rule o x y) : posN N 0 w = tchRow rule o w y := by
  refine sumN_congr fun x hx => ?_
  rw [Int.zero_add, h x hx]
  congr 1
  by_cases z : 0 < Sw24.covered rule o x y
  · rw [decide_eq_true z, decide_eq_true (by omega)]
  · rw [decide_eq_false z, decide_eq_false (by omega)]
theorem tch_0 {rule : Nat} {o : Sw24.Outline} {w y : Nat} (h : ∀ x : Nat, x < w → Sw24.covered rule o x y = 0) : tchRow rule o w y = 0 := by
  refine (sumN_congr fun x hx => ?_).trans (sumN_zero w)
  rw [h x hx]
  rfl
/-! ### the dicts of a row of places -/
def updD (g : Sg) (t left right : Int) (d : List (Int × Int)) : List (Int × Int) := if g.first ≤ t ∧ t < g.fin ∧ left < lim g t then bump d (if right < lim g t then right else lim g t) g.turn else d
theorem LimOk.upd {g : Sg} {t left right : Int} {d : List (Int × Int)} {W : Int → Int} (h : LimOk d left right W) (hlr : left < right) : LimOk (updD g t left right d) left right (fun s => W s + ctr g t s) := by
  unfold updD
  by_cases z : g.first ≤ t ∧ t < g.fin
  · have e : ∀ s, ctr g t s = if s < lim g t then g.turn else 0 := fun s => by
      unfold ctr
      by_cases y : s < lim g t
      · rw [if_pos y, if_pos ⟨z.1, z.2, y⟩]
      · rw [if_neg y, if_neg fun q => y q.2.2]
    by_cases y : left < lim g t
    · rw [if_pos ⟨z.1, z.2, y⟩]
      exact (h.bump y hlr).congr fun s _ _ => by rw [e s]
    · rw [if_neg fun q => y q.2.2]
      exact (h.skip (l := lim g t) (v := g.turn) (by omega)).congr fun s _ _ => by rw [e s]
  · rw [if_neg fun q => z ⟨q.1, q.2.1⟩]
    refine h.congr fun s _ _ => ?_
    unfold ctr
    rw [if_neg fun q => z ⟨q.1, q.2.1⟩, Int.add_zero]
theorem updD_len {g : Sg} {t left right : Int} {d : List (Int × Int)} : (updD g t left right d).length ≤ d.length + 1 := by
  unfold updD
  split
  · exact putI_len
  · omega
/-! ### which steps a row of places has -/
def acr (lo hi : Int) (g : Sg) : Bool := decide (max g.first lo < min g.fin hi)
theorem acr_ctr {lo hi t s : Int} {g : Sg} (h1 : lo ≤ t) (h2 : t < hi) (h : acr lo hi g = false) : ctr g t s = 0 := by
  have h' := of_decide_eq_false h
  unfold ctr
  rw [if_neg (by omega)]
def inRow (y : Int) (g : Sg) : Bool := decide (g.first / 16 ≤ y) && decide (y < (g.fin - 1) / 16 + 1)
theorem inRow_ctr {y t s : Int} {g : Sg} (h1 : 16 * y ≤ t) (h2 : t < 16 * y + 16) (h : inRow y g = false) : ctr g t s = 0 := by
  unfold inRow at h
  rw [Bool.and_eq_false_iff, decide_eq_false_iff_not, decide_eq_false_iff_not] at h
  unfold ctr
  rw [if_neg (by omega)]
theorem inRow_acr {y : Int} {g : Sg} (h : inRow y g = true) (hf : g.first < g.fin) : acr (16 * y) (16 * y + 16) g = true := by
  unfold inRow at h
  rw [Bool.and_eq_true, decide_eq_true_eq, decide_eq_true_eq] at h
  refine decide_eq_true ?_
  omega
theorem rnd_row {gs : List Sg} {h : Int} {y : Int} {j : Nat} {s : Int} (y0 : 0 ≤ y) (yh : y < h) (hj : j < 16) : rnd ((gs.filter (acr 0 (16 * h))).filter (inRow y)) (16 * y + j) s = rnd gs (16 * y + j) s := by
  rw [rnd_filter fun g _ z => inRow_ctr (by omega) (by omega) z, rnd_filter fun g _ z => acr_ctr (by omega) (by omega) z]
theorem rnd_across {gs : List Sg} {y : Int} {j : Nat} {s : Int} (hj : j < 16) : rnd (gs.filter (acr (16 * y) (16 * y + 16))) (16 * y + j) s = rnd gs (16 * y + j) s :=
  rnd_filter fun g _ z => acr_ctr (by omega) (by omega) z
/-! ### sizes -/
structure SgOk (g : Sg) : Prop where
  sc : g.first < g.fin → 0 < g.scale
  s1 : g.scale ≤ 16000000
  l0 : -16000000 ≤ g.slope ∧ g.slope ≤ 16000000
  f0 : -250000 ≤ g.first ∧ g.first ≤ 250000 + 1
  f1 : -250000 ≤ g.fin ∧ g.fin ≤ 250000 + 1
  tn : g.turn = 1 ∨ g.turn = -1
end Of
set_option linter.all false
namespace Of
theorem sg_ok {a b : Sw24.P} {t : Int} (h : a.y ≤ b.y) (ht : t = 1 ∨ t = -1) (ax : -1000000 ≤ a.x ∧ a.x ≤ 1000000) (ay : -1000000 ≤ a.y ∧ a.y ≤ 1000000) (bx : -1000000 ≤ b.x ∧ b.x ≤ 1000000) (bY : -1000000 ≤ b.y ∧ b.y ≤ 1000000) : SgOk (sgOf a b t) := by
  refine ⟨fun z => ?_, ?_, ?_, ?_, ?_, ht⟩
  · have z' : (2 * a.y + 3) / 8 < (2 * b.y + 3) / 8 := z
    show 0 < 8 * (b.y - a.y)
    omega
  · show 8 * (b.y - a.y) ≤ 16000000
    omega
  · show -16000000 ≤ 8 * (b.x - a.x) ∧ 8 * (b.x - a.x) ≤ 16000000
    omega
  · show -250000 ≤ (2 * a.y + 3) / 8 ∧ (2 * a.y + 3) / 8 ≤ 250000 + 1
    omega
  · show -250000 ≤ (2 * b.y + 3) / 8 ∧ (2 * b.y + 3) / 8 ≤ 250000 + 1
    omega
theorem steps_cut {g : List Sw24.P} : Sw24.steps g = g.zip (g.drop 1 ++ g.take 1) := by
  cases g with
  | nil => rfl
  | cons a r => rfl
theorem steps_len (g : List Sw24.P) : (Sw24.steps g).length = g.length := by
  cases g with
  | nil => rfl
  | cons a r =>
    show ((a :: r).zip (r ++ [a])).length = _
    rw [List.length_zip]
    simp
theorem foldl_min : ∀ (l : List Int) (x : Int), (l.foldl min x ∈ x :: l) ∧ ∀ y ∈ x :: l, l.foldl min x ≤ y
  | [], x => ⟨by simp, fun y hy => by simp at hy; rw [hy]; exact Int.le_refl _⟩
  | a :: r, x => by
    obtain ⟨h1, h2⟩ := foldl_min r (min x a)
    rw [List.foldl_cons]
    refine ⟨?_, fun y hy => ?_⟩
    · rcases List.mem_cons.mp h1 with z | z
      · rw [z]
        by_cases q : x ≤ a
        · rw [Int.min_eq_left q]; simp
        · rw [Int.min_eq_right (by omega)]; simp
      · simp [z]
    · have h3 := h2 (min x a) (by simp)
      rcases List.mem_cons.mp hy with z | z
      · rw [z]; omega
      · rcases List.mem_cons.mp z with q | q
        · rw [q]; omega
        · exact h2 y (by simp [q])
theorem foldl_max : ∀ (l : List Int) (x : Int), (l.foldl max x ∈ x :: l) ∧ ∀ y ∈ x :: l, y ≤ l.foldl max x
  | [], x => ⟨by simp, fun y hy => by simp at hy; rw [hy]; exact Int.le_refl _⟩
  | a :: r, x => by
    obtain ⟨h1, h2⟩ := foldl_max r (max x a)
    rw [List.foldl_cons]
    refine ⟨?_, fun y hy => ?_⟩
    · rcases List.mem_cons.mp h1 with z | z
      · rw [z]
        by_cases q : x ≤ a
        · rw [Int.max_eq_right q]; simp
        · rw [Int.max_eq_left (by omega)]; simp
      · simp [z]
    · have h3 := h2 (max x a) (by simp)
      rcases List.mem_cons.mp hy with z | z
      · rw [z]; omega
      · rcases List.mem_cons.mp z with q | q
        · rw [q]; omega
        · exact h2 y (by simp [q])
theorem least_eq {l : List Int} {m : Int} (h : m ∈ l) (a : ∀ y, y ∈ l → m ≤ y) : Sw24.least l = m := by
  cases l with
  | nil => simp at h
  | cons x r =>
    obtain ⟨h1, h2⟩ := foldl_min r x
    have e1 := a _ h1
    have e2 := h2 m h
    show r.foldl min x = m
    omega
theorem most_eq {l : List Int} {m : Int} (h : m ∈ l) (a : ∀ y, y ∈ l → y ≤ m) : Sw24.most l = m := by
  cases l with
  | nil => simp at h
  | cons x r =>
    obtain ⟨h1, h2⟩ := foldl_max r x
    have e1 := a _ h1
    have e2 := h2 m h
    show r.foldl max x = m
    omega
theorem flat_len : ∀ o : Sw24.Outline, o.flatten.length = Sw24.points o := fun o => by
  unfold Sw24.points
  rw [List.length_flatten]
theorem lines_len : ∀ o : Sw24.Outline, (o.flatMap Sw24.steps).length = Sw24.points o
  | [] => rfl
  | g :: r => by
    rw [List.flatMap_cons, List.length_append, steps_len, lines_len r]
    unfold Sw24.points
    simp
end Of
set_option Elab.async false
set_option linter.all false
set_option maxRecDepth 100000
set_option maxHeartbeats 2000000
namespace Of
open PySem PySem.Spec PyProof.Rows L2
section
variable {P : Program} {w : World} {K : PySem.W.Frag} {mg : Str → Option Value} {base : Heap} {a : Adr}
/-! ### curve_coordinate -/
def bendC (a c b k : Int) : Int := ((16 - k) * (16 - k) * a + 2 * k * (16 - k) * c + k * k * b + 128) / 256
def spCoord : Sp := fun vs H Q _ => ∃ a c b k : Int, vs = [.int a, .int c, .int b, .int k] ∧ 0 ≤ k ∧ k ≤ 16 ∧ Q (.int (bendC a c b k)) H
theorem scCoord : FnScope ["a", "c", "b", "k", "left"] ps_curve_coordinate (defScope st_curve_coordinate) := ⟨rfl, rfl, rfl, by decide +kernel, rfl, by decide +kernel, by decide +kernel⟩
theorem ok_coord (T : Txt K mg a) : FnOk P w K mg base CX0 1 a.a_curve_coordinate a.d_curve_coordinate ps_curve_coordinate spCoord := by
  refine T.f_curve_coordinate.ok scCoord (fun vs H Q E h => ?_) (fun cdv A outer s H vs Q E hr h => ?_)
  · obtain ⟨a, c, b, k, rfl, _⟩ := h
    rfl
  · obtain ⟨a, c, b, k, rfl, k0, k1, q⟩ := h
    refine ⟨_, pss_cons (ps_set (i := 4) scCoord.nd rfl (Or.inl rfl) (pe_op op_sub (pe_gint T.k_CURVE_STEPS) (pv 3)))
      (pss_one (ps_ret (pe_op op_fdiv (pe_op op_add (pe_op op_add (pe_op op_add (pe_op op_mul (pe_op op_mul (pv 4) (pv 4)) (pv 0)) (pe_op op_mul (pe_op op_mul (pe_op op_mul pe_int (pv 3)) (pv 4)) (pv 1))) (pe_op op_mul (pe_op op_mul (pv 3) (pv 3)) (pv 2))) pe_int) pe_int))), ?_⟩
    refine ⟨_, rfl, _, _, rfl, rfl, ?_⟩
    have h0 : (0:Int) ≤ 16 - k := by omega
    have h1 : 16 - k ≤ 16 := by omega
    have b1 : (16 - k) * (16 - k) ≤ 16 * 16 := Int.mul_le_mul h1 h1 h0 (by decide)
    have b1' : 0 ≤ (16 - k) * (16 - k) := Int.mul_nonneg h0 h0
    have b2 : 2 * k * (16 - k) ≤ 32 * 16 := Int.mul_le_mul (by omega) h1 h0 (by decide)
    have b2' : 0 ≤ 2 * k * (16 - k) := Int.mul_nonneg (by omega) h0
    have b3 : k * k ≤ 16 * 16 := Int.mul_le_mul k1 k1 k0 (by decide)
    have b3' : 0 ≤ k * k := Int.mul_nonneg k0 k0
    refine ⟨_, rfl, _, rfl, _, _, rfl, rfl, .inl ⟨by omega, by omega⟩, _, rfl, _, _, rfl, rfl, .inl ⟨by omega, by omega⟩, _, rfl, _, _, rfl, rfl, .inl ⟨by omega, by omega⟩, _, rfl, _, _, rfl, rfl, .inl ⟨by omega, by omega⟩, _, rfl, _, _, rfl, rfl, .inl ⟨by omega, by omega⟩, _, _, rfl, rfl, ?_⟩
    refine ⟨_, rfl, _, rfl, _, _, rfl, rfl, .inl ⟨by omega, by omega⟩, _, rfl, _, _, rfl, rfl, .inl ⟨by omega, by omega⟩, _, _, rfl, rfl, _, _, rfl, rfl, _, _, rfl, rfl, ⟨by decide, by decide⟩, ?_⟩
    exact q
/-! ### curve_points -/
def bendP (a c b : Sw24.P) (i : Nat) : Sw24.P := ⟨bendC a.x c.x b.x ((i : Int) + 1), bendC a.y c.y b.y ((i : Int) + 1)⟩
theorem bend_eq (a c b : Sw24.P) : Sw24.bend a c b = (List.range 16).map (bendP a c b) := by
  unfold Sw24.bend
  apply List.map_congr_left
  intro i _
  unfold bendP bendC
  dsimp only
  rw [Int.fdiv_eq_ediv_of_nonneg _ (by decide), Int.fdiv_eq_ediv_of_nonneg _ (by decide)]
def spPoints : Sp := fun vs H Q _ => ∃ (ra rc rb : Addr) (a c b : Sw24.P), vs = [.ref ra, .ref rc, .ref rb] ∧ PtAt H ra a ∧ PtAt H rc c ∧ PtAt H rb b ∧
  ∀ (H' : Hp) (l : Addr) (ts : List Addr), H l = none → Same H H' → H' l = some (.lst (ts.map V.ref)) → PtsAt H' ts (Sw24.bend a c b) → Q (.ref l) H'
theorem scPoints : FnScope ["a", "c", "b", "k"] ps_curve_points (defScope st_curve_points) := ⟨rfl, rfl, rfl, by decide +kernel, rfl, by decide +kernel, by decide +kernel⟩
theorem ok_points (T : Txt K mg a) : FnOk P w K mg base CX0 2 a.a_curve_points a.d_curve_points ps_curve_points spPoints := by
  have GC := ok_coord (P := P) (w := w) (base := base) T
  have gC := T.g_curve_coordinate
  refine T.f_curve_points.ok scPoints (fun vs H Q E h => ?_) (fun cdv A outer s H vs Q E hr h => ?_)
  · obtain ⟨ra, rc, rb, a, c, b, rfl, _⟩ := h
    rfl
  · obtain ⟨ra, rc, rb, pa, pc, pb, rfl, ha, hc, hb, q⟩ := h
    refine ⟨_, pss_one (ps_ret (pe_lc (own := [("k", 3)]) rfl scPoints.nd (pi_range2 rfl T.z_range (pa_cons pe_int (pa_cons (pe_op op_add (pe_gint T.k_CURVE_STEPS) pe_int) pa_nil))) (blkOk_by (by change blkC ["a", "c", "b", "k"] (defScope st_curve_points) _ _ = true; decide +kernel)) (fun _ _ _ _ _ => pg_name (i := 3) scPoints.nd rfl (Or.inl rfl)) (fun _ _ _ _ _ => pts_nil)
      (fun _ _ _ _ _ => pe_tup (pa_cons (pe_call GC hr rfl gC T.f_curve_coordinate.kp T.b_curve_coordinate .nil pass0 (pa_cons (pe_ix (ix_tupK K) (pv 0) pe_int (fun _ _ => rfl)) (pa_cons (pe_ix (ix_tupK K) (pv 1) pe_int (fun _ _ => rfl)) (pa_cons (pe_ix (ix_tupK K) (pv 2) pe_int (fun _ _ => rfl)) (pa_cons (pv 3) pa_nil)))))
        (pa_cons (pe_call GC hr rfl gC T.f_curve_coordinate.kp T.b_curve_coordinate .nil pass0 (pa_cons (pe_ix (ix_tupK K) (pv 0) pe_int (fun _ _ => rfl)) (pa_cons (pe_ix (ix_tupK K) (pv 1) pe_int (fun _ _ => rfl)) (pa_cons (pe_ix (ix_tupK K) (pv 2) pe_int (fun _ _ => rfl)) (pa_cons (pv 3) pa_nil))))) pa_nil))))), ?_⟩
    refine ⟨_, _, rfl, rfl, 1, 17, rfl, ⟨by decide, by decide, by decide, by decide⟩, fun D hD => ?_⟩
    refine lc_range (n := 16) (fun i H' => Same H H' ∧ ∃ ts, H' D = some (.lst (ts.map V.ref)) ∧ ts.length = i ∧ PtsAt H' ts ((List.range i).map (bendP pa pc pb))) ⟨same_new hD, [], upd_same, rfl, .nil⟩ (fun i H' hi ⟨sm, ts, hl, hn, hp⟩ => ?_) (fun H' ⟨sm, ts, hl, hn, hp⟩ => ?_)
    · refine ⟨rfl, ?_⟩
      unfold tYes
      refine iteT ?_
      have qa := sm _ _ ha
      have qc := sm _ _ hc
      have qb := sm _ _ hb
      refine ⟨_, rfl, ra, _, 0, _, rfl, rfl, SqT.of qa, rfl, _, rfl, rc, _, 0, _, rfl, rfl, SqT.of qc, rfl, _, rfl, rb, _, 0, _, rfl, rfl, SqT.of qb, rfl, _, rfl, _, _, _, _, rfl, by omega, by omega, ?_⟩
      refine ⟨_, rfl, ra, _, 1, _, rfl, rfl, SqT.of qa, rfl, _, rfl, rc, _, 1, _, rfl, rfl, SqT.of qc, rfl, _, rfl, rb, _, 1, _, rfl, rfl, SqT.of qb, rfl, _, rfl, _, _, _, _, rfl, by omega, by omega, ?_⟩
      refine ⟨by show 2 ≤ sizeLine; decide, fun p hpn => ?_⟩
      have nDp : D ≠ p := ne_of_none hl hpn
      refine ⟨ts.map V.ref, by rw [upd_ne nDp]; exact hl, by rw [List.length_map, hn]; exact Nat.lt_of_lt_of_le hi (by decide), fun b o e => ?_, ts ++ [p], ?_, by simp [hn], ?_⟩
      · rw [upd_ne (ne_of_none e hD), upd_ne (ne_of_none (sm _ _ e) hpn)]
        exact sm _ _ e
      · rw [upd_same, List.map_append]
        rfl
      · rw [List.range_succ, List.map_append]
        refine paired_snoc (PtsAt.same (fun t xs e => ?_) hp) ?_
        · rw [upd_ne (ne_of e hl (by intro z; cases z)), upd_ne (ne_of_none e hpn)]
          exact e
        · show upd _ D _ p = _
          rw [upd_ne (Ne.symm nDp), upd_same]
          have e1 : (1 : Int) + (i : Int) = (i : Int) + 1 := Int.add_comm _ _
          unfold bendP
          rw [e1]
    · rw [← bend_eq] at hp
      exact q H' D ts hD sm hl hp
/-! ### is_side, is_colour, are_coordinates -/
def inB (lo hi n : Int) : Bool := decide (lo ≤ n) && decide (n ≤ hi)
def spIn (lo hi : Int) : Sp := fun vs H Q _ => ∃ n : Int, vs = [.int n] ∧ Q (.bl (inB lo hi n)) H
theorem scSide : FnScope ["number"] ps_is_side (defScope st_is_side) := ⟨rfl, rfl, rfl, by decide +kernel, rfl, by decide +kernel, by decide +kernel⟩
theorem ok_side (T : Txt K mg a) : FnOk P w K mg base CX0 1 a.a_is_side a.d_is_side ps_is_side (spIn 1 512) := by
  refine T.f_is_side.ok scSide (fun vs H Q E h => ?_) (fun cdv A outer s H vs Q E hr h => ?_)
  · obtain ⟨n, rfl, _⟩ := h
    rfl
  · obtain ⟨n, rfl, q⟩ := h
    refine ⟨_, pss_one (ps_ret (pe_chain op_le op_le pe_int (pv 0) (pe_gint T.k_LARGEST_SIDE))), ?_⟩
    exact chain_le rd_c (rd_var rfl) rd_c q
theorem scColour : FnScope ["number"] ps_is_colour (defScope st_is_colour) := ⟨rfl, rfl, rfl, by decide +kernel, rfl, by decide +kernel, by decide +kernel⟩
theorem ok_colour (T : Txt K mg a) : FnOk P w K mg base CX0 1 a.a_is_colour a.d_is_colour ps_is_colour (spIn 0 4294967295) := by
  refine T.f_is_colour.ok scColour (fun vs H Q E h => ?_) (fun cdv A outer s H vs Q E hr h => ?_)
  · obtain ⟨n, rfl, _⟩ := h
    rfl
  · obtain ⟨n, rfl, q⟩ := h
    refine ⟨_, pss_one (ps_ret (pe_chain op_le op_le pe_int (pv 0) (pe_gint T.k_LARGEST_COLOUR))), ?_⟩
    exact chain_le rd_c (rd_var rfl) rd_c q
def spCoords (K : PySem.W.Frag) : Sp := fun vs H Q _ => ∃ (l : Addr) (ns : List Int), vs = [.ref l] ∧ SqL K H l (ns.map V.int) ∧ ns.length ≤ 10 ∧ ∀ H', Same H H' → Q (.bl (ns.all (inB (-1000000) 1000000))) H'
theorem scCoords : FnScope ["numbers", "number"] ps_are_coordinates (defScope st_are_coordinates) := ⟨rfl, rfl, rfl, by decide +kernel, rfl, by decide +kernel, by decide +kernel⟩
theorem ok_coords (T : Txt K mg a) : FnOk P w K mg base CX0 1 a.a_are_coordinates a.d_are_coordinates ps_are_coordinates (spCoords K) := by
  refine T.f_are_coordinates.ok scCoords (fun vs H Q E h => ?_) (fun cdv A outer s H vs Q E hr h => ?_)
  · obtain ⟨l, ns, rfl, _⟩ := h
    rfl
  · obtain ⟨l, ns, rfl, hl, h10, q⟩ := h
    refine ⟨_, pss_one (ps_ret (pe_callB (cr_all rfl) rfl T.z_all (by decide +kernel) (pa_cons (pe_lc (own := [("number", 1)]) rfl scCoords.nd (pi_list (pv 0)) (blkOk_by (by change blkC ["numbers", "number"] (defScope st_are_coordinates) _ _ = true; decide +kernel)) (fun _ _ _ _ _ => pg_name (i := 1) scCoords.nd rfl (Or.inl rfl)) (fun _ _ _ _ _ => pts_nil)
      (fun _ _ _ _ _ => pe_chain op_le op_le (pe_un un_neg (pe_gint T.k_FARTHEST)) (pv 1) (pe_gint T.k_FARTHEST))) pa_nil))), ?_⟩
    refine ⟨_, rfl, l, rfl, ⟨_, hl⟩, fun D hD => ?_⟩
    refine lc_list (K := K) (xs := ns.map V.int) (fun i H' => Same H H' ∧ H' D = some (.lst (((ns.take i).map (inB (-1000000) 1000000)).map V.bl))) ⟨same_new hD, upd_same⟩ (fun i H' _ ⟨sm, _⟩ => sm.seq hl) (fun i x H' hx ⟨sm, hd⟩ => ?_) (fun H' ⟨sm, hd⟩ => ?_)
    · refine ⟨rfl, ?_⟩
      unfold tYes
      refine iteT ?_
      obtain ⟨n, hn, rfl⟩ : ∃ n, ns[i]? = some n ∧ x = V.int n := by
        rw [List.getElem?_map] at hx
        cases e : ns[i]? with
        | none => rw [e] at hx; cases hx
        | some z => rw [e] at hx; exact ⟨z, rfl, (Option.some.inj hx).symm⟩
      refine chain_le (i := -1000000) (j := n) (k := 1000000) (fun R r => ⟨_, rfl, r⟩) (rd_var rfl) rd_c ?_
      refine ⟨_, hd, ?_, fun b o e => ?_, ?_⟩
      · rw [List.length_map, List.length_map, List.length_take]
        exact Nat.lt_of_le_of_lt (Nat.le_trans (Nat.min_le_right _ _) h10) (by decide)
      · rw [upd_ne (ne_of_none e hD)]
        exact sm _ _ e
      · rw [upd_same, List.take_add_one, hn]
        simp [inB]
    · rw [List.length_map, List.take_length] at hd
      refine ⟨D, _, rfl, SqL.of hd, ?_⟩
      have e : (ns.map (inB (-1000000) 1000000)).all id = ns.all (inB (-1000000) 1000000) := by
        rw [List.all_map]
        rfl
      rw [e]
      exact q H' sm
end
end Of
set_option Elab.async false
set_option linter.all false
set_option maxRecDepth 100000
set_option maxHeartbeats 2000000
namespace Of
open PySem PySem.Spec PyProof.Rows L2
/-! ### the outline, in plain lists -/
theorem points_app (o o' : Sw24.Outline) : Sw24.points (o ++ o') = Sw24.points o + Sw24.points o' := by
  unfold Sw24.points
  rw [List.map_append, List.sum_append]
theorem points_one (g : List Sw24.P) : Sw24.points [g] = g.length := by
  unfold Sw24.points
  simp
theorem longer_snoc (o : Sw24.Outline) (g l : List Sw24.P) : Sw24.longer (o ++ [g]) l = o ++ [g ++ l] := by
  unfold Sw24.longer
  rw [List.reverse_append]
  show (o.reverse.reverse) ++ [g ++ l] = _
  rw [List.reverse_reverse]
theorem last_snoc (o : Sw24.Outline) (g : List Sw24.P) (p : Sw24.P) : Sw24.lastPoint (o ++ [g ++ [p]]) = some p := by
  unfold Sw24.lastPoint
  simp
def Small (p : Sw24.P) : Prop := -1000000 ≤ p.x ∧ p.x ≤ 1000000 ∧ -1000000 ≤ p.y ∧ p.y ≤ 1000000
def isOut : Role → Prop
  | .out => True
  | .rings => True
  | .ring _ => True
  | _ => False
abbrev outF (l : Addr) (n : Int) : List (Str × V) := [("rings", .ref l), ("point_count", .int n)]
structure OutAt (a : Adr) (H : Hp) (own : Lab) (o l : Addr) (rs : List Addr) (ol : Sw24.Outline) : Prop where
  ins : ∃ dx, H o = some (.ins a.c_Outline dx (outF l (Sw24.points ol)))
  lo : own o = some .out
  ll : own l = some .rings
  lst : H l = some (.lst (rs.map V.ref))
  len : rs.length = ol.length
  ring : ∀ (j : Nat) (r : Addr) (g : List Sw24.P), rs[j]? = some r → ol[j]? = some g → own r = some (.ring j) ∧ g ≠ [] ∧ ∃ ts, H r = some (.lst (ts.map V.ref)) ∧ PtsAt H ts g
  few : Sw24.points ol ≤ 4096
  small : ∀ g ∈ ol, ∀ p ∈ g, Small p
theorem OutAt.keep {a : Adr} {S : Role → Prop} {H H' : Hp} {own own' : Lab} {o l : Addr} {rs : List Addr} {ol : Sw24.Outline} (h : OutAt a H own o l rs ol) (lab : LabOk H own) (s : Stp S H own H' own') (d : ∀ r, isOut r → ¬ S r) : OutAt a H' own' o l rs ol := by
  obtain ⟨dx, hi⟩ := h.ins
  refine ⟨⟨dx, s.oth hi h.lo (d _ trivial)⟩, s.lab h.lo lab, s.lab h.ll lab, s.oth h.lst h.ll (d _ trivial), h.len, fun j r g h1 h2 => ?_, h.few, h.small⟩
  obtain ⟨q1, q2, ts, q3, q4⟩ := h.ring j r g h1 h2
  exact ⟨s.lab q1 lab, q2, ts, s.oth q3 q1 (d _ trivial), q4.same (s.tup lab)⟩
theorem paired_len {α β : Type} {F : α → β → Prop} : ∀ {l : List α} {m : List β}, Paired F l m → l.length = m.length
  | _, _, .nil => rfl
  | _, _, .cons _ t => by simp [paired_len t]
section
variable {P : Program} {w : World} {K : PySem.W.Frag} {mg : Str → Option Value} {base : Heap} {a : Adr}
/-! ### Outline.__init__ -/
def spOInit (C : Addr) : Sp := fun vs H Q _ => ∃ (p dx : Addr), vs = [.ref p] ∧ H p = some (.ins C dx []) ∧ ∀ (H' : Hp) (l : Addr), H l = none → H' p = some (.ins C dx (outF l 0)) → H' l = some (.lst []) → (∀ b o, H b = some o → b ≠ p → H' b = some o) → Q .non H'
theorem scOInit : FnScope ["self"] ps_Outline_init (defScope st_Outline_init) := ⟨rfl, rfl, rfl, by decide +kernel, rfl, by decide +kernel, by decide +kernel⟩
theorem ok_oinit (T : Txt K mg a) : FnOk P w K mg base CX0 1 a.a_Outline_init a.d_Outline_init ps_Outline_init (spOInit a.c_Outline) := by
  refine T.f_Outline_init.ok scOInit (fun vs H Q E h => ?_) (fun cdv A outer s H vs Q E hr h => ?_)
  · obtain ⟨p, dx, rfl, _⟩ := h
    rfl
  · obtain ⟨p, dx, rfl, hp, q⟩ := h
    refine ⟨_, pss_cons (ps_fld (pv 0) (pe_lst pa_nil) rfl) (pss_one (ps_fld (pv 0) pe_int rfl)), ?_⟩
    refine ⟨Nat.zero_le _, fun l hl => ?_⟩
    have npl : p ≠ l := ne_of_none hp hl
    refine ⟨_, rfl, p, _, dx, [], rfl, by rw [upd_ne npl]; exact hp, T.cl_Outline, T.n_Outline_rings, by decide, ?_⟩
    refine ⟨_, rfl, p, _, dx, _, rfl, upd_same, T.cl_Outline, T.n_Outline_point_count, by show 1 < 1000; decide, ?_⟩
    refine q _ l hl ?_ ?_ fun b o e ne => ?_
    · rw [upd_same]
      rw [pf_nil, pf_tl (by decide +kernel) pf_nil]
    · rw [upd_ne (Ne.symm npl), upd_ne (Ne.symm npl), upd_same]
    · rw [upd_ne ne, upd_ne ne, upd_ne (ne_of_none e hl)]
      exact e
/-! ### Outline.has_room, can_lead_on, last_point -/
def spRoom (a : Adr) : Sp := fun vs H Q _ => ∃ (o l : Addr) (dx : Addr) (n k : Int), vs = [.ref o, .int k] ∧ H o = some (.ins a.c_Outline dx (outF l n)) ∧ Q (.bl (decide (n + k ≤ 4096))) H
theorem scRoom : FnScope ["self", "added"] ps_Outline_has_room (defScope st_Outline_has_room) := ⟨rfl, rfl, rfl, by decide +kernel, rfl, by decide +kernel, by decide +kernel⟩
theorem outF_count {l : Addr} {n : Int} : (outF l n).lookup ("point_count" : Str) = some (.int n) := lk_tl (by decide +kernel) lk_hd
theorem outF_rings {l : Addr} {n : Int} : (outF l n).lookup ("rings" : Str) = some (.ref l) := lk_hd
theorem ok_room (T : Txt K mg a) : FnOk P w K mg base CX0 1 a.a_Outline_has_room a.d_Outline_has_room ps_Outline_has_room (spRoom a) := by
  refine T.f_Outline_has_room.ok scRoom (fun vs H Q E h => ?_) (fun cdv A outer s H vs Q E hr h => ?_)
  · obtain ⟨o, l, dx, n, k, rfl, _⟩ := h
    rfl
  · obtain ⟨o, l, dx, n, k, rfl, ho, q⟩ := h
    refine ⟨_, pss_one (ps_ret (pe_cmpR op_le (pe_op op_add (pe_fld (pv 0) rfl) (pv 1)) (pe_gint T.k_MOST_POINTS) (nomark _))), ?_⟩
    exact ⟨_, rfl, o, _, dx, _, _, rfl, ho, T.cl_Outline, T.n_Outline_point_count, outF_count, _, rfl, _, _, rfl, rfl, _, _, rfl, rfl, q⟩
def spLead (a : Adr) : Sp := fun vs H Q _ => ∃ (o l : Addr) (dx : Addr) (n k : Int) (xs : List V), vs = [.ref o, .int k] ∧ H o = some (.ins a.c_Outline dx (outF l n)) ∧ H l = some (.lst xs) ∧ Q (.bl (decide ((0 : Int) < xs.length) && decide (n + k ≤ 4096))) H
theorem scLead : FnScope ["self", "added"] ps_Outline_can_lead_on (defScope st_Outline_can_lead_on) := ⟨rfl, rfl, rfl, by decide +kernel, rfl, by decide +kernel, by decide +kernel⟩
theorem ok_lead (T : Txt K mg a) : FnOk P w K mg base CX0 2 a.a_Outline_can_lead_on a.d_Outline_can_lead_on ps_Outline_can_lead_on (spLead a) := by
  have GR := ok_room (P := P) (w := w) (base := base) T
  refine T.f_Outline_can_lead_on.ok scLead (fun vs H Q E h => ?_) (fun cdv A outer s H vs Q E hr h => ?_)
  · obtain ⟨o, l, dx, n, k, xs, rfl, _⟩ := h
    rfl
  · obtain ⟨o, l, dx, n, k, xs, rfl, ho, hl, q⟩ := h
    refine ⟨_, pss_one (ps_ret (pe_and (pe_cmpR op_gt (pe_callB call_len_seq (by rfl) T.z_len PySem.boot_len (pa_cons (pe_fld (pv 0) rfl) pa_nil)) pe_int (nomark _))
      (pe_one (pe_meth (pv 0) T.cl_Outline T.m_Outline_has_room GR hr T.b_Outline_has_room .nil pass0 (pa_cons (pv 1) pa_nil))))), ?_⟩
    refine ⟨_, rfl, o, _, dx, _, _, rfl, ho, T.cl_Outline, T.n_Outline_rings, outF_rings, l, _, rfl, .inl (SqL.of hl), _, _, rfl, rfl, _, rfl, ?_⟩
    refine ite2 (fun e => ?_) (fun e => ?_)
    · refine ⟨_, rfl, o, dx, _, rfl, ho, lk_tl (by decide +kernel) (lk_tl (by decide +kernel) lk_nil), _, rfl, o, l, dx, n, k, rfl, ho, ?_⟩
      rw [e, Bool.true_and] at q
      exact q
    · rw [Bool.eq_false_iff.mpr e, Bool.false_and] at q
      exact q
def spLast (a : Adr) : Sp := fun vs H Q _ => ∃ (o l : Addr) (own : Lab) (rs : List Addr) (ol : Sw24.Outline), vs = [.ref o] ∧ OutAt a H own o l rs ol ∧ ol ≠ [] ∧ ∀ t p, Sw24.lastPoint ol = some p → PtAt H t p → Small p → Q (.ref t) H
theorem scLast : FnScope ["self"] ps_Outline_last_point (defScope st_Outline_last_point) := ⟨rfl, rfl, rfl, by decide +kernel, rfl, by decide +kernel, by decide +kernel⟩
/-- an outline that has a ring: the last ring, as it lies -/
theorem OutAt.last {H : Hp} {own : Lab} {o l : Addr} {rs : List Addr} {ol : Sw24.Outline} (h : OutAt a H own o l rs ol) (ne : ol ≠ []) :
    ∃ (rs' : List Addr) (r : Addr) (ol' : Sw24.Outline) (g : List Sw24.P) (ts : List Addr), rs = rs' ++ [r] ∧ ol = ol' ++ [g] ∧ rs'.length = ol'.length ∧ own r = some (.ring ol'.length) ∧ g ≠ [] ∧ H r = some (.lst (ts.map V.ref)) ∧ PtsAt H ts g := by
  rcases List.eq_nil_or_concat ol with e | ⟨ol', g, e⟩
  · exact absurd e ne
  · rcases List.eq_nil_or_concat rs with e' | ⟨rs', r, e'⟩
    · have q := h.len
      rw [e, e'] at q
      simp at q
    · rw [List.concat_eq_append] at e e'
      have hl : rs'.length = ol'.length := by
        have q := h.len
        rw [e, e', List.length_append, List.length_append] at q
        simpa using q
      obtain ⟨q1, q2, ts, q3, q4⟩ := h.ring ol'.length r g (by rw [e', ← hl]; simp) (by rw [e]; simp)
      exact ⟨rs', r, ol', g, ts, e', e, hl, q1, q2, q3, q4⟩
theorem paired_last {α β : Type} {F : α → β → Prop} {l : List α} {m : List β} {b : β} (h : Paired F l (m ++ [b])) : ∃ l' a, l = l' ++ [a] ∧ F a b := by
  have hl := paired_len h
  rcases List.eq_nil_or_concat l with e | ⟨l', a, e⟩
  · rw [e] at hl
    simp at hl
  · rw [List.concat_eq_append] at e
    subst e
    obtain ⟨a', e1, f⟩ := paired_get (i := m.length) (b := b) h (by simp)
    have hl' : l'.length = m.length := by simpa using hl
    rw [← hl'] at e1
    have e2 : a = a' := by simpa using e1
    subst e2
    exact ⟨l', a, rfl, f⟩
theorem ok_last (T : Txt K mg a) : FnOk P w K mg base CX0 1 a.a_Outline_last_point a.d_Outline_last_point ps_Outline_last_point (spLast a) := by
  refine T.f_Outline_last_point.ok scLast (fun vs H Q E h => ?_) (fun cdv A outer s H vs Q E hr h => ?_)
  · obtain ⟨o, l, own, rs, ol, rfl, _⟩ := h
    rfl
  · obtain ⟨o, l, own, rs, ol, rfl, ho, ne, q⟩ := h
    refine ⟨_, pss_one (ps_ret (pe_ix ix_list (pe_ix ix_list (pe_fld (pv 0) rfl) (pe_un un_neg pe_int) (fun _ _ => rfl)) (pe_un un_neg pe_int) (fun _ _ => rfl))), ?_⟩
    obtain ⟨dx, hi⟩ := ho.ins
    obtain ⟨rs', r, ol', g, ts, e1, e2, hl, q1, q2, q3, q4⟩ := ho.last ne
    rcases List.eq_nil_or_concat g with e3 | ⟨g', p, e3⟩
    · exact absurd e3 q2
    · rw [List.concat_eq_append] at e3
      subst e3
      obtain ⟨ts', t, e4, hp⟩ := paired_last q4
      refine ⟨_, rfl, o, _, dx, _, _, rfl, hi, T.cl_Outline, T.n_Outline_rings, outF_rings, _, rfl, l, rs.map V.ref, -1, V.ref r, rfl, rfl, SqL.of ho.lst, by rw [e1, List.map_append]; exact atI_last _ _, _, rfl,
        r, ts.map V.ref, -1, V.ref t, rfl, rfl, SqL.of q3, by rw [e4, List.map_append]; exact atI_last _ _, ?_⟩
      exact q t p (by rw [e2]; exact last_snoc _ _ _) hp (ho.small (g' ++ [p]) (by rw [e2]; simp) p (by simp))
/-! ### Outline.begin_ring, lead_on -/
def spBegin (a : Adr) : Sp := fun vs H Q _ => ∃ (o l t : Addr) (own : Lab) (rs : List Addr) (ol : Sw24.Outline) (p : Sw24.P), vs = [.ref o, .ref t] ∧ LabOk H own ∧ OutAt a H own o l rs ol ∧ PtAt H t p ∧ Small p ∧ Sw24.points ol < 4096 ∧
  ∀ (H' : Hp) (own' : Lab) (rs' : List Addr), Stp isOut H own H' own' → OutAt a H' own' o l rs' (ol ++ [[p]]) → Q .non H'
theorem scBegin : FnScope ["self", "point"] ps_Outline_begin_ring (defScope st_Outline_begin_ring) := ⟨rfl, rfl, rfl, by decide +kernel, rfl, by decide +kernel, by decide +kernel⟩
theorem outF_put {l : Addr} {n m : Int} : putF "point_count" (.int m) (outF l n) = outF l m := pf_tl (by decide +kernel) pf_hd
theorem few_rings : ∀ {ol : Sw24.Outline}, (∀ g ∈ ol, g ≠ []) → ol.length ≤ Sw24.points ol
  | [], _ => Nat.zero_le _
  | g :: r, h => by
    have e : Sw24.points (g :: r) = g.length + Sw24.points r := by
      unfold Sw24.points
      simp
    have h1 : 0 < g.length := List.length_pos_iff.mpr (h g (by simp))
    have h2 := few_rings (ol := r) fun x hx => h x (by simp [hx])
    rw [e, List.length_cons]
    omega
theorem OutAt.nonempty {H : Hp} {own : Lab} {o l : Addr} {rs : List Addr} {ol : Sw24.Outline} (h : OutAt a H own o l rs ol) : ∀ g ∈ ol, g ≠ [] := fun g hg => by
  obtain ⟨j, hj, e⟩ := List.getElem_of_mem hg
  have hr : j < rs.length := by rw [h.len]; exact hj
  exact (h.ring j _ g (List.getElem?_eq_getElem hr) (by rw [List.getElem?_eq_getElem hj, e])).2.1
theorem OutAt.rsLen {H : Hp} {own : Lab} {o l : Addr} {rs : List Addr} {ol : Sw24.Outline} (h : OutAt a H own o l rs ol) : rs.length ≤ 4096 := by
  rw [h.len]
  exact Nat.le_trans (few_rings h.nonempty) h.few
theorem ok_begin (T : Txt K mg a) : FnOk P w K mg base CX0 1 a.a_Outline_begin_ring a.d_Outline_begin_ring ps_Outline_begin_ring (spBegin a) := by
  refine T.f_Outline_begin_ring.ok scBegin (fun vs H Q E h => ?_) (fun cdv A outer s H vs Q E hr h => ?_)
  · obtain ⟨o, l, t, own, rs, ol, p, rfl, _⟩ := h
    rfl
  · obtain ⟨o, l, t, own, rs, ol, p, rfl, lab, ho, ht, sp, hf, q⟩ := h
    refine ⟨_, pss_cons (ps_expr (pe_bm PySem.F.plainAttrs_list PySem.F.slot_list_append PySem.F.type_list_append mt_append (pe_fld (pv 0) rfl) (pa_cons (pe_lst (pa_cons (pv 1) pa_nil)) pa_nil))) (pss_one (ps_fldaug (pv 0) pe_int in_add)), ?_⟩
    obtain ⟨dx, hi⟩ := ho.ins
    refine ⟨_, rfl, o, _, dx, _, _, rfl, hi, T.cl_Outline, T.n_Outline_rings, outF_rings, .inl ⟨rfl, _, SqL.of ho.lst⟩, _, rfl, by show 1 ≤ sizeLine; decide, fun r hr' => ?_⟩
    have nlr : l ≠ r := ne_of_none ho.lst hr'
    have nor : o ≠ r := ne_of_none hi hr'
    have nol : o ≠ l := lab_ne ho.lo ho.ll (by decide)
    refine ⟨l, _, _, rfl, rfl, by rw [upd_ne nlr]; exact ho.lst, ?_, ?_⟩
    · rw [List.length_map]
      exact Nat.lt_of_le_of_lt ho.rsLen (by decide)
    · refine ⟨_, rfl, o, _, dx, _, _, rfl, by rw [upd_ne nol, upd_ne nor]; exact hi, T.cl_Outline, T.n_Outline_point_count, outF_count, _, _, rfl, rfl, dx, outF l (Sw24.points ol), by rw [upd_ne nol, upd_ne nor]; exact hi, by show 2 < 1000; decide, ?_⟩
      rw [outF_put]
      have s1 : Stp isOut H own (upd H r (.lst [.ref t])) own := Stp.same (same_new hr') lab
      have s2 := s1.name (r := .ring ol.length) hr' upd_same trivial trivial
      have s3 := s2.trans lab (Stp.put (a := l) (o := .lst (rs.map V.ref ++ [.ref r])) (r := .rings) s2.ok (by rw [lay_ne nlr]; exact ho.ll) trivial trivial)
      have s4 := s3.trans lab (Stp.put (a := o) (o := .ins a.c_Outline dx (outF l (Sw24.points ol + 1))) (r := .out) s3.ok (by rw [lay_ne nor]; exact ho.lo) trivial trivial)
      refine q _ _ (rs ++ [r]) s4 ⟨⟨dx, ?_⟩, by rw [lay_ne nor]; exact ho.lo, by rw [lay_ne nlr]; exact ho.ll, ?_, by rw [List.length_append, List.length_append, ho.len]; rfl, fun j r' g h1 h2 => ?_, ?_, fun g hg p' hp' => ?_⟩
      · rw [upd_same, points_app, points_one]
        rfl
      · rw [upd_ne (Ne.symm nol), upd_same, List.map_append]
        rfl
      · by_cases hj : j < ol.length
        · rw [List.getElem?_append_left (by rw [ho.len]; exact hj)] at h1
          rw [List.getElem?_append_left hj] at h2
          obtain ⟨q1, q2, ts, q3, q4⟩ := ho.ring j r' g h1 h2
          have n1 : r' ≠ r := ne_of_none q3 hr'
          have n2 : r' ≠ l := lab_ne q1 ho.ll (by intro z; cases z)
          have n3 : r' ≠ o := lab_ne q1 ho.lo (by intro z; cases z)
          exact ⟨by rw [lay_ne n1]; exact q1, q2, ts, by rw [upd_ne n3, upd_ne n2, upd_ne n1]; exact q3, q4.same (s4.tup lab)⟩
        · have hj2 : j = ol.length := by
            have z := (List.getElem?_eq_some_iff.mp h2).1
            simp at z
            omega
          subst hj2
          have e1 : r' = r := by
            rw [← ho.len] at h1
            simpa using h1.symm
          have e2 : g = [p] := by simpa using h2.symm
          subst e1 e2
          exact ⟨lay_same, by simp, [t], by rw [upd_ne (Ne.symm nor), upd_ne (Ne.symm nlr), upd_same]; rfl, .cons (s4.tup lab _ _ ht) .nil⟩
      · rw [points_app, points_one]
        exact hf
      · rcases List.mem_append.mp hg with z | z
        · exact ho.small g z p' hp'
        · have e2 : g = [p] := by simpa using z
          subst e2
          have e3 : p' = p := by simpa using hp'
          subst e3
          exact sp
def spLeadOn (a : Adr) : Sp := fun vs H Q _ => ∃ (o l b : Addr) (own : Lab) (rs ts : List Addr) (ol : Sw24.Outline) (ps : List Sw24.P), vs = [.ref o, .ref b] ∧ LabOk H own ∧ OutAt a H own o l rs ol ∧ ol ≠ [] ∧ own b = none ∧ H b = some (.lst (ts.map V.ref)) ∧ PtsAt H ts ps ∧ (∀ p ∈ ps, Small p) ∧ Sw24.points ol + ps.length ≤ 4096 ∧
  ∀ (H' : Hp) (own' : Lab) (rs' : List Addr), Stp isOut H own H' own' → OutAt a H' own' o l rs' (Sw24.longer ol ps) → Q .non H'
theorem scLeadOn : FnScope ["self", "points"] ps_Outline_lead_on (defScope st_Outline_lead_on) := ⟨rfl, rfl, rfl, by decide +kernel, rfl, by decide +kernel, by decide +kernel⟩
theorem ok_leadOn (T : Txt K mg a) : FnOk P w K mg base CX0 1 a.a_Outline_lead_on a.d_Outline_lead_on ps_Outline_lead_on (spLeadOn a) := by
  refine T.f_Outline_lead_on.ok scLeadOn (fun vs H Q E h => ?_) (fun cdv A outer s H vs Q E hr h => ?_)
  · obtain ⟨o, l, b, own, rs, ts, ol, ps, rfl, _⟩ := h
    rfl
  · obtain ⟨o, l, b, own, rs, us, ol, ps, rfl, lab, ho, ne, nb, hb, hps, sps, hf, q⟩ := h
    refine ⟨_, pss_cons (ps_expr (pe_bm PySem.F.plainAttrs_list PySem.F.slot_list_extend PySem.F.type_list_extend mt_extend (pe_ix ix_list (pe_fld (pv 0) rfl) (pe_un un_neg pe_int) (fun _ _ => rfl)) (pa_cons (pv 1) pa_nil)))
      (pss_one (ps_fldaug (pv 0) (pe_callB call_len_seq (by rfl) T.z_len PySem.boot_len (pa_cons (pv 1) pa_nil)) in_add)), ?_⟩
    obtain ⟨dx, hi⟩ := ho.ins
    obtain ⟨rs', r, ol', g, ts, e1, e2, hl, q1, q2, q3, q4⟩ := ho.last ne
    have nro : o ≠ r := lab_ne ho.lo q1 (by intro z; cases z)
    have nrl : l ≠ r := lab_ne ho.ll q1 (by intro z; cases z)
    have nrb : b ≠ r := Ne.symm (lab_none q1 nb)
    have nol : o ≠ l := lab_ne ho.lo ho.ll (by decide)
    have lg : ts.length = g.length := paired_len q4
    have lp : us.length = ps.length := paired_len hps
    have hg : g.length ≤ Sw24.points ol := by
      rw [e2, points_app, points_one]
      omega
    refine ⟨_, rfl, o, _, dx, _, _, rfl, hi, T.cl_Outline, T.n_Outline_rings, outF_rings, _, rfl, l, rs.map V.ref, -1, V.ref r, rfl, rfl, SqL.of ho.lst, by rw [e1, List.map_append]; exact atI_last _ _, .inl ⟨rfl, _, SqL.of q3⟩, _, rfl,
      r, b, _, _, rfl, rfl, q3, hb, ?_, ?_⟩
    · rw [List.length_map, List.length_map, lg, lp]
      exact Nat.le_trans (Nat.add_le_add_right hg _) (Nat.le_trans hf (by decide))
    · refine ⟨_, rfl, o, _, dx, _, _, rfl, by rw [upd_ne nro]; exact hi, T.cl_Outline, T.n_Outline_point_count, outF_count, _, rfl, b, _, rfl, .inl (SqL.of (by rw [upd_ne nrb]; exact hb)), _, _, rfl, rfl, dx, outF l (Sw24.points ol), by rw [upd_ne nro]; exact hi, by show 2 < 1000; decide, ?_⟩
      rw [outF_put]
      have s1 : Stp isOut H own _ own := Stp.put (a := r) (o := .lst (ts.map V.ref ++ us.map V.ref)) lab q1 trivial trivial
      have s2 := s1.trans lab (Stp.put (a := o) (o := .ins a.c_Outline dx (outF l (Sw24.points ol + ((us.map V.ref).length : Int)))) (r := .out) s1.ok ho.lo trivial trivial)
      have e5 : Sw24.longer ol ps = ol' ++ [g ++ ps] := by rw [e2, longer_snoc]
      have e6 : Sw24.points (ol' ++ [g ++ ps]) = Sw24.points ol + ps.length := by
        rw [e2, points_app, points_app, points_one, points_one, List.length_append]
        omega
      refine q _ _ rs s2 ⟨⟨dx, ?_⟩, ho.lo, ho.ll, ?_, ?_, fun j r' g' h1 h2 => ?_, ?_, fun g' hg' p' hp' => ?_⟩
      · rw [upd_same, e5, e6, List.length_map, lp]
        rfl
      · rw [upd_ne (Ne.symm nol), upd_ne nrl]
        exact ho.lst
      · rw [e5, ho.len, e2]
        simp
      · rw [e5] at h2
        by_cases hj : j < ol'.length
        · rw [List.getElem?_append_left hj] at h2
          obtain ⟨p1, p2, ts', p3, p4⟩ := ho.ring j r' g' h1 (by rw [e2, List.getElem?_append_left hj]; exact h2)
          have n2 : r' ≠ r := lab_ne p1 q1 (by intro z; injection z with z; omega)
          have n3 : r' ≠ o := lab_ne p1 ho.lo (by intro z; cases z)
          exact ⟨p1, p2, ts', by rw [upd_ne n3, upd_ne n2]; exact p3, p4.same (s2.tup lab)⟩
        · have hj2 : j = ol'.length := by
            have z := (List.getElem?_eq_some_iff.mp h2).1
            simp at z
            omega
          subst hj2
          have e7 : r' = r := by
            rw [e1, ← hl] at h1
            simpa using h1.symm
          have e8 : g' = g ++ ps := by simpa using h2.symm
          subst e7 e8
          exact ⟨q1, by simp [q2], ts ++ us, by rw [upd_ne (Ne.symm nro), upd_same, List.map_append], paired_app (q4.same (s2.tup lab)) (hps.same (s2.tup lab))⟩
      · rw [e5, e6]
        exact hf
      · rw [e5] at hg'
        rcases List.mem_append.mp hg' with z | z
        · exact ho.small g' (by rw [e2]; simp [z]) p' hp'
        · have e8 : g' = g ++ ps := by simpa using z
          subst e8
          rcases List.mem_append.mp hp' with y | y
          · exact ho.small g (by rw [e2]; simp) p' y
          · exact sps p' y
end
end Of
set_option Elab.async false
set_option linter.all false
set_option maxRecDepth 100000
set_option maxHeartbeats 2000000
namespace Of
open PySem PySem.Spec PyProof.Rows L2
def isAny : Role → Prop := fun _ => True
abbrev picF (w h : Int) (rl o : Addr) : List (Str × V) := [("width", .int w), ("height", .int h), ("rows", .ref rl), ("outline", .ref o)]
abbrev cells (ns : List Nat) : List V := ns.map fun (n : Nat) => V.int (n : Int)
def RowAt (H : Hp) (own : Lab) (r : Addr) (ns : List Nat) : Prop := own r = some .row ∧ H r = some (.lst (cells ns))
structure PicAt (a : Adr) (H : Hp) (own : Lab) (p rl o l : Addr) (rows : List Addr) (rws : List (List Nat)) (rs : List Addr) (c : Sw24.Picture) : Prop where
  ins : ∃ dx, H p = some (.ins a.c_Picture dx (picF c.width c.height rl o))
  lp : own p = some .pic
  lr : own rl = some .rows
  lst : H rl = some (.lst (rows.map V.ref))
  row : Paired (RowAt H own) rows rws
  cols : c.colours = rws.flatten
  ht : rws.length = c.height
  wd : ∀ r ∈ rws, r.length = c.width
  szw : c.width ≤ 512
  szh : c.height ≤ 512
  ww : 1 ≤ c.height → 1 ≤ c.width
  sm : ∀ r ∈ rws, ∀ n ∈ r, n < 4294967296
  out : OutAt a H own o l rs c.outline
/-- the picture at p is c -/
def Pic (a : Adr) (H : Hp) (own : Lab) (p : Addr) (c : Sw24.Picture) : Prop := ∃ rl o l rows rws rs, PicAt a H own p rl o l rows rws rs c
theorem PicAt.keep {a : Adr} {S : Role → Prop} {H H' : Hp} {own own' : Lab} {p rl o l : Addr} {rows : List Addr} {rws : List (List Nat)} {rs : List Addr} {c : Sw24.Picture} (h : PicAt a H own p rl o l rows rws rs c) (lab : LabOk H own) (s : Stp S H own H' own') (d : ∀ r, ¬ S r) : PicAt a H' own' p rl o l rows rws rs c := by
  obtain ⟨dx, hi⟩ := h.ins
  refine ⟨⟨dx, s.oth hi h.lp (d _)⟩, s.lab h.lp lab, s.lab h.lr lab, s.oth h.lst h.lr (d _), Paired.mapP h.row fun r ns ⟨q1, q2⟩ => ⟨s.lab q1 lab, s.oth q2 q1 (d _)⟩, h.cols, h.ht, h.wd, h.szw, h.szh, h.ww, h.sm, h.out.keep lab s fun r _ => d r⟩
/-- nothing of the picture has changed -/
theorem PicAt.same {a : Adr} {H H' : Hp} {own : Lab} {p rl o l : Addr} {rows : List Addr} {rws : List (List Nat)} {rs : List Addr} {c : Sw24.Picture} (h : PicAt a H own p rl o l rows rws rs c) (lab : LabOk H own) (s : Same H H') : PicAt a H' own p rl o l rows rws rs c :=
  h.keep lab (Stp.same (S := fun _ => False) s lab) fun _ z => z
/-- the outline alone has changed -/
theorem PicAt.outline {a : Adr} {H H' : Hp} {own own' : Lab} {p rl o l l' : Addr} {rows : List Addr} {rws : List (List Nat)} {rs rs' : List Addr} {c : Sw24.Picture} {ol : Sw24.Outline} (h : PicAt a H own p rl o l rows rws rs c) (lab : LabOk H own) (s : Stp isOut H own H' own') (ho : OutAt a H' own' o l' rs' ol) :
    PicAt a H' own' p rl o l' rows rws rs' { c with outline := ol } := by
  obtain ⟨dx, hi⟩ := h.ins
  exact ⟨⟨dx, s.oth hi h.lp (fun z => z)⟩, s.lab h.lp lab, s.lab h.lr lab, s.oth h.lst h.lr (fun z => z), Paired.mapP h.row fun r ns ⟨q1, q2⟩ => ⟨s.lab q1 lab, s.oth q2 q1 (fun z => z)⟩, h.cols, h.ht, h.wd, h.szw, h.szh, h.ww, h.sm, ho⟩
theorem picF_w {w h : Int} {rl o : Addr} : (picF w h rl o).lookup ("width" : Str) = some (.int w) := lk_hd
theorem picF_h {w h : Int} {rl o : Addr} : (picF w h rl o).lookup ("height" : Str) = some (.int h) := lk_tl (by decide +kernel) lk_hd
theorem picF_r {w h : Int} {rl o : Addr} : (picF w h rl o).lookup ("rows" : Str) = some (.ref rl) := lk_tl (by decide +kernel) (lk_tl (by decide +kernel) lk_hd)
theorem picF_o {w h : Int} {rl o : Addr} : (picF w h rl o).lookup ("outline" : Str) = some (.ref o) := lk_tl (by decide +kernel) (lk_tl (by decide +kernel) (lk_tl (by decide +kernel) lk_hd))
theorem picF_no {w h : Int} {rl o : Addr} {m : Str} (h1 : (m == ("width" : Str)) = false) (h2 : (m == ("height" : Str)) = false) (h3 : (m == ("rows" : Str)) = false) (h4 : (m == ("outline" : Str)) = false) : (picF w h rl o).lookup m = none := lk_tl h1 (lk_tl h2 (lk_tl h3 (lk_tl h4 lk_nil)))
theorem outF_no {n : Int} {l : Addr} {m : Str} (h1 : (m == ("rings" : Str)) = false) (h2 : (m == ("point_count" : Str)) = false) : (outF l n).lookup m = none := lk_tl h1 (lk_tl h2 lk_nil)
theorem picF_pw {w w' h : Int} {rl o : Addr} : putF "width" (.int w') (picF w h rl o) = picF w' h rl o := pf_hd
theorem picF_ph {w h h' : Int} {rl o : Addr} : putF "height" (.int h') (picF w h rl o) = picF w h' rl o := pf_tl (by decide +kernel) pf_hd
theorem picF_pr {w h : Int} {rl rl' o : Addr} : putF "rows" (.ref rl') (picF w h rl o) = picF w h rl' o := pf_tl (by decide +kernel) (pf_tl (by decide +kernel) pf_hd)
theorem picF_po {w h : Int} {rl o o' : Addr} : putF "outline" (.ref o') (picF w h rl o) = picF w h rl o' := pf_tl (by decide +kernel) (pf_tl (by decide +kernel) (pf_tl (by decide +kernel) pf_hd))
/-- labels for several -/
def layAll (own : Lab) (l : List Addr) (r : Role) : Lab := fun b => if b ∈ l then some r else own b
theorem layAll_in {own : Lab} {l : List Addr} {r : Role} {b : Addr} (h : b ∈ l) : layAll own l r b = some r := by unfold layAll; rw [if_pos h]
theorem layAll_ne {own : Lab} {l : List Addr} {r : Role} {b : Addr} (h : ¬ b ∈ l) : layAll own l r b = own b := by unfold layAll; rw [if_neg h]
theorem Stp.names {S : Role → Prop} {H H' : Hp} {own own' : Lab} {l : List Addr} {r : Role} (st : Stp S H own H' own') (n : ∀ b ∈ l, H b = Option.none) (e : ∀ b ∈ l, ∃ o, H' b = some o ∧ isMut o) (s : S r) : Stp S H own H' (layAll own' l r) where
  kp := st.kp
  ex := fun b => by
    by_cases z : b ∈ l
    · exact .inr ⟨n b z, fun r' q => by rw [layAll_in z] at q; cases q; exact s⟩
    · rw [layAll_ne z]
      exact st.ex b
  ok := fun b r' q => by
    by_cases z : b ∈ l
    · exact e b z
    · rw [layAll_ne z] at q
      exact st.ok b r' q
theorem paired_mem {α β : Type} {F : α → β → Prop} : ∀ {l : List α} {m : List β} {x : α}, Paired F l m → x ∈ l → ∃ y, y ∈ m ∧ F x y
  | _, _, _, .nil, h => by simp at h
  | _, _, x, .cons (l₁ := l) r t, h => by
    rcases List.mem_cons.mp h with e | e
    · subst e
      exact ⟨_, by simp, r⟩
    · obtain ⟨y, h1, h2⟩ := paired_mem t e
      exact ⟨y, by simp [h1], h2⟩
theorem paired_mapM {α β : Type} {F G : α → β → Prop} : ∀ {l : List α} {m : List β}, Paired F l m → (∀ a b, a ∈ l → F a b → G a b) → Paired G l m
  | _, _, .nil, _ => .nil
  | _, _, .cons r t, f => .cons (f _ _ (by simp) r) (paired_mapM t fun a b h => f a b (by simp [h]))
section
variable {P : Program} {w : World} {K : PySem.W.Frag} {mg : Str → Option Value} {base : Heap} {a : Adr}
/-! ### a new outline -/
theorem OutAt.new {H : Hp} {own : Lab} {o l dx : Addr} (h1 : H o = some (.ins a.c_Outline dx (outF l 0))) (h2 : H l = some (.lst [])) (h3 : own o = some .out) (h4 : own l = some .rings) : OutAt a H own o l [] [] :=
  ⟨⟨dx, h1⟩, h3, h4, h2, rfl, fun j r g e => by simp at e, by decide, fun g hg => by simp at hg⟩
/-! ### Picture.__init__ -/
def spPInit (a : Adr) : Sp := fun vs H Q _ => ∃ (p dx : Addr), vs = [.ref p] ∧ H p = some (.ins a.c_Picture dx []) ∧ ∀ (H' : Hp) (own : Lab), LabOk H' own → Pic a H' own p Sw24Neutral.start → (∀ b o, H b = some o → b ≠ p → H' b = some o ∧ own b = none) → Q .non H'
theorem scPInit : FnScope ["self"] ps_Picture_init (defScope st_Picture_init) := ⟨rfl, rfl, rfl, by decide +kernel, rfl, by decide +kernel, by decide +kernel⟩
theorem ok_pinit (T : Txt K mg a) : FnOk P w K mg base CX0 3 a.a_Picture_init a.d_Picture_init ps_Picture_init (spPInit a) := by
  have GO := ok_oinit (P := P) (w := w) (base := base) T
  refine T.f_Picture_init.ok scPInit (fun vs H Q E h => ?_) (fun cdv A outer s H vs Q E hr h => ?_)
  · obtain ⟨p, dx, rfl, _⟩ := h
    rfl
  · obtain ⟨p, dx, rfl, hp, q⟩ := h
    refine ⟨_, pss_cons (ps_fld (pv 0) pe_int rfl) (pss_cons (ps_fld (pv 0) pe_int rfl) (pss_cons (ps_fld (pv 0) (pe_lst pa_nil) rfl) (pss_one (ps_fld (pv 0) (pe_make0 T.mk_Outline GO hr rfl T.g_Outline T.b_Outline_init .nil pass0) rfl)))), ?_⟩
    refine ⟨_, rfl, p, _, dx, _, rfl, hp, T.cl_Picture, T.n_Picture_width, by decide, ?_⟩
    rw [pf_nil]
    refine ⟨_, rfl, p, _, dx, _, rfl, upd_same, T.cl_Picture, T.n_Picture_height, by show 1 < 1000; decide, ?_⟩
    rw [pf_tl (by decide +kernel) pf_nil, upd_upd]
    refine ⟨Nat.zero_le _, fun rl hrl => ?_⟩
    have hrl0 : H rl = none := by
      by_cases e : rl = p
      · subst e
        rw [upd_same] at hrl
        cases hrl
      · rw [upd_ne e] at hrl
        exact hrl
    have nrp : rl ≠ p := Ne.symm (ne_of_none hp hrl0)
    refine ⟨_, rfl, p, _, dx, _, rfl, by rw [upd_ne (Ne.symm nrp), upd_same], T.cl_Picture, T.n_Picture_rows, by show 2 < 1000; decide, ?_⟩
    rw [pf_tl (by decide +kernel) (pf_tl (by decide +kernel) pf_nil)]
    generalize hG : upd (upd (upd H p _) rl (.lst [])) p _ = G
    have gp : G p = some (.ins a.c_Picture dx [("width", .int 0), ("height", .int 0), ("rows", .ref rl)]) := by rw [← hG, upd_same]
    have gr : G rl = some (.lst []) := by rw [← hG, upd_ne nrp, upd_same]
    have gk : ∀ b o, H b = some o → b ≠ p → G b = some o := fun b o e ne => by
      rw [← hG, upd_ne ne, upd_ne (ne_of_none e hrl0), upd_ne ne]
      exact e
    intro x d hx hd ndx
    refine ⟨x, d, rfl, upd_same, fun H2 l nl h1 h2 h3 => ⟨rfl, ?_⟩⟩
    have nxp : x ≠ p := Ne.symm (ne_of_none gp hx)
    have ndp : d ≠ p := Ne.symm (ne_of_none gp hd)
    have k2 : ∀ b o, G b = some o → H2 b = some o := fun b o e => h3 b o (by rw [upd_ne (ne_of_none e hx), upd_ne (ne_of_none e hd)]; exact e) (ne_of_none e hx)
    refine ⟨_, rfl, p, _, dx, _, rfl, k2 _ _ gp, T.cl_Picture, T.n_Picture_outline, by show 3 < 1000; decide, ?_⟩
    rw [pf_tl (by decide +kernel) (pf_tl (by decide +kernel) (pf_tl (by decide +kernel) pf_nil))]
    have nl' : G l = none := by
      by_cases e : l = x
      · rw [e]
        exact hx
      · by_cases e2 : l = d
        · rw [e2]
          exact hd
        · rw [upd_ne e, upd_ne e2] at nl
          exact nl
    have nlp : l ≠ p := Ne.symm (ne_of_none gp nl')
    have nlr : l ≠ rl := Ne.symm (ne_of_none gr nl')
    have nxr : x ≠ rl := Ne.symm (ne_of_none gr hx)
    have nlx : l ≠ x := fun e => by
      rw [e, upd_same] at nl
      cases nl
    refine q _ (fun b => if b = p then some .pic else if b = rl then some .rows else if b = x then some .out else if b = l then some .rings else none) (fun b r e => ?_) ⟨rl, x, l, [], [], [], ⟨dx, upd_same⟩, ?_, ?_, ?_, .nil, rfl, rfl, fun r hr => by simp at hr, by decide, by decide, fun z => absurd z (by decide), fun r hr => by simp at hr, OutAt.new (dx := d) ?_ ?_ ?_ ?_⟩ fun b o e ne => ⟨?_, ?_⟩
    · dsimp only at e
      by_cases e1 : b = p
      · rw [e1]
        exact ⟨_, upd_same, trivial⟩
      · rw [if_neg e1] at e
        rw [upd_ne e1]
        by_cases e2 : b = rl
        · rw [e2]
          exact ⟨_, k2 _ _ gr, trivial⟩
        · rw [if_neg e2] at e
          by_cases e3 : b = x
          · rw [e3]
            exact ⟨_, h1, trivial⟩
          · rw [if_neg e3] at e
            by_cases e4 : b = l
            · rw [e4]
              exact ⟨_, h2, trivial⟩
            · rw [if_neg e4] at e
              cases e
    · exact if_pos rfl
    · show (if rl = p then _ else _) = _
      rw [if_neg nrp, if_pos rfl]
    · rw [upd_ne nrp]
      exact k2 _ _ gr
    · rw [upd_ne nxp]
      exact h1
    · rw [upd_ne nlp]
      exact h2
    · show (if x = p then _ else _) = _
      rw [if_neg nxp, if_neg nxr, if_pos rfl]
    · show (if l = p then _ else _) = _
      rw [if_neg nlp, if_neg nlr, if_neg nlx, if_pos rfl]
    · rw [upd_ne ne]
      exact k2 _ _ (gk _ _ e ne)
    · have n1 := gk _ _ e ne
      show (if b = p then _ else _) = _
      rw [if_neg ne, if_neg (ne_of_none e hrl0), if_neg (ne_of_none n1 hx), if_neg (ne_of_none n1 nl')]
end
end Of
set_option Elab.async false
set_option linter.all false
set_option maxRecDepth 100000
set_option maxHeartbeats 2000000
namespace Of
open PySem PySem.Spec PyProof.Rows L2
/-- what a call on the picture at p is to reach -/
def Does (a : Adr) (H : Hp) (p : Addr) (call : Sw24.Call) (Q : VK) : Prop := ∃ (own : Lab) (c : Sw24.Picture), LabOk H own ∧ Pic a H own p c ∧
  ∀ (H' : Hp) (own' : Lab), Stp isAny H own H' own' → Pic a H' own' p (Sw24.step c call).1 → Q (.int (Sw24.step c call).2.code) H'
theorem and_read {t u : TT} {σ : L2.St} {H : Hp} {Q : Bool → Hp → Prop} {b c : Bool} (h1 : ∀ R : Bool → Hp → Prop, R b H → t σ H R) (h2 : ∀ R : Bool → Hp → Prop, R c H → u σ H R) (q : Q (b && c) H) : tAnd t u σ H Q := by
  refine h1 _ ?_
  cases b with
  | true =>
    rw [if_pos rfl]
    exact h2 _ q
  | false =>
    rw [if_neg (by decide)]
    exact q
theorem within_in (n lo hi : Int) : Sw24.within n lo hi = inB lo hi n := rfl
theorem rep_cells (n : Nat) : (List.replicate n [V.int 0]).flatten = cells (List.replicate n 0) := by
  unfold cells
  rw [List.flatten_replicate_singleton, List.map_replicate]
  rfl
section
variable {P : Program} {w : World} {K : PySem.W.Frag} {mg : Str → Option Value} {base : Heap} {a : Adr}
/-! ### Picture.begin -/
def spOpen (a : Adr) : Sp := fun vs H Q _ => ∃ (p : Addr) (x y : Int), vs = [.ref p, .int x, .int y] ∧ Does a H p (.open_ x y) Q
theorem scOpen : FnScope ["self", "width", "height", "y"] ps_Picture_begin (defScope st_Picture_begin) := ⟨rfl, rfl, rfl, by decide +kernel, rfl, by decide +kernel, by decide +kernel⟩
theorem ok_open (T : Txt K mg a) : FnOk P w K mg base CX0 3 a.a_Picture_begin a.d_Picture_begin ps_Picture_begin (spOpen a) := by
  have GO := ok_oinit (P := P) (w := w) (base := base) T
  have GS := ok_side (P := P) (w := w) (base := base) T
  refine T.f_Picture_begin.ok scOpen (fun vs H Q E h => ?_) (fun cdv A outer s H vs Q E hr h => ?_)
  · obtain ⟨p, x, y, rfl, _⟩ := h
    rfl
  · obtain ⟨p, wd, ht, rfl, own, c, lab, hP, q⟩ := h
    have hr1 : Room 1 _ := hr.mono (by decide)
    refine ⟨_, pss_cons (ps_if (pt_not (PW.pt (pw_and (pt_val (pe_call GS hr1 rfl T.g_is_side T.f_is_side.kp T.b_is_side .nil pass0 (pa_cons (pv 1) pa_nil))) (pw_and1 (pt_val (pe_call GS hr1 rfl T.g_is_side T.f_is_side.kp T.b_is_side .nil pass0 (pa_cons (pv 2) pa_nil))))))) (pss_one (ps_ret (pe_gint T.k_OUT_OF_RANGE))) pss_nil)
      (pss_cons (ps_fld (pv 0) (pv 1) rfl) (pss_cons (ps_fld (pv 0) (pv 2) rfl)
      (pss_cons (ps_fld (pv 0) (pe_lc (own := [("y", 3)]) rfl scOpen.nd (pi_range1 rfl T.z_range (pa_cons (pv 2) pa_nil)) (blkOk_by (by change blkC ["self", "width", "height", "y"] (defScope st_Picture_begin) _ _ = true; decide +kernel)) (fun _ _ _ _ _ => pg_name (i := 3) scOpen.nd rfl (Or.inl rfl)) (fun _ _ _ _ _ => pts_nil)
        (fun _ _ _ _ _ => pe_op op_rep (pe_lst (pa_cons pe_int pa_nil)) (pv 1))) rfl)
      (pss_cons (ps_fld (pv 0) (pe_make0 T.mk_Outline GO hr rfl T.g_Outline T.b_Outline_init .nil pass0) rfl) (pss_one (ps_ret pe_int)))))), ?_⟩
    refine and_read (b := inB 1 512 wd) (c := inB 1 512 ht) (fun R r => ⟨_, rfl, wd, rfl, _, rfl, r⟩) (fun R r => ⟨_, rfl, ht, rfl, _, rfl, r⟩) ?_
    refine ite2 (fun e => ?_) (fun e => ?_)
    · have e' : (Sw24.within wd 1 512 && Sw24.within ht 1 512) = false := by
        rw [within_in, within_in]
        rw [Bool.not_eq_true'] at e
        exact e
      have es : Sw24.step c (.open_ wd ht) = (c, Sw24.says (-2)) := by
        show (if (Sw24.within wd 1 512 && Sw24.within ht 1 512) = false then _ else _) = _
        rw [if_pos e']
      have q' := q H own (Stp.refl lab)
      rw [es] at q'
      exact q' hP
    · have e' : (inB 1 512 wd && inB 1 512 ht) = true := by simpa using e
      have es : Sw24.step c (.open_ wd ht) = (⟨wd.toNat, ht.toNat, List.replicate (wd.toNat * ht.toNat) 0, []⟩, Sw24.says 0) := by
        show (if (Sw24.within wd 1 512 && Sw24.within ht 1 512) = false then _ else _) = _
        rw [within_in, within_in, e', if_neg (by decide)]
      rw [es] at q
      have bw : 1 ≤ wd ∧ wd ≤ 512 ∧ 1 ≤ ht ∧ ht ≤ 512 := by
        unfold inB at e'
        simp only [Bool.and_eq_true, decide_eq_true_eq] at e'
        omega
      obtain ⟨b1, b2, b3, b4⟩ := bw
      obtain ⟨rl, o, l, rows, rws, rs, hA⟩ := hP
      obtain ⟨dx, hi⟩ := hA.ins
      refine ⟨_, rfl, _, rfl, p, _, dx, _, rfl, hi, T.cl_Picture, T.n_Picture_width, by show 4 < 1000; decide, ?_⟩
      rw [picF_pw]
      refine ⟨_, rfl, _, rfl, p, _, dx, _, rfl, upd_same, T.cl_Picture, T.n_Picture_height, by show 4 < 1000; decide, ?_⟩
      rw [picF_ph, upd_upd]
      have st1 : Stp isAny H own (upd H p (.ins a.c_Picture dx (picF wd ht rl o))) own := Stp.put lab hA.lp trivial trivial
      generalize hH2 : upd H p (.ins a.c_Picture dx (picF wd ht rl o)) = H2 at st1 ⊢
      have p2 : H2 p = some (.ins a.c_Picture dx (picF wd ht rl o)) := by rw [← hH2, upd_same]
      have free2 : ∀ b, H2 b = none → H b = none := fun b e => by
        by_cases z : b = p
        · rw [z, p2] at e
          cases e
        · rw [← hH2, upd_ne z] at e
          exact e
      refine ⟨_, rfl, ht, rfl, by omega, by omega, fun D hD => ?_⟩
      refine lc_range (n := ht.toNat) (fun i G => Same H2 G ∧ ∃ ra : List Addr, G D = some (.lst (ra.map V.ref)) ∧ ra.length = i ∧ ∀ r ∈ ra, H2 r = none ∧ r ≠ D ∧ G r = some (.lst (cells (List.replicate wd.toNat 0)))) ⟨same_new hD, [], upd_same, rfl, fun r hr => by simp at hr⟩ (fun i G hi ⟨sm, ra, hl, hn, hp⟩ => ?_) (fun G ⟨sm, ra, hl, hn, hp⟩ => ?_)
      · refine ⟨rfl, ?_⟩
        unfold tYes
        refine iteT ?_
        refine ⟨by show 1 ≤ sizeLine; decide, fun u hu => ?_⟩
        refine ⟨_, rfl, u, wd, _, rfl, rfl, upd_same, by omega, by omega, ?_, fun v hv => ?_⟩
        · show 1 * wd.toNat ≤ sizeLine
          exact Nat.le_trans (show 1 * wd.toNat ≤ 512 by omega) (by decide)
        · have hv' : G v = none := by
            by_cases z : v = u
            · rw [z, upd_same] at hv
              cases hv
            · rw [upd_ne z] at hv
              exact hv
          have nuv : v ≠ u := fun z => by
            rw [z, upd_same] at hv
            cases hv
          have nDu : D ≠ u := ne_of_none hl hu
          have nDv : D ≠ v := ne_of_none hl hv'
          have sm2 : Same H2 (upd (upd (upd G u (.lst [.int 0])) v (.lst (List.replicate wd.toNat [V.int 0]).flatten)) D (.lst (ra.map V.ref ++ [.ref v]))) := fun b ob eb => by
            have g1 := sm _ _ eb
            rw [upd_ne (ne_of_none eb hD), upd_ne (ne_of_none g1 hv'), upd_ne (ne_of_none g1 hu)]
            exact g1
          refine ⟨ra.map V.ref, by rw [upd_ne nDv, upd_ne nDu]; exact hl, ?_, sm2, ra ++ [v], ?_, by simp [hn], fun r hr => ?_⟩
          · rw [List.length_map, hn]
            exact Nat.lt_of_lt_of_le (show i < 512 by omega) (by decide)
          · rw [upd_same, List.map_append]
            rfl
          · rcases List.mem_append.mp hr with z | z
            · obtain ⟨g1, g2, g3⟩ := hp r z
              exact ⟨g1, g2, by rw [upd_ne g2, upd_ne (ne_of_none g3 hv'), upd_ne (ne_of_none g3 hu)]; exact g3⟩
            · have z' : r = v := by simpa using z
              subst z'
              refine ⟨?_, Ne.symm nDv, by rw [upd_ne (Ne.symm nDv), upd_same, rep_cells]⟩
              cases eb : H2 r with
              | none => rfl
              | some ob =>
                rw [sm _ _ eb] at hv'
                cases hv'
      · have pG := sm _ _ p2
        have npD : p ≠ D := ne_of_none p2 hD
        refine ⟨_, rfl, p, _, dx, _, rfl, pG, T.cl_Picture, T.n_Picture_rows, by show 4 < 1000; decide, ?_⟩
        rw [picF_pr]
        have st2 : Stp isAny H own G own := st1.trans lab (Stp.same sm st1.ok)
        have st3 := st2.trans lab (Stp.put (a := p) (o := .ins a.c_Picture dx (picF wd ht D o)) st2.ok hA.lp trivial trivial)
        generalize hH5 : upd G p (.ins a.c_Picture dx (picF wd ht D o)) = H5 at st3 ⊢
        have p5 : H5 p = some (.ins a.c_Picture dx (picF wd ht D o)) := by rw [← hH5, upd_same]
        have k5 : ∀ b ob, G b = some ob → b ≠ p → H5 b = some ob := fun b ob eb ne => by
          rw [← hH5, upd_ne ne]
          exact eb
        have free5 : ∀ b, H5 b = none → H2 b = none := fun b e => by
          cases eb : H2 b with
          | none => rfl
          | some ob =>
            by_cases z : b = p
            · rw [z, p5] at e
              cases e
            · rw [k5 _ _ (sm _ _ eb) z] at e
              cases e
        intro x d hx hd ndx
        refine ⟨x, d, rfl, upd_same, fun H6 m nm h1 h2 h3 => ⟨rfl, ?_⟩⟩
        have sm6 : Same H5 H6 := fun b ob eb => h3 b ob (by rw [upd_ne (ne_of_none eb hx), upd_ne (ne_of_none eb hd)]; exact eb) (ne_of_none eb hx)
        have p6 := sm6 _ _ p5
        refine ⟨_, rfl, p, _, dx, _, rfl, p6, T.cl_Picture, T.n_Picture_outline, by show 4 < 1000; decide, ?_⟩
        rw [picF_po]
        have st4 := st3.trans lab (Stp.same sm6 st3.ok)
        have st5 := st4.trans lab (Stp.put (a := p) (o := .ins a.c_Picture dx (picF wd ht D x)) st4.ok hA.lp trivial trivial)
        have nm' : H5 m = none := by
          by_cases z : m = x
          · rw [z]
            exact hx
          · by_cases z2 : m = d
            · rw [z2]
              exact hd
            · rw [upd_ne z, upd_ne z2] at nm
              exact nm
        have nmx : m ≠ x := fun z => by
          rw [z, upd_same] at nm
          cases nm
        have nxp : x ≠ p := Ne.symm (ne_of_none p5 hx)
        have nmp : m ≠ p := Ne.symm (ne_of_none p5 nm')
        have D5 : H5 D = some (.lst (ra.map V.ref)) := k5 _ _ hl (Ne.symm npD)
        have nxD : x ≠ D := Ne.symm (ne_of_none D5 hx)
        have nmD : m ≠ D := Ne.symm (ne_of_none D5 nm')
        have r5 : ∀ r ∈ ra, H5 r = some (.lst (cells (List.replicate wd.toNat 0))) ∧ r ≠ p ∧ r ≠ D := fun r hr => by
          obtain ⟨g1, g2, g3⟩ := hp r hr
          have n : r ≠ p := Ne.symm (ne_of_none p2 g1)
          exact ⟨k5 _ _ g3 n, n, g2⟩
        have x7 : upd H6 p (.ins a.c_Picture dx (picF wd ht D x)) x = some (.ins a.c_Outline d (outF m 0)) := by
          rw [upd_ne nxp]
          exact h1
        have m7 : upd H6 p (.ins a.c_Picture dx (picF wd ht D x)) m = some (.lst []) := by
          rw [upd_ne nmp]
          exact h2
        have D7 : upd H6 p (.ins a.c_Picture dx (picF wd ht D x)) D = some (.lst (ra.map V.ref)) := by
          rw [upd_ne (Ne.symm npD)]
          exact sm6 _ _ D5
        have r7 : ∀ r ∈ ra, upd H6 p (.ins a.c_Picture dx (picF wd ht D x)) r = some (.lst (cells (List.replicate wd.toNat 0))) := fun r hr => by
          obtain ⟨g1, g2, g3⟩ := r5 r hr
          rw [upd_ne g2]
          exact sm6 _ _ g1
        have st6 := st5.names (l := ra) (r := .row) (fun b hb => free2 b (hp b hb).1) (fun b hb => ⟨_, r7 b hb, trivial⟩) trivial
        have st7 := st6.name (a := D) (r := .rows) (free2 D hD) D7 trivial trivial
        have st8 := st7.name (a := x) (r := .out) (free2 x (free5 x hx)) x7 trivial trivial
        have st9 := st8.name (a := m) (r := .rings) (free2 m (free5 m nm')) m7 trivial trivial
        have nra : ∀ b, (H5 b = none ∨ b = D ∨ b = p) → ¬ b ∈ ra := fun b hb hm => by
          obtain ⟨g1, g2, g3⟩ := r5 b hm
          rcases hb with z | z | z
          · rw [g1] at z
            cases z
          · exact g3 z
          · exact g2 z
        refine q _ _ st9 ⟨D, x, m, ra, List.replicate ht.toNat (List.replicate wd.toNat 0), [], ⟨dx, ?_⟩, ?_, ?_, D7, ?_, ?_, ?_, fun r hr => ?_, ?_, ?_, fun _ => by show 1 ≤ wd.toNat; omega, fun r hr n hn => ?_, OutAt.new (dx := d) x7 m7 ?_ ?_⟩
        · rw [upd_same, Int.toNat_of_nonneg (by omega), Int.toNat_of_nonneg (by omega)]
        · rw [lay_ne (Ne.symm nmp), lay_ne (Ne.symm nxp), lay_ne npD, layAll_ne (nra p (.inr (.inr rfl)))]
          exact hA.lp
        · rw [lay_ne (Ne.symm nmD), lay_ne (Ne.symm nxD), lay_same]
        · rw [← hn]
          have hr7 : ∀ r ∈ ra, RowAt (upd H6 p (.ins a.c_Picture dx (picF wd ht D x))) (lay (lay (lay (layAll own ra .row) D .rows) x .out) m .rings) r (List.replicate wd.toNat 0) := fun r hr => by
            obtain ⟨g1, g2, g3⟩ := r5 r hr
            refine ⟨?_, r7 r hr⟩
            rw [lay_ne (ne_of_none g1 nm'), lay_ne (ne_of_none g1 hx), lay_ne g3, layAll_in hr]
          clear hn hl hp st6 st7 st8 st9 D5 D7 r5 r7 nra
          generalize lay (lay (lay (layAll own ra .row) D .rows) x .out) m .rings = own9 at hr7 ⊢
          induction ra with
          | nil => exact .nil
          | cons r ra ih => exact .cons (hr7 r (by simp)) (ih fun b hb => hr7 b (by simp [hb]))
        · show List.replicate (wd.toNat * ht.toNat) 0 = (List.replicate ht.toNat (List.replicate wd.toNat 0)).flatten
          rw [List.flatten_replicate_replicate, Nat.mul_comm]
        · rw [List.length_replicate]
        · rw [(List.mem_replicate.mp hr).2, List.length_replicate]
        · show wd.toNat ≤ 512
          omega
        · show ht.toNat ≤ 512
          omega
        · rw [(List.mem_replicate.mp hr).2] at hn
          rw [(List.mem_replicate.mp hn).2]
          decide
        · rw [lay_ne (Ne.symm nmx), lay_same]
        · exact lay_same
end
end Of
set_option Elab.async false
set_option linter.all false
set_option maxRecDepth 100000
set_option maxHeartbeats 2000000
namespace Of
open PySem PySem.Spec PyProof.Rows L2
theorem cut_take {xs : List V} {x : Nat} (h : x ≤ xs.length) : cutV xs none (some (x : Int)) = xs.take x := by
  unfold cutV
  rw [HT.sIx_none, HT.sIx_nat, Nat.min_eq_left h, List.drop_zero, Nat.sub_zero]
theorem cut_drop {xs : List V} {x : Nat} (h : x ≤ xs.length) : cutV xs (some (x : Int)) none = xs.drop x := by
  unfold cutV
  rw [HT.sIx_none, HT.sIx_nat, Nat.min_eq_left h]
  rw [List.take_of_length_le (by rw [List.length_drop]; omega)]
theorem paint_cells {x w k : Nat} {r : List Nat} : (cells r).take x ++ (List.replicate w [V.int (k : Int)]).flatten ++ (cells r).drop (x + w) = cells (paintRow x w k r) := by
  unfold cells paintRow
  rw [List.flatten_replicate_singleton, List.map_append, List.map_append, List.map_replicate, List.map_take, List.map_drop]
theorem paired_set {α β : Type} {F : α → β → Prop} {a : α} {b : β} (h : F a b) : ∀ {l : List α} {m : List β} (i : Nat), Paired F l m → Paired F (l.set i a) (m.set i b)
  | _, _, _, .nil => .nil
  | _, _, 0, .cons _ t => .cons h t
  | _, _, i + 1, .cons r t => .cons r (paired_set h i t)
theorem paintRow_len {x w k : Nat} {r : List Nat} (h : x + w ≤ r.length) : (paintRow x w k r).length = r.length := by
  unfold paintRow
  rw [List.length_append, List.length_append, List.length_take, List.length_replicate, List.length_drop]
  omega
theorem paintRow_mem {x w k n : Nat} {r : List Nat} (h : n ∈ paintRow x w k r) : n = k ∨ n ∈ r := by
  unfold paintRow at h
  rcases List.mem_append.mp h with z | z
  · rcases List.mem_append.mp z with y | y
    · exact .inr (List.mem_of_mem_take y)
    · exact .inl (List.mem_replicate.mp y).2
  · exact .inr (List.mem_of_mem_drop z)
theorem painted_mem {x y w k i : Nat} {rws : List (List Nat)} {r : List Nat} (h : r ∈ painted x y w k i rws) : ∃ r0 ∈ rws, r = r0 ∨ r = paintRow x w k r0 := by
  obtain ⟨j, hj, e⟩ := List.mem_iff_getElem.mp h
  have e2 : (painted x y w k i rws)[j]? = some r := by rw [List.getElem?_eq_getElem hj, e]
  rw [painted_get] at e2
  cases q : rws[j]? with
  | none => rw [q] at e2; cases e2
  | some r0 =>
    rw [q] at e2
    simp only [Option.map_some, Option.some.injEq] at e2
    refine ⟨r0, List.mem_of_getElem? q, ?_⟩
    split at e2
    · exact .inr e2.symm
    · exact .inl e2.symm
theorem bendC_small {a c b : Int} {i : Nat} (hi : i < 16) (ha : -1000000 ≤ a ∧ a ≤ 1000000) (hc : -1000000 ≤ c ∧ c ≤ 1000000) (hb : -1000000 ≤ b ∧ b ≤ 1000000) : -1000000 ≤ bendC a c b ((i : Int) + 1) ∧ bendC a c b ((i : Int) + 1) ≤ 1000000 := by
  have e : i = 0 ∨ i = 1 ∨ i = 2 ∨ i = 3 ∨ i = 4 ∨ i = 5 ∨ i = 6 ∨ i = 7 ∨ i = 8 ∨ i = 9 ∨ i = 10 ∨ i = 11 ∨ i = 12 ∨ i = 13 ∨ i = 14 ∨ i = 15 := by omega
  unfold bendC
  rcases e with e | e | e | e | e | e | e | e | e | e | e | e | e | e | e | e <;> subst e <;> constructor <;> omega
theorem bend_small {a c b p : Sw24.P} (ha : Small a) (hc : Small c) (hb : Small b) (h : p ∈ Sw24.bend a c b) : Small p := by
  rw [bend_eq] at h
  obtain ⟨i, hi, e⟩ := List.mem_map.mp h
  subst e
  have hi' : _ < _ := List.mem_range.mp hi
  obtain ⟨a1, a2, a3, a4⟩ := ha
  obtain ⟨b1, b2, b3, b4⟩ := hb
  obtain ⟨c1, c2, c3, c4⟩ := hc
  have x := bendC_small hi' ⟨a1, a2⟩ ⟨c1, c2⟩ ⟨b1, b2⟩
  have y := bendC_small hi' ⟨a3, a4⟩ ⟨c3, c4⟩ ⟨b3, b4⟩
  exact ⟨x.1, x.2, y.1, y.2⟩
theorem bend_len (a c b : Sw24.P) : (Sw24.bend a c b).length = 16 := by
  unfold Sw24.bend
  rw [List.length_map, List.length_range]
theorem inB_iff {lo hi n : Int} : inB lo hi n = true ↔ lo ≤ n ∧ n ≤ hi := by
  simp only [inB, Bool.and_eq_true, decide_eq_true_eq]
theorem last_none {H : Hp} {own : Lab} {a : Adr} {o l : Addr} {rs : List Addr} {ol : Sw24.Outline} (h : OutAt a H own o l rs ol) (ne : ol ≠ []) : ∃ p, Sw24.lastPoint ol = some p := by
  obtain ⟨rs', r, ol', g, ts, e1, e2, hl, q1, q2, q3, q4⟩ := h.last ne
  rcases List.eq_nil_or_concat g with e3 | ⟨g', p, e3⟩
  · exact absurd e3 q2
  · rw [List.concat_eq_append] at e3
    exact ⟨p, by rw [e2, e3]; exact last_snoc _ _ _⟩
section
variable {P : Program} {w : World} {K : PySem.W.Frag} {mg : Str → Option Value} {base : Heap} {a : Adr}
/-! ### Picture.holds_box -/
def spHolds (a : Adr) : Sp := fun vs H Q _ => ∃ (p dx rl o : Addr) (W Y x y w h : Int), vs = [.ref p, .int x, .int y, .int w, .int h] ∧ H p = some (.ins a.c_Picture dx (picF W Y rl o)) ∧ Q (.bl (inB 0 W x && (inB 0 Y y && (inB 0 (W - x) w && inB 0 (Y - y) h)))) H
theorem scHolds : FnScope ["self", "x", "y", "w", "h"] ps_Picture_holds_box (defScope st_Picture_holds_box) := ⟨rfl, rfl, rfl, by decide +kernel, rfl, by decide +kernel, by decide +kernel⟩
theorem ok_holds (T : Txt K mg a) : FnOk P w K mg base CX0 1 a.a_Picture_holds_box a.d_Picture_holds_box ps_Picture_holds_box (spHolds a) := by
  refine T.f_Picture_holds_box.ok scHolds (fun vs H Q E h => ?_) (fun cdv A outer s H vs Q E hr h => ?_)
  · obtain ⟨p, dx, rl, o, W, Y, x, y, w, h, rfl, _⟩ := h
    rfl
  · obtain ⟨p, dx, rl, o, W, Y, x, y, w, h, rfl, hp, q⟩ := h
    refine ⟨_, pss_cons (ps_if (pt_not (PW.pt (pw_and (pt_chain op_le op_le pe_int (pv 1) (pe_fld (pv 0) rfl)) (pw_and1 (pt_chain op_le op_le pe_int (pv 2) (pe_fld (pv 0) rfl)))))) (pss_one (ps_ret pe_bl)) pss_nil)
      (pss_one (ps_ret (pe_and (pe_chain op_le op_le pe_int (pv 3) (pe_op op_sub (pe_fld (pv 0) rfl) (pv 1))) (pe_one (pe_chain op_le op_le pe_int (pv 4) (pe_op op_sub (pe_fld (pv 0) rfl) (pv 2))))))), ?_⟩
    refine and_read (b := inB 0 W x) (c := inB 0 Y y) (fun R r => chain_le rd_c (rd_var rfl) (fun S s => ⟨_, rfl, p, _, dx, _, _, rfl, hp, T.cl_Picture, T.n_Picture_width, picF_w, s⟩) ⟨_, rfl, r⟩)
      (fun R r => chain_le rd_c (rd_var rfl) (fun S s => ⟨_, rfl, p, _, dx, _, _, rfl, hp, T.cl_Picture, T.n_Picture_height, picF_h, s⟩) ⟨_, rfl, r⟩) ?_
    refine ite2 (fun e => ?_) (fun e => ?_)
    · rw [Bool.not_eq_true'] at e
      have e2 : (inB 0 W x && (inB 0 Y y && (inB 0 (W - x) w && inB 0 (Y - y) h))) = false := by
        rw [← Bool.and_assoc, e, Bool.false_and]
      rw [e2] at q
      exact q
    · have e1 : (inB 0 W x && inB 0 Y y) = true := by simpa using e
      rw [← Bool.and_assoc, e1, Bool.true_and] at q
      refine chain_le (i := 0) (j := w) (k := W - x) rd_c (rd_var rfl) (fun S s => ⟨_, rfl, p, _, dx, _, _, rfl, hp, T.cl_Picture, T.n_Picture_width, picF_w, _, rfl, _, _, rfl, rfl, s⟩) ⟨_, rfl, ?_⟩
      refine ite2 (fun e2 => ?_) (fun e2 => ?_)
      · refine chain_le (i := 0) (j := h) (k := Y - y) rd_c (rd_var rfl) (fun S s => ⟨_, rfl, p, _, dx, _, _, rfl, hp, T.cl_Picture, T.n_Picture_height, picF_h, _, rfl, _, _, rfl, rfl, s⟩) ?_
        have e3 : inB 0 (W - x) w = true := e2
        rw [e3, Bool.true_and] at q
        exact q
      · have e3 : inB 0 (W - x) w = false := Bool.eq_false_iff.mpr e2
        rw [e3, Bool.false_and] at q
        exact q
/-! ### Picture.paint -/
def spPaint (a : Adr) : Sp := fun vs H Q _ => ∃ (p : Addr) (x y w h : Int) (k : Nat), vs = [.ref p, .int x, .int y, .int w, .int h, .int k] ∧ k < 4294967296 ∧ Does a H p (.colour x y w h k) Q
theorem scPaint : FnScope ["self", "x", "y", "w", "h", "colour", "at", "row"] ps_Picture_paint (defScope st_Picture_paint) := ⟨rfl, rfl, rfl, by decide +kernel, rfl, by decide +kernel, by decide +kernel⟩
theorem ok_paint (T : Txt K mg a) : FnOk P w K mg base CX0 2 a.a_Picture_paint a.d_Picture_paint ps_Picture_paint (spPaint a) := by
  have GH := ok_holds (P := P) (w := w) (base := base) T
  have GC := ok_colour (P := P) (w := w) (base := base) T
  refine T.f_Picture_paint.ok scPaint (fun vs H Q E h => ?_) (fun cdv A outer s H vs Q E hr h => ?_)
  · obtain ⟨p, x, y, w, h, k, rfl, _⟩ := h
    rfl
  · obtain ⟨p, x, y, w, h, k, rfl, hk, own, c, lab, hP, q⟩ := h
    refine ⟨_, pss_cons (ps_if (pt_not (PW.pt (pw_and (pt_val (pe_meth (pv 0) T.cl_Picture T.m_Picture_holds_box GH hr T.b_Picture_holds_box .nil pass0 (pa_cons (pv 1) (pa_cons (pv 2) (pa_cons (pv 3) (pa_cons (pv 4) pa_nil))))))
        (pw_and1 (pt_val (pe_call GC hr rfl T.g_is_colour T.f_is_colour.kp T.b_is_colour .nil pass0 (pa_cons (pv 5) pa_nil))))))) (pss_one (ps_ret (pe_gint T.k_OUT_OF_RANGE))) pss_nil)
      (pss_cons (ps_for PassesOwn.never rfl (pi_range2 rfl T.z_range (pa_cons (pv 2) (pa_cons (pe_op op_add (pv 2) (pv 4)) pa_nil))) (pg_name (i := 6) scPaint.nd rfl (Or.inl rfl))
        (pss_cons (ps_set (i := 7) scPaint.nd rfl (Or.inl rfl) (pe_ix ix_list (pe_fld (pv 0) rfl) (pv 6) (fun _ _ => rfl)))
        (pss_one (ps_asg (pe_op op_cat (pe_op op_cat (pe_slice sl_list (pv 7) po_none (po_some (pv 1))) (pe_op op_rep (pe_lst (pa_cons (pv 5) pa_nil)) (pv 3))) (pe_slice sl_list (pv 7) (po_some (pe_op op_add (pv 1) (pv 3))) po_none)) (pg_sub (pe_fld (pv 0) rfl) (pv 6) set_list)))))
      (pss_one (ps_ret pe_int))), ?_⟩
    obtain ⟨rl, o, l, rows, rws, rs, hA⟩ := id hP
    obtain ⟨dx, hi⟩ := hA.ins
    have ek : inB 0 4294967295 (k : Int) = true := inB_iff.mpr ⟨by omega, by omega⟩
    refine and_read (b := inB 0 c.width x && (inB 0 c.height y && (inB 0 (c.width - x) w && inB 0 (c.height - y) h))) (c := inB 0 4294967295 (k : Int)) (fun R r => ⟨_, rfl, p, dx, _, rfl, hi, picF_no (by decide +kernel) (by decide +kernel) (by decide +kernel) (by decide +kernel), _, rfl, _, rfl, _, rfl, _, rfl, p, dx, rl, o, _, _, x, y, w, h, rfl, hi, _, rfl, r⟩)
      (fun R r => ⟨_, rfl, _, rfl, _, rfl, r⟩) ?_
    rw [ek, Bool.and_true]
    refine ite2 (fun e => ?_) (fun e => ?_)
    · rw [Bool.not_eq_true'] at e
      have es : Sw24.step c (.colour x y w h k) = (c, Sw24.says (-2)) := by
        show (if (inB 0 c.width x && (inB 0 c.height y && (inB 0 (c.width - x) w && inB 0 (c.height - y) h))) = false then _ else _) = _
        rw [if_pos e]
      have q' := q H own (Stp.refl lab)
      rw [es] at q'
      exact q' hP
    · have e1 : (inB 0 c.width x && (inB 0 c.height y && (inB 0 (c.width - x) w && inB 0 (c.height - y) h))) = true := by simpa using e
      have es : Sw24.step c (.colour x y w h k) = (Sw24.coloured c x.toNat y.toNat w.toNat h.toNat k, Sw24.says 0) := by
        show (if (inB 0 c.width x && (inB 0 c.height y && (inB 0 (c.width - x) w && inB 0 (c.height - y) h))) = false then _ else _) = _
        rw [e1, if_neg (by decide)]
      rw [es] at q
      rw [Bool.and_eq_true, Bool.and_eq_true, Bool.and_eq_true, inB_iff, inB_iff, inB_iff, inB_iff] at e1
      obtain ⟨⟨x0, x1⟩, ⟨y0, y1⟩, ⟨w0, w1⟩, h0, h1⟩ := e1
      obtain ⟨x, rfl⟩ : ∃ n : Nat, x = n := ⟨x.toNat, by omega⟩
      obtain ⟨y, rfl⟩ : ∃ n : Nat, y = n := ⟨y.toNat, by omega⟩
      obtain ⟨w, rfl⟩ : ∃ n : Nat, w = n := ⟨w.toNat, by omega⟩
      obtain ⟨h, rfl⟩ : ∃ n : Nat, h = n := ⟨h.toNat, by omega⟩
      simp only [Int.toNat_natCast] at q
      have szw := hA.szw
      have szh := hA.szh
      have xw : x + w ≤ c.width := by omega
      have yh : y + h ≤ c.height := by omega
      refine ⟨_, rfl, _, rfl, _, rfl, _, _, rfl, rfl, y, (y : Int) + h, rfl, ⟨by omega, by omega, by omega, by omega⟩, ?_⟩
      have en : ((y : Int) + h - y).toNat = h := by omega
      rw [en]
      refine for_range (n := h) (fun i σ G => ∃ (v6 v7 : Option V) (own' : Lab) (ra : List Addr), σ = [some (.ref p), some (.int x), some (.int y), some (.int w), some (.int h), some (.int k), v6, v7] ∧ Stp isAny H own G own' ∧
        PicAt a G own' p rl o l ra (painted x y w k i rws) rs { c with colours := (painted x y w k i rws).flatten }) ⟨none, none, own, rows, rfl, Stp.refl lab, ?_⟩ ?_ ?_
      · rw [painted_0, ← hA.cols]
        exact hA
      · rintro i σ G hih ⟨v6, v7, own', ra, rfl, st, hG⟩
        obtain ⟨dx', hi'⟩ := hG.ins
        have hyi : y + i < rws.length := by
          rw [hA.ht]
          omega
        obtain ⟨r0, hr0⟩ : ∃ r0, rws[y + i]? = some r0 := ⟨_, List.getElem?_eq_getElem hyi⟩
        have hr0p : (painted x y w k i rws)[y + i]? = some r0 := by
          rw [painted_get, hr0]
          simp only [Option.map_some]
          rw [if_neg (by omega)]
        obtain ⟨r, hr, lr, hrow⟩ := paired_get hG.row hr0p
        have lr0 : r0.length = c.width := hA.wd r0 (List.mem_of_getElem? hr0)
        have lc : (cells r0).length = c.width := by rw [List.length_map, lr0]
        have lra : ra.length ≤ 512 := by
          rw [paired_len hG.row, hG.ht]
          exact szh
        refine ⟨_, rfl, p, _, dx', _, _, rfl, hi', T.cl_Picture, T.n_Picture_rows, picF_r, _, rfl, rl, ra.map V.ref, _, V.ref r, rfl, rfl, SqL.of hG.lst, at_of (j := y + i) (by omega) (by rw [List.getElem?_map, hr]; rfl), ?_⟩
        refine ⟨_, rfl, _, rfl, x, rfl, r, cells r0, rfl, SqL.of hrow, fun u1 n1 => ?_⟩
        rw [cut_take (by rw [lc]; omega)]
        refine ⟨_, rfl, by show 1 ≤ sizeLine; decide, fun u2 n2 => ⟨_, rfl, u2, w, _, rfl, rfl, upd_same, by omega, by omega, ?_, fun u3 n3 => ?_⟩⟩
        · show 1 * w ≤ sizeLine
          exact Nat.le_trans (show 1 * w ≤ 512 by omega) (by decide)
        · generalize hG3 : upd (upd (upd G u1 (.lst ((cells r0).take x))) u2 (.lst [.int k])) u3 (.lst (List.replicate (w : Int).toNat [V.int k]).flatten) = G3
          have s3 : Same G G3 := by
            rw [← hG3]
            exact ((same_new n1).trans (same_new n2)).trans (same_new n3)
          have g1 : G3 u1 = some (.lst ((cells r0).take x)) := by
            rw [← hG3]
            exact ((same_new n2).trans (same_new n3)) _ _ upd_same
          have g3 : G3 u3 = some (.lst (List.replicate w [V.int k]).flatten) := by
            rw [← hG3, upd_same, Int.toNat_natCast]
          refine ⟨u1, u3, _, _, rfl, rfl, g1, g3, ?_, fun u4 n4 => ?_⟩
          · rw [List.length_take, lc, List.flatten_replicate_singleton, List.length_replicate]
            exact Nat.le_trans (show min x c.width + w ≤ 512 by omega) (by decide)
          · refine ⟨_, rfl, _, rfl, _, rfl, _, _, rfl, rfl, _, rfl, r, cells r0, rfl, SqL.of ((same_new n4) _ _ (s3 _ _ hrow)), fun u5 n5 => ?_⟩
            rw [show ((x : Int) + (w : Int)) = ((x + w : Nat) : Int) by omega, cut_drop (by rw [lc]; omega)]
            refine ⟨u4, u5, _, _, rfl, rfl, (same_new n5) _ _ upd_same, upd_same, ?_, fun u6 n6 => ?_⟩
            · rw [List.length_append, List.length_take, lc, List.flatten_replicate_singleton, List.length_replicate, List.length_drop, lc]
              exact Nat.le_trans (show min x c.width + w + (c.width - (x + w)) ≤ 512 by omega) (by decide)
            · generalize hG6 : upd (upd (upd G3 u4 (.lst ((cells r0).take x ++ (List.replicate w [V.int k]).flatten))) u5 (.lst ((cells r0).drop (x + w)))) u6 _ = G6
              have s6 : Same G G6 := by
                rw [← hG6]
                exact ((s3.trans (same_new n4)).trans (same_new n5)).trans (same_new n6)
              have g6 : G6 u6 = some (.lst (cells (paintRow x w k r0))) := by
                rw [← hG6, upd_same, paint_cells]
              have f6 : G u6 = none := (s3.trans ((same_new n4).trans (same_new n5))).free n6
              refine ⟨_, rfl, p, _, dx', _, _, rfl, s6 _ _ hi', T.cl_Picture, T.n_Picture_rows, picF_r, _, rfl, rl, ra.map V.ref, _, y + i, rfl, rfl, s6 _ _ hG.lst, ?_, ?_⟩
              · have hlt : y + i < ra.length := (List.getElem?_eq_some_iff.mp hr).1
                rw [List.length_map]
                unfold ixN
                rw [if_pos (by omega), if_pos (by omega)]
                congr 1
              · have n6l : u6 ≠ rl := Ne.symm (ne_of_none hG.lst f6)
                have n6p : u6 ≠ p := Ne.symm (ne_of_none hi' f6)
                have npl : p ≠ rl := lab_ne hG.lp hG.lr (by decide)
                have lab' := st.ok
                have t1 : Stp isAny G own' G6 own' := Stp.same s6 lab'
                have t2 := t1.name (a := u6) (r := .row) f6 g6 trivial trivial
                have t3 := t2.trans lab' (Stp.put (a := rl) (o := .lst ((ra.map V.ref).set (y + i) (.ref u6))) (r := .rows) t2.ok (by rw [lay_ne (Ne.symm n6l)]; exact hG.lr) trivial trivial)
                have t2' : Stp (fun r => r = .rows ∨ r = .row) G own' (upd G6 rl (.lst ((ra.map V.ref).set (y + i) (.ref u6)))) (lay own' u6 .row) := by
                  have t1 : Stp (fun r => r = .rows ∨ r = .row) G own' G6 own' := Stp.same s6 lab'
                  have t2 := t1.name (a := u6) (r := .row) f6 g6 (.inr rfl) trivial
                  exact t2.trans lab' (Stp.put (a := rl) (o := .lst ((ra.map V.ref).set (y + i) (.ref u6))) (r := .rows) t2.ok (by rw [lay_ne (Ne.symm n6l)]; exact hG.lr) (.inl rfl) trivial)
                have rowsNe : ∀ b ns, RowAt G own' b ns → RowAt (upd G6 rl (.lst ((ra.map V.ref).set (y + i) (.ref u6)))) (lay own' u6 .row) b ns := fun b ns ⟨z1, z2⟩ => by
                  refine ⟨by rw [lay_ne (ne_of_none z2 f6)]; exact z1, ?_⟩
                  rw [upd_ne (lab_ne z1 hG.lr (by decide))]
                  exact s6 _ _ z2
                refine ⟨_, _, _, ra.set (y + i) u6, rfl, st.trans lab t3, ⟨dx', ?_⟩, ?_, ?_, ?_, ?_, rfl, ?_, fun r' hr' => ?_, szw, szh, hA.ww, fun r' hr' n hn => ?_, ?_⟩
                · rw [upd_ne npl]
                  exact s6 _ _ hi'
                · rw [lay_ne (Ne.symm n6p)]
                  exact hG.lp
                · rw [lay_ne (Ne.symm n6l)]
                  exact hG.lr
                · rw [upd_same, List.map_set]
                · rw [← painted_s hr0]
                  refine paired_set ?_ _ (Paired.mapP hG.row rowsNe)
                  refine ⟨lay_same, ?_⟩
                  rw [upd_ne n6l]
                  exact g6
                · rw [painted_len]
                  exact hA.ht
                · obtain ⟨r1, m1, z⟩ := painted_mem hr'
                  have lr1 := hA.wd r1 m1
                  rcases z with z | z
                  · rw [z]
                    exact lr1
                  · rw [z, paintRow_len (by omega)]
                    exact lr1
                · obtain ⟨r1, m1, z⟩ := painted_mem hr'
                  rcases z with z | z
                  · rw [z] at hn
                    exact hA.sm r1 m1 n hn
                  · rw [z] at hn
                    rcases paintRow_mem hn with y | y
                    · rw [y]
                      exact hk
                    · exact hA.sm r1 m1 n y
                · exact hG.out.keep lab' t2' (fun r hr z => by rcases z with z | z <;> (subst z; exact hr))
      · rintro σ G ⟨v6, v7, own', ra, rfl, st, hG⟩
        refine q G own' st ⟨rl, o, l, ra, painted x y w k h rws, rs, ?_⟩
        have ec : Sw24.coloured c x y w h k = { c with colours := (painted x y w k h rws).flatten } := by
          have z := coloured_rows (y := y) (h := h) (c := k) hA.cols hA.ht hA.wd xw
          rw [← z]
          rfl
        rw [ec]
        exact hG
end
end Of
set_option Elab.async false
set_option linter.all false
set_option maxRecDepth 100000
set_option maxHeartbeats 2000000
namespace Of
open PySem PySem.Spec PyProof.Rows L2
theorem all2 {x y : Int} : [x, y].all (inB (-1000000) 1000000) = Sw24.isPoint x y := by
  show (inB (-1000000) 1000000 x && (inB (-1000000) 1000000 y && true)) = _
  rw [Bool.and_true]
  rfl
theorem all4 {u v x y : Int} : [u, v, x, y].all (inB (-1000000) 1000000) = (Sw24.isPoint u v && Sw24.isPoint x y) := by
  show (inB (-1000000) 1000000 u && (inB (-1000000) 1000000 v && (inB (-1000000) 1000000 x && (inB (-1000000) 1000000 y && true)))) = _
  rw [Bool.and_true, ← Bool.and_assoc]
  rfl
theorem small_of {x y : Int} (h : Sw24.isPoint x y = true) : Small ⟨x, y⟩ := by
  have h' : (inB (-1000000) 1000000 x && inB (-1000000) 1000000 y) = true := h
  rw [Bool.and_eq_true, inB_iff, inB_iff] at h'
  exact ⟨h'.1.1, h'.1.2, h'.2.1, h'.2.2⟩
section
variable {P : Program} {w : World} {K : PySem.W.Frag} {mg : Str → Option Value} {base : Heap} {a : Adr}
/-! ### Picture.move -/
def spMove (a : Adr) : Sp := fun vs H Q _ => ∃ (p : Addr) (x y : Int), vs = [.ref p, .int x, .int y] ∧ Does a H p (.move x y) Q
theorem scMove : FnScope ["self", "x", "y"] ps_Picture_move (defScope st_Picture_move) := ⟨rfl, rfl, rfl, by decide +kernel, rfl, by decide +kernel, by decide +kernel⟩
theorem ok_move (T : Txt K mg a) : FnOk P w K mg base CX0 2 a.a_Picture_move a.d_Picture_move ps_Picture_move (spMove a) := by
  have GC := ok_coords (P := P) (w := w) (base := base) T
  have GR := ok_room (P := P) (w := w) (base := base) T
  have GB := ok_begin (P := P) (w := w) (base := base) T
  refine T.f_Picture_move.ok scMove (fun vs H Q E h => ?_) (fun cdv A outer s H vs Q E hr h => ?_)
  · obtain ⟨p, x, y, rfl, _⟩ := h
    rfl
  · obtain ⟨p, x, y, rfl, own, c, lab, hP, q⟩ := h
    refine ⟨_, pss_cons (ps_if (pt_not (pt_val (pe_call GC hr rfl T.g_are_coordinates T.f_are_coordinates.kp T.b_are_coordinates .nil pass0 (pa_cons (pe_lst (pa_cons (pv 1) (pa_cons (pv 2) pa_nil))) pa_nil)))) (pss_one (ps_ret (pe_gint T.k_OUT_OF_RANGE))) pss_nil)
      (pss_cons (ps_if (pt_not (pt_val (pe_meth (pe_fld (pv 0) rfl) T.cl_Outline T.m_Outline_has_room GR hr T.b_Outline_has_room .nil pass0 (pa_cons pe_int pa_nil)))) (pss_one (ps_ret (pe_gint T.k_REFUSED))) pss_nil)
      (pss_cons (ps_expr (pe_meth (pe_fld (pv 0) rfl) T.cl_Outline T.m_Outline_begin_ring GB hr T.b_Outline_begin_ring .nil pass0 (pa_cons (pe_tup (pa_cons (pv 1) (pa_cons (pv 2) pa_nil))) pa_nil)))
      (pss_one (ps_ret (pe_fld (pe_fld (pv 0) rfl) rfl))))), ?_⟩
    refine ⟨_, rfl, _, rfl, by show 2 ≤ sizeLine; decide, fun u hu => ⟨u, [x, y], rfl, SqL.of upd_same, by simp, fun G sm => ⟨_, rfl, ?_⟩⟩⟩
    have sG : Same H G := (same_new hu).trans sm
    rw [all2]
    have stG : Stp isAny H own G own := Stp.same sG lab
    have labG := stG.ok
    refine ite2 (fun e => ?_) (fun e => ?_)
    · rw [Bool.not_eq_true'] at e
      have es : Sw24.step c (.move x y) = (c, Sw24.says (-2)) := by
        show (if Sw24.isPoint x y = false then _ else _) = _
        rw [if_pos e]
      have q' := q G own stG
      rw [es] at q'
      obtain ⟨rl, o, l, rows, rws, rs, hA⟩ := hP
      exact q' ⟨rl, o, l, rows, rws, rs, hA.same lab sG⟩
    · have e1 : Sw24.isPoint x y = true := by simpa using e
      obtain ⟨rl, o, l, rows, rws, rs, hA0⟩ := hP
      have hA := hA0.same lab sG
      obtain ⟨dx, hi⟩ := hA.ins
      obtain ⟨ox, ho⟩ := hA.out.ins
      refine ⟨_, rfl, p, _, dx, _, _, rfl, hi, T.cl_Picture, T.n_Picture_outline, picF_o, o, ox, _, rfl, ho, outF_no (by decide +kernel) (by decide +kernel), o, l, ox, _, _, rfl, ho, _, rfl, ?_⟩
      refine ite2 (fun e2 => ?_) (fun e2 => ?_)
      · rw [Bool.not_eq_true'] at e2
        have e3 := of_decide_eq_false e2
        have es : Sw24.step c (.move x y) = (c, Sw24.says (-1)) := by
          show (if Sw24.isPoint x y = false then _ else if Sw24.MOST < Sw24.points c.outline + 1 then _ else _) = _
          rw [e1, if_neg (by decide), if_pos (by unfold Sw24.MOST; omega)]
        have q' := q G own stG
        rw [es] at q'
        exact q' ⟨rl, o, l, rows, rws, rs, hA⟩
      · have e3 : (Sw24.points c.outline : Int) + 1 ≤ 4096 := by simpa using e2
        have es : Sw24.step c (.move x y) = ({ c with outline := c.outline ++ [[⟨x, y⟩]] }, Sw24.says (Sw24.points (c.outline ++ [[⟨x, y⟩]]))) := by
          show (if Sw24.isPoint x y = false then _ else if Sw24.MOST < Sw24.points c.outline + 1 then _ else _) = _
          rw [e1, if_neg (by decide), if_neg (by unfold Sw24.MOST; omega)]
        rw [es] at q
        refine ⟨_, rfl, p, _, dx, _, _, rfl, hi, T.cl_Picture, T.n_Picture_outline, picF_o, o, ox, _, rfl, ho, outF_no (by decide +kernel) (by decide +kernel), _, rfl, _, rfl, by show 2 ≤ sizeLine; decide, fun t ht => ?_⟩
        have s2 := same_new (o := .tup [.int x, .int y]) ht
        have hA2 := hA.same labG s2
        have st2 := stG.trans lab (Stp.same s2 labG)
        refine ⟨o, l, t, own, rs, c.outline, ⟨x, y⟩, rfl, st2.ok, hA2.out, upd_same, small_of e1, by omega, fun H' own' rs' st3 hO => ?_⟩
        have hA3 := hA2.outline st2.ok st3 hO
        obtain ⟨dx3, hi3⟩ := hA3.ins
        obtain ⟨ox3, ho3⟩ := hO.ins
        refine ⟨_, rfl, p, _, dx3, _, _, rfl, hi3, T.cl_Picture, T.n_Picture_outline, picF_o, o, _, ox3, _, _, rfl, ho3, T.cl_Outline, T.n_Outline_point_count, outF_count, ?_⟩
        exact q H' own' (st2.trans lab (st3.mono fun _ _ => trivial)) ⟨rl, o, l, rows, rws, rs', hA3⟩
/-! ### Picture.line -/
def spLine (a : Adr) : Sp := fun vs H Q _ => ∃ (p : Addr) (x y : Int), vs = [.ref p, .int x, .int y] ∧ Does a H p (.line x y) Q
theorem scLine : FnScope ["self", "x", "y"] ps_Picture_line (defScope st_Picture_line) := ⟨rfl, rfl, rfl, by decide +kernel, rfl, by decide +kernel, by decide +kernel⟩
theorem ok_line (T : Txt K mg a) : FnOk P w K mg base CX0 3 a.a_Picture_line a.d_Picture_line ps_Picture_line (spLine a) := by
  have GC := ok_coords (P := P) (w := w) (base := base) T
  have GL := ok_lead (P := P) (w := w) (base := base) T
  have GB := ok_leadOn (P := P) (w := w) (base := base) T
  refine T.f_Picture_line.ok scLine (fun vs H Q E h => ?_) (fun cdv A outer s H vs Q E hr h => ?_)
  · obtain ⟨p, x, y, rfl, _⟩ := h
    rfl
  · obtain ⟨p, x, y, rfl, own, c, lab, hP, q⟩ := h
    have hr1 : Room 1 _ := hr.mono (by decide)
    refine ⟨_, pss_cons (ps_if (pt_not (pt_val (pe_call GC hr1 rfl T.g_are_coordinates T.f_are_coordinates.kp T.b_are_coordinates .nil pass0 (pa_cons (pe_lst (pa_cons (pv 1) (pa_cons (pv 2) pa_nil))) pa_nil)))) (pss_one (ps_ret (pe_gint T.k_OUT_OF_RANGE))) pss_nil)
      (pss_cons (ps_if (pt_not (pt_val (pe_meth (pe_fld (pv 0) rfl) T.cl_Outline T.m_Outline_can_lead_on GL hr T.b_Outline_can_lead_on .nil pass0 (pa_cons pe_int pa_nil)))) (pss_one (ps_ret (pe_gint T.k_REFUSED))) pss_nil)
      (pss_cons (ps_expr (pe_meth (pe_fld (pv 0) rfl) T.cl_Outline T.m_Outline_lead_on GB hr1 T.b_Outline_lead_on .nil pass0 (pa_cons (pe_lst (pa_cons (pe_tup (pa_cons (pv 1) (pa_cons (pv 2) pa_nil))) pa_nil)) pa_nil)))
      (pss_one (ps_ret (pe_fld (pe_fld (pv 0) rfl) rfl))))), ?_⟩
    refine ⟨_, rfl, _, rfl, by show 2 ≤ sizeLine; decide, fun u hu => ⟨u, [x, y], rfl, SqL.of upd_same, by simp, fun G sm => ⟨_, rfl, ?_⟩⟩⟩
    have sG : Same H G := (same_new hu).trans sm
    rw [all2]
    have stG : Stp isAny H own G own := Stp.same sG lab
    have labG := stG.ok
    refine ite2 (fun e => ?_) (fun e => ?_)
    · rw [Bool.not_eq_true'] at e
      have es : Sw24.step c (.line x y) = (c, Sw24.says (-2)) := by
        show (if Sw24.isPoint x y = false then _ else _) = _
        rw [if_pos e]
      have q' := q G own stG
      rw [es] at q'
      obtain ⟨rl, o, l, rows, rws, rs, hA⟩ := hP
      exact q' ⟨rl, o, l, rows, rws, rs, hA.same lab sG⟩
    · have e1 : Sw24.isPoint x y = true := by simpa using e
      obtain ⟨rl, o, l, rows, rws, rs, hA0⟩ := hP
      have hA := hA0.same lab sG
      obtain ⟨dx, hi⟩ := hA.ins
      obtain ⟨ox, ho⟩ := hA.out.ins
      refine ⟨_, rfl, p, _, dx, _, _, rfl, hi, T.cl_Picture, T.n_Picture_outline, picF_o, o, ox, _, rfl, ho, outF_no (by decide +kernel) (by decide +kernel), o, l, ox, _, _, _, rfl, ho, hA.out.lst, _, rfl, ?_⟩
      have len := hA.out.len
      have nil_iff : c.outline = [] ↔ rs.length = 0 := by
        rw [len]
        exact List.length_eq_zero_iff.symm
      rw [List.length_map]
      refine ite2 (fun e2 => ?_) (fun e2 => ?_)
      · rw [Bool.not_eq_true', Bool.and_eq_false_iff, decide_eq_false_iff_not, decide_eq_false_iff_not] at e2
        have es : Sw24.step c (.line x y) = (c, Sw24.says (-1)) := by
          show (if Sw24.isPoint x y = false then _ else if c.outline = [] ∨ Sw24.MOST < Sw24.points c.outline + 1 then _ else _) = _
          rw [e1, if_neg (by decide), if_pos ?_]
          rw [nil_iff]
          unfold Sw24.MOST
          omega
        have q' := q G own stG
        rw [es] at q'
        exact q' ⟨rl, o, l, rows, rws, rs, hA⟩
      · rw [Bool.not_eq_true', Bool.not_eq_false, Bool.and_eq_true, decide_eq_true_eq, decide_eq_true_eq] at e2
        have ne : c.outline ≠ [] := fun z => by
          rw [nil_iff] at z
          omega
        have es : Sw24.step c (.line x y) = ({ c with outline := Sw24.longer c.outline [⟨x, y⟩] }, Sw24.says (Sw24.points (Sw24.longer c.outline [⟨x, y⟩]))) := by
          show (if Sw24.isPoint x y = false then _ else if c.outline = [] ∨ Sw24.MOST < Sw24.points c.outline + 1 then _ else _) = _
          rw [e1, if_neg (by decide), if_neg ?_]
          intro z
          rcases z with z | z
          · exact ne z
          · unfold Sw24.MOST at z
            omega
        rw [es] at q
        refine ⟨_, rfl, p, _, dx, _, _, rfl, hi, T.cl_Picture, T.n_Picture_outline, picF_o, o, ox, _, rfl, ho, outF_no (by decide +kernel) (by decide +kernel), _, rfl, _, rfl, by show 2 ≤ sizeLine; decide, fun t ht => ⟨by show 1 ≤ sizeLine; decide, fun b hb => ?_⟩⟩
        have s2 : Same G (upd (upd G t (.tup [.int x, .int y])) b (.lst [.ref t])) := (same_new ht).trans (same_new hb)
        have hA2 := hA.same labG s2
        have st2 := stG.trans lab (Stp.same s2 labG)
        have fb : G b = none := (same_new ht).free hb
        refine ⟨o, l, b, own, rs, [t], c.outline, [⟨x, y⟩], rfl, st2.ok, hA2.out, ne, labG.free fb, upd_same, .cons ((same_new hb) _ _ upd_same) .nil, fun z hz => ?_, by show Sw24.points c.outline + 1 ≤ 4096; omega, fun H' own' rs' st3 hO => ?_⟩
        · have z' : z = ⟨x, y⟩ := by simpa using hz
          rw [z']
          exact small_of e1
        · have hA3 := hA2.outline st2.ok st3 hO
          obtain ⟨dx3, hi3⟩ := hA3.ins
          obtain ⟨ox3, ho3⟩ := hO.ins
          refine ⟨_, rfl, p, _, dx3, _, _, rfl, hi3, T.cl_Picture, T.n_Picture_outline, picF_o, o, _, ox3, _, _, rfl, ho3, T.cl_Outline, T.n_Outline_point_count, outF_count, ?_⟩
          exact q H' own' (st2.trans lab (st3.mono fun _ _ => trivial)) ⟨rl, o, l, rows, rws, rs', hA3⟩
/-! ### Picture.curve -/
def spCurve (a : Adr) : Sp := fun vs H Q _ => ∃ (p : Addr) (cx cy x y : Int), vs = [.ref p, .int cx, .int cy, .int x, .int y] ∧ Does a H p (.curve cx cy x y) Q
theorem scCurve : FnScope ["self", "cx", "cy", "x", "y"] ps_Picture_curve (defScope st_Picture_curve) := ⟨rfl, rfl, rfl, by decide +kernel, rfl, by decide +kernel, by decide +kernel⟩
theorem ok_curve (T : Txt K mg a) : FnOk P w K mg base CX0 3 a.a_Picture_curve a.d_Picture_curve ps_Picture_curve (spCurve a) := by
  have GC := ok_coords (P := P) (w := w) (base := base) T
  have GL := ok_lead (P := P) (w := w) (base := base) T
  have GB := ok_leadOn (P := P) (w := w) (base := base) T
  have GP := ok_points (P := P) (w := w) (base := base) T
  have GT := ok_last (P := P) (w := w) (base := base) T
  refine T.f_Picture_curve.ok scCurve (fun vs H Q E h => ?_) (fun cdv A outer s H vs Q E hr h => ?_)
  · obtain ⟨p, cx, cy, x, y, rfl, _⟩ := h
    rfl
  · obtain ⟨p, cx, cy, x, y, rfl, own, c, lab, hP, q⟩ := h
    have hr1 : Room 1 _ := hr.mono (by decide)
    refine ⟨_, pss_cons (ps_if (pt_not (pt_val (pe_call GC hr1 rfl T.g_are_coordinates T.f_are_coordinates.kp T.b_are_coordinates .nil pass0 (pa_cons (pe_lst (pa_cons (pv 1) (pa_cons (pv 2) (pa_cons (pv 3) (pa_cons (pv 4) pa_nil))))) pa_nil)))) (pss_one (ps_ret (pe_gint T.k_OUT_OF_RANGE))) pss_nil)
      (pss_cons (ps_if (pt_not (pt_val (pe_meth (pe_fld (pv 0) rfl) T.cl_Outline T.m_Outline_can_lead_on GL hr T.b_Outline_can_lead_on .nil pass0 (pa_cons (pe_gint T.k_CURVE_STEPS) pa_nil)))) (pss_one (ps_ret (pe_gint T.k_REFUSED))) pss_nil)
      (pss_cons (ps_expr (pe_meth (pe_fld (pv 0) rfl) T.cl_Outline T.m_Outline_lead_on GB hr1 T.b_Outline_lead_on .nil pass0 (pa_cons (pe_call GP hr rfl T.g_curve_points T.f_curve_points.kp T.b_curve_points .nil pass0
        (pa_cons (pe_meth0 (pe_fld (pv 0) rfl) T.cl_Outline T.m_Outline_last_point GT hr1 T.b_Outline_last_point .nil pass0) (pa_cons (pe_tup (pa_cons (pv 1) (pa_cons (pv 2) pa_nil))) (pa_cons (pe_tup (pa_cons (pv 3) (pa_cons (pv 4) pa_nil))) pa_nil)))) pa_nil)))
      (pss_one (ps_ret (pe_fld (pe_fld (pv 0) rfl) rfl))))), ?_⟩
    refine ⟨_, rfl, _, rfl, _, rfl, _, rfl, by show 4 ≤ sizeLine; decide, fun u hu => ⟨u, [cx, cy, x, y], rfl, SqL.of upd_same, by simp, fun G sm => ⟨_, rfl, ?_⟩⟩⟩
    have sG : Same H G := (same_new hu).trans sm
    rw [all4]
    have stG : Stp isAny H own G own := Stp.same sG lab
    have labG := stG.ok
    refine ite2 (fun e => ?_) (fun e => ?_)
    · rw [Bool.not_eq_true'] at e
      have es : Sw24.step c (.curve cx cy x y) = (c, Sw24.says (-2)) := by
        show (if (Sw24.isPoint cx cy && Sw24.isPoint x y) = false then _ else _) = _
        rw [if_pos e]
      have q' := q G own stG
      rw [es] at q'
      obtain ⟨rl, o, l, rows, rws, rs, hA⟩ := hP
      exact q' ⟨rl, o, l, rows, rws, rs, hA.same lab sG⟩
    · have e1 : (Sw24.isPoint cx cy && Sw24.isPoint x y) = true := by
        rw [Bool.not_eq_true', Bool.not_eq_false] at e
        exact e
      obtain ⟨rl, o, l, rows, rws, rs, hA0⟩ := hP
      have hA := hA0.same lab sG
      obtain ⟨dx, hi⟩ := hA.ins
      obtain ⟨ox, ho⟩ := hA.out.ins
      refine ⟨_, rfl, p, _, dx, _, _, rfl, hi, T.cl_Picture, T.n_Picture_outline, picF_o, o, ox, _, rfl, ho, outF_no (by decide +kernel) (by decide +kernel), o, l, ox, _, _, _, rfl, ho, hA.out.lst, _, rfl, ?_⟩
      have len := hA.out.len
      have nil_iff : c.outline = [] ↔ rs.length = 0 := by
        rw [len]
        exact List.length_eq_zero_iff.symm
      rw [List.length_map]
      refine ite2 (fun e2 => ?_) (fun e2 => ?_)
      · rw [Bool.not_eq_true', Bool.and_eq_false_iff, decide_eq_false_iff_not, decide_eq_false_iff_not] at e2
        have es : Sw24.step c (.curve cx cy x y) = (c, Sw24.says (-1)) := by
          show (if (Sw24.isPoint cx cy && Sw24.isPoint x y) = false then _ else match Sw24.lastPoint c.outline with | none => _ | some a => if Sw24.MOST < Sw24.points c.outline + 16 then _ else _) = _
          rw [e1, if_neg (by decide)]
          cases hl : Sw24.lastPoint c.outline with
          | none => rfl
          | some a' =>
            have ne : c.outline ≠ [] := fun z => by
              rw [z] at hl
              cases hl
            have h0 : rs.length ≠ 0 := fun z => ne (nil_iff.mpr z)
            show (if Sw24.MOST < Sw24.points c.outline + 16 then _ else _) = _
            rw [if_pos (by unfold Sw24.MOST; omega)]
        have q' := q G own stG
        rw [es] at q'
        exact q' ⟨rl, o, l, rows, rws, rs, hA⟩
      · rw [Bool.not_eq_true', Bool.not_eq_false, Bool.and_eq_true, decide_eq_true_eq, decide_eq_true_eq] at e2
        have ne : c.outline ≠ [] := fun z => by
          rw [nil_iff] at z
          omega
        refine ⟨_, rfl, p, _, dx, _, _, rfl, hi, T.cl_Picture, T.n_Picture_outline, picF_o, o, ox, _, rfl, ho, outF_no (by decide +kernel) (by decide +kernel), _, rfl, p, _, dx, _, _, rfl, hi, T.cl_Picture, T.n_Picture_outline, picF_o, o, ox, _, rfl, ho, outF_no (by decide +kernel) (by decide +kernel),
          o, l, own, rs, c.outline, rfl, hA.out, ne, fun t pt hl ht spt => ?_⟩
        have es : Sw24.step c (.curve cx cy x y) = ({ c with outline := Sw24.longer c.outline (Sw24.bend pt ⟨cx, cy⟩ ⟨x, y⟩) }, Sw24.says (Sw24.points (Sw24.longer c.outline (Sw24.bend pt ⟨cx, cy⟩ ⟨x, y⟩)))) := by
          show (if (Sw24.isPoint cx cy && Sw24.isPoint x y) = false then _ else match Sw24.lastPoint c.outline with | none => _ | some a => if Sw24.MOST < Sw24.points c.outline + 16 then _ else _) = _
          rw [e1, if_neg (by decide), hl]
          show (if Sw24.MOST < Sw24.points c.outline + 16 then _ else _) = _
          rw [if_neg (by unfold Sw24.MOST; omega)]
        rw [es] at q
        refine ⟨_, rfl, _, rfl, by show 2 ≤ sizeLine; decide, fun t2 ht2 => ⟨_, rfl, _, rfl, by show 2 ≤ sizeLine; decide, fun t3 ht3 => ?_⟩⟩
        have s2 : Same G (upd (upd G t2 (.tup [.int cx, .int cy])) t3 (.tup [.int x, .int y])) := (same_new ht2).trans (same_new ht3)
        refine ⟨t, t2, t3, pt, ⟨cx, cy⟩, ⟨x, y⟩, rfl, s2 _ _ ht, (same_new ht3) _ _ upd_same, upd_same, fun G2 b us fb s3 hb hps => ?_⟩
        have s23 := s2.trans s3
        have hA2 := hA.same labG s23
        have st2 := stG.trans lab (Stp.same s23 labG)
        have fbG : G b = none := s2.free fb
        rw [Bool.and_eq_true] at e1
        refine ⟨o, l, b, own, rs, us, c.outline, Sw24.bend pt ⟨cx, cy⟩ ⟨x, y⟩, rfl, st2.ok, hA2.out, ne, labG.free fbG, hb, hps, fun z hz => bend_small spt (small_of e1.1) (small_of e1.2) hz, by rw [bend_len]; omega, fun H' own' rs' st3 hO => ?_⟩
        have hA3 := hA2.outline st2.ok st3 hO
        obtain ⟨dx3, hi3⟩ := hA3.ins
        obtain ⟨ox3, ho3⟩ := hO.ins
        refine ⟨_, rfl, p, _, dx3, _, _, rfl, hi3, T.cl_Picture, T.n_Picture_outline, picF_o, o, _, ox3, _, _, rfl, ho3, T.cl_Outline, T.n_Outline_point_count, outF_count, ?_⟩
        exact q H' own' (st2.trans lab (st3.mono fun _ _ => trivial)) ⟨rl, o, l, rows, rws, rs', hA3⟩
end
end Of
set_option Elab.async false
set_option linter.all false
set_option maxRecDepth 100000
set_option maxHeartbeats 2000000
namespace Of
open PySem PySem.Spec PyProof.Rows L2
theorem cut_mid {xs : List V} {i j : Nat} (h : i ≤ j) (h2 : j ≤ xs.length) : cutV xs (some (i : Int)) (some (j : Int)) = (xs.drop i).take (j - i) := by
  unfold cutV
  rw [HT.sIx_nat, HT.sIx_nat, Nat.min_eq_left h2, Nat.min_eq_left (by omega)]
theorem OutAt.keepL {a : Adr} {H H' : Hp} {own : Lab} {o l : Addr} {rs : List Addr} {ol : Sw24.Outline} (h : OutAt a H own o l rs ol) (k : ∀ b r u, own b = some r → H b = some u → H' b = some u) (t : ∀ b xs, H b = some (.tup xs) → H' b = some (.tup xs)) : OutAt a H' own o l rs ol := by
  obtain ⟨dx, hi⟩ := h.ins
  refine ⟨⟨dx, k _ _ _ h.lo hi⟩, h.lo, h.ll, k _ _ _ h.ll h.lst, h.len, fun j r g h1 h2 => ?_, h.few, h.small⟩
  obtain ⟨q1, q2, ts, q3, q4⟩ := h.ring j r g h1 h2
  exact ⟨q1, q2, ts, k _ _ _ q1 q3, q4.same t⟩
theorem PicAt.keepL {a : Adr} {H H' : Hp} {own : Lab} {p rl o l : Addr} {rows : List Addr} {rws : List (List Nat)} {rs : List Addr} {c : Sw24.Picture} (h : PicAt a H own p rl o l rows rws rs c) (k : ∀ b r u, own b = some r → H b = some u → H' b = some u) (t : ∀ b xs, H b = some (.tup xs) → H' b = some (.tup xs)) : PicAt a H' own p rl o l rows rws rs c := by
  obtain ⟨dx, hi⟩ := h.ins
  exact ⟨⟨dx, k _ _ _ h.lp hi⟩, h.lp, h.lr, k _ _ _ h.lr h.lst, Paired.mapP h.row fun r ns ⟨q1, q2⟩ => ⟨q1, k _ _ _ q1 q2⟩, h.cols, h.ht, h.wd, h.szw, h.szh, h.ww, h.sm, h.out.keepL k t⟩
/-- a list that bears no label is changed -/
theorem Pic.other {a : Adr} {H : Hp} {own : Lab} {p q : Addr} {c : Sw24.Picture} {xs ys : List V} (h : Pic a H own p c) (e : H q = some (.lst xs)) (n : own q = none) : Pic a (upd H q (.lst ys)) own p c := by
  obtain ⟨rl, o, l, rows, rws, rs, hA⟩ := h
  refine ⟨rl, o, l, rows, rws, rs, hA.keepL (fun b r u h1 h2 => ?_) fun b zs h1 => ?_⟩
  · rw [upd_ne (lab_none h1 n)]
    exact h2
  · rw [upd_ne (ne_of h1 e (by intro z; cases z))]
    exact h1
theorem LabOk.other {H : Hp} {own : Lab} {q : Addr} {u : HO} (h : LabOk H own) (n : own q = none) : LabOk (upd H q u) own := fun b r e => by
  obtain ⟨o, z, m⟩ := h b r e
  exact ⟨o, by rw [upd_ne (lab_none e n)]; exact z, m⟩
section
variable {P : Program} {w : World} {K : PySem.W.Frag} {mg : Str → Option Value} {base : Heap} {a : Adr}
/-- answer_call's promise -/
def spCallOne (a : Adr) : Sp := fun vs H Q _ => ∃ (p b : Addr) (n : Int) (args : List Int) (own : Lab) (c : Sw24.Picture), vs = [.ref p, .int n, .ref b] ∧ LabOk H own ∧ Pic a H own p c ∧ H b = some (.lst (args.map V.int)) ∧ own b = none ∧ Sw24Neutral.asked1 [n :: args] = true ∧ 1 ≤ n ∧ n ≤ 9 ∧
  ∀ (H' : Hp) (own' : Lab) (q : Addr), Stp isAny H own H' own' → Pic a H' own' p (Sw24Neutral.step c [n :: args]).1 → H' q = some (.lst ((Sw24Neutral.step c [n :: args]).2.map V.int)) → own' q = none → H q = none → Q (.ref q) H'
def spAns (K : PySem.W.Frag) : Sp := fun vs H Q _ => ∃ (a : Addr) (ns : List Int), vs = [.ref a] ∧ SqL K H a (ns.map V.int) ∧ OnlyF H ∧ PySw24.answers_asked ns = true ∧ ∀ (H' : Hp) (p : Addr), H' p = some (.lst ((PySw24.answers ns).map V.int)) → Q (.ref p) H'
theorem scAns : FnScope ["calls", "picture", "answered", "at", "call", "end", "answer"] ps_answers (defScope st_answers) := ⟨rfl, rfl, rfl, by decide +kernel, rfl, by decide +kernel, by decide +kernel⟩
theorem ok_answers {k : Nat} (h3 : 4 ≤ k) (T : Txt K mg a) (GA : FnOk P w K mg base CX0 k a.a_answer_call a.d_answer_call ps_answer_call (spCallOne a)) (hAC : ∀ (H : Hp) (p : Int), 1 ≤ p → p ≤ 9 → ∃ xs, SqT K H a.t_ARGUMENT_COUNTS xs ∧ atI xs p = some (.int (argN p))) :
    FnOk P w K mg base CX0 (k + 1) a.a_answers a.d_answers ps_answers (spAns K) := by
  have GP := ok_pinit (P := P) (w := w) (base := base) T
  refine T.f_answers.ok scAns (fun vs H Q E h => ?_) (fun cdv A outer s H vs Q E hr h => ?_)
  · obtain ⟨a, ns, rfl, _⟩ := h
    rfl
  · obtain ⟨a0, ns, rfl, hS, hO, hask, q⟩ := h
    have hr3 : Room 4 _ := hr.mono h3
    refine ⟨_, pss_cons (ps_set (i := 1) scAns.nd rfl (Or.inl rfl) (pe_make0 T.mk_Picture GP hr3 rfl T.g_Picture T.b_Picture_init .nil pass0))
      (pss_cons (ps_set (i := 2) scAns.nd rfl (Or.inl rfl) (pe_lst pa_nil)) (pss_cons (ps_set (i := 3) scAns.nd rfl (Or.inl rfl) pe_int)
      (pss_cons (ps_while PassesOwn.never (pt_cmpR op_lt (pv 3) (pe_callB call_len_seq (by rfl) T.z_len PySem.boot_len (pa_cons (pv 0) pa_nil)) (nomark _))
        (pss_cons (ps_set (i := 4) scAns.nd rfl (Or.inl rfl) (pe_ix ix_list (pv 0) (pv 3) (fun _ _ => rfl)))
        (pss_cons (ps_set (i := 5) scAns.nd rfl (Or.inl rfl) (pe_op op_add (pe_op op_add (pv 3) pe_int) (pe_ix ix_tup (pe_glob (v := V.ref a.t_ARGUMENT_COUNTS) rfl T.gt_ARGUMENT_COUNTS rfl) (pv 4) (fun _ _ => rfl))))
        (pss_cons (ps_set (i := 6) scAns.nd rfl (Or.inl rfl) (pe_call GA hr rfl T.g_answer_call T.f_answer_call.kp T.b_answer_call .nil pass0 (pa_cons (pv 1) (pa_cons (pv 4) (pa_cons (pe_slice sl_list (pv 0) (po_some (pe_op op_add (pv 3) pe_int)) (po_some (pv 5))) pa_nil)))))
        (pss_cons (ps_expr (pe_bm PySem.F.plainAttrs_list PySem.F.slot_list_append PySem.F.type_list_append mt_append (pv 2) (pa_cons (pe_callB call_len_seq (by rfl) T.z_len PySem.boot_len (pa_cons (pv 6) pa_nil)) pa_nil)))
        (pss_cons (ps_expr (pe_bm PySem.F.plainAttrs_list PySem.F.slot_list_extend PySem.F.type_list_extend mt_extend (pv 2) (pa_cons (pv 6) pa_nil)))
        (pss_one (ps_set (i := 3) scAns.nd rfl (Or.inl rfl) (pv 5)))))))))
      (pss_one (ps_ret (pv 2)))))), ?_⟩
    obtain ⟨cs, hc, hak, h400, hans⟩ := asked_calls hask
    obtain ⟨hall, hnum, _⟩ := asked_all hak
    have hlen : (PySw24.answers ns).length ≤ 1000400 := by
      rw [hans, told_len]
      omega
    -- picture = Picture()
    intro x d hx hd ndx
    refine ⟨x, d, rfl, upd_same, fun H1 own1 lab1 hP1 k1 => ⟨rfl, ?_⟩⟩
    have fz1 : ∀ b o u, H b = some (.frz o u) → H1 b = some (.frz o u) := fun b o u e =>
      (k1 b _ (by rw [upd_ne (ne_of_none e hx), upd_ne (ne_of_none e hd)]; exact e) (ne_of_none e hx)).1
    have seq : ∀ G : Hp, (∀ b o u, H b = some (.frz o u) → G b = some (.frz o u)) → SqL K G a0 (ns.map V.int) := fun G fz => by
      rcases hS with (e | ⟨o, e⟩) | e
      · rcases hO a0 with z | ⟨ob, u, z⟩
        · rw [z] at e
          cases e
        · rw [z] at e
          cases e
      · exact .inl (.inr ⟨o, fz _ _ _ e⟩)
      · exact .inr e
    -- answered = []; at = 0
    refine ⟨Nat.zero_le _, fun q0 hq0 => ?_⟩
    have s2 : Same H1 (upd H1 q0 (.lst [])) := same_new hq0
    refine while_by (fun σ G => ∃ (v4 v5 v6 : Option V) (k : Nat) (own : Lab) (st : Sw24.Picture) (out : List Int) (cr : List (List (List Int))), σ = [some (.ref a0), some (.ref x), some (.ref q0), some (.int k), v4, v5, v6] ∧ k ≤ ns.length ∧ LabOk G own ∧ Pic a G own x st ∧
        G q0 = some (.lst (out.map V.int)) ∧ own q0 = none ∧ (∀ b o u, H b = some (.frz o u) → G b = some (.frz o u)) ∧ Calls (ns.drop k) cr ∧ (∀ c ∈ cr, Sw24Neutral.asked1 c = true) ∧ PySw24.answers ns = out ++ PyFlat.told (PyFlat.played Sw24Neutral.step st cr))
      (fun σ G => match σ with | [_, _, _, some (.int k), _, _, _] => ns.length - k.toNat | _ => 0) ⟨none, none, none, 0, own1, _, [], cs, rfl, Nat.zero_le _, same_lab s2 lab1, ?_, upd_same, lab1.free hq0, fun b o u e => s2 _ _ (fz1 b o u e), by rw [List.drop_zero]; exact hc, hall, hans⟩ ?_ ?_
    · obtain ⟨rl, o, l, rows, rws, rs, hA⟩ := hP1
      exact ⟨rl, o, l, rows, rws, rs, hA.same lab1 s2⟩
    · rintro σ G ⟨v4, v5, v6, k', own, st, out, cr, rfl, hk, lab, hP, hq, nq, fz, hcr, hask1, heq⟩
      have hs := seq G fz
      refine ⟨_, rfl, _, rfl, a0, _, rfl, .inl hs, _, _, rfl, rfl, _, rfl, ?_⟩
      rw [List.length_map]
      refine ite2 (fun e => ?_) (fun e => ?_)
      · have hlt : k' < ns.length := by
          have := of_decide_eq_true e
          omega
        obtain ⟨n, hn⟩ : ∃ n, ns[k']? = some n := ⟨_, List.getElem?_eq_getElem hlt⟩
        have hdrop : ns.drop k' = n :: ns.drop (k' + 1) := by
          rw [List.drop_eq_getElem_cons (i := k') hlt]
          congr 1
          rw [List.getElem?_eq_getElem hlt] at hn
          exact Option.some.inj hn
        rw [hdrop] at hcr
        obtain ⟨n1, n9, hal, cr', ecr, hcr'⟩ := hcr.cons
        subst ecr
        rw [List.length_drop] at hal
        refine ⟨_, rfl, _, rfl, a0, ns.map V.int, _, V.int n, rfl, rfl, hs, atI_nat (by rw [List.getElem?_map, hn]; rfl), ?_⟩
        obtain ⟨xs, hxs, hat⟩ := hAC G n n1 n9
        refine ⟨_, rfl, _, _, rfl, rfl, _, rfl, _, xs, n, _, rfl, rfl, hxs, hat, _, _, rfl, rfl, ?_⟩
        refine ⟨_, rfl, _, rfl, _, rfl, _, rfl, _, _, rfl, rfl, _, rfl, _, rfl, _, rfl, a0, _, rfl, hs, fun b hb => ?_⟩
        rw [show ((k' : Int) + 1) = ((k' + 1 : Nat) : Int) by omega, show (((k' + 1 : Nat) : Int) + (argN n : Int)) = ((k' + 1 + argN n : Nat) : Int) by omega, cut_mid (by omega) (by rw [List.length_map]; omega)]
        rw [show k' + 1 + argN n - (k' + 1) = argN n by omega, ← List.map_drop, ← List.map_take]
        have s3 := same_new (o := .lst (((ns.drop (k' + 1)).take (argN n)).map V.int)) hb
        have a1 := hask1 _ (List.mem_cons_self)
        have hP3 : Pic a (upd G b (.lst (((ns.drop (k' + 1)).take (argN n)).map V.int))) own x st := by
          obtain ⟨rl, o, l, rows, rws, rs, hA⟩ := hP
          exact ⟨rl, o, l, rows, rws, rs, hA.same lab s3⟩
        refine ⟨x, b, n, (ns.drop (k' + 1)).take (argN n), own, st, rfl, same_lab s3 lab, hP3, upd_same, lab.free hb, a1, n1, n9, fun G2 own2 q2 stp hP2 hq2 nq2 fq2 => ?_⟩
        have q0b : q0 ≠ b := ne_of_none hq hb
        have hqb : (upd G b (.lst (((ns.drop (k' + 1)).take (argN n)).map V.int))) q0 = some (.lst (out.map V.int)) := s3 _ _ hq
        have hqG2 : G2 q0 = some (.lst (out.map V.int)) := stp.un hqb nq
        have nqG2 : own2 q0 = none := stp.none hqb nq
        have nq02 : q0 ≠ q2 := ne_of_none hqb fq2
        have fz2 : ∀ b o u, H b = some (.frz o u) → G2 b = some (.frz o u) := fun b' o u e' => stp.nonmut (same_lab s3 lab) (s3 _ _ (fz b' o u e')) (fun z => z)
        rw [told_cons] at heq
        have hsz : out.length + ((Sw24Neutral.step st [n :: (ns.drop (k' + 1)).take (argN n)]).2.length + 1) ≤ 1000400 := by
          rw [heq] at hlen
          simp only [List.length_append, List.length_cons] at hlen
          omega
        generalize Sw24Neutral.step st [n :: (ns.drop (k' + 1)).take (argN n)] = sr at *
        have l24 : 1000400 < sizeLine := by decide
        -- answered.append(len(answer))
        refine ⟨_, rfl, .inl ⟨rfl, _, SqL.of hqG2⟩, _, rfl, q2, _, rfl, .inl (SqL.of hq2), q0, _, _, rfl, rfl, hqG2, ?_, ?_⟩
        · rw [List.length_map]
          omega
        · refine ⟨_, rfl, .inl ⟨rfl, _, SqL.of upd_same⟩, _, rfl, q0, q2, _, _, rfl, rfl, upd_same, by rw [upd_ne (Ne.symm nq02)]; exact hq2, ?_, ?_⟩
          · rw [List.length_append, List.length_map, List.length_map]
            show out.length + 1 + sr.2.length ≤ sizeLine
            omega
          · rw [upd_upd]
            refine ⟨_, rfl, ⟨_, _, _, k' + 1 + argN n, own2, sr.1, out ++ ((sr.2.length : Int) :: sr.2), cr', rfl, by omega, stp.ok.other nqG2, hP2.other hqG2 nqG2, ?_, nqG2, fun b' o' u' e' => ?_, ?_, fun c' hc' => hask1 c' (List.mem_cons_of_mem _ hc'), ?_⟩, ?_⟩
            · rw [upd_same]
              simp
            · rw [upd_ne (ne_of (fz2 b' o' u' e') hqG2 (by intro z; cases z))]
              exact fz2 b' o' u' e'
            · rw [List.drop_drop] at hcr'
              exact hcr'
            · rw [heq, List.append_assoc]
            · show ns.length - ((k' + 1 + argN n : Nat) : Int).toNat < ns.length - ((k' : Nat) : Int).toNat
              omega
      · have hk2 : k' = ns.length := by
          have : ¬ ((k' : Int) < ns.length) := fun z => e (decide_eq_true z)
          omega
        rw [hk2, List.drop_length] at hcr
        have e2 := hcr.nil
        subst e2
        rw [show PyFlat.told (PyFlat.played Sw24Neutral.step st []) = [] from rfl, List.append_nil] at heq
        rw [← heq] at hq
        exact ⟨_, rfl, q G q0 hq⟩
    · rintro σ G R R' i ⟨v, e1, v2, e2, p2, ys, e3, h4, h5⟩
      obtain ⟨i1, j1, e5, e6, k1', e7, h8⟩ := h5
      exact ⟨v, e1, v2, e2, p2, ys, e3, h4, i1, j1, e5, e6, k1', e7, i _ _ h8⟩
end
end Of
set_option Elab.async false
set_option linter.all false
set_option maxRecDepth 100000
set_option maxHeartbeats 2000000
namespace Of
open PySem PySem.Spec PyProof.Rows L2
theorem paired_ofget {α β : Type} {F : α → β → Prop} : ∀ {l : List α} {m : List β}, l.length = m.length → (∀ (j : Nat) a b, l[j]? = some a → m[j]? = some b → F a b) → Paired F l m
  | [], [], _, _ => .nil
  | [], b :: m, h, _ => by simp at h
  | a :: l, [], h, _ => by simp at h
  | a :: l, b :: m, h, k => .cons (k 0 a b rfl rfl) (paired_ofget (by simpa using h) fun j x y e1 e2 => k (j + 1) x y e1 e2)
/-! ### sorted, of a dict whose keys are ints, of any length -/
section
variable {prog : Program} {w : World} {s : Shared} {E : Value → Shared → Prop} {A : Around}
theorem sortD_raw {T : String} {src dd : Addr} {cnt : Nat} {Pk : Nat → Value → Prop} {Okh : Heap → Prop} {kw : List (Str × Value)} {Q : Value → Shared → Prop} (S : PySem.W.KdlSrc prog w T src dd cnt Pk Okh) (hh : A.handled = none) (hok : Okh s.heap) (hn : cnt ≤ sizeLine) (ha : argsOk "sorted" ⟨[.ref src], kw⟩)
    (q : ∀ (g : Heap) (tk : Nat) (its : List Value), (∀ b o, s.heap.get? b = some o → g.get? b = some o) → its.length = cnt → (∀ (j : Nat) (v : Value), its[j]? = some v → Pk j v) →
      wpAny (model prog w) A.in1 (call (.builtin "list.sort") [.ref g.objs.size] kw) (fun _ s' => Q (.ref g.objs.size) s') E { s with heap := g.push (seqObj "list" its.toArray 0), toks := tk }) :
    wpAny (model prog w) A (call (.builtin "sorted") [.ref src] kw) Q E s := by
  refine call_function_entry_kw kind_sorted plain_sorted entry_sorted ha ?_
  unfold Builtin.«sorted»
  refine wpAny_bind (m := checkCount "sorted" 1 1 _) (wpAny_pure (wpAny_bind (PySem.W.kdu_collect (A := A.in1) S hh hok hn fun g tk its kp hi => ?_)))
  have ln : its.toList.length = cnt := by rw [Array.length_toList]; exact hi.1
  refine wpAny_bind (wpAny_newList ?_ (by rw [ln]; exact hn))
  have fin := q g tk its.toList kp ln (fun j v e => hi.2 j v (by rw [← Array.getElem?_toList]; exact e))
  refine wpAny_bind (wpAny_holding (wpAny_mono fin (fun _ s' x => ?_) fun _ _ e => e))
  exact wpAny_pure ⟨_, rfl, x⟩
theorem sortD_rev {T : String} {src dd : Addr} {cnt : Nat} {Pk : Nat → Value → Prop} {Okh : Heap → Prop} {b : Bool} {ks : List Int} {Q : Value → Shared → Prop} (S : PySem.W.KdlSrc prog w T src dd cnt Pk Okh) (hh : A.handled = none) (hok : Okh s.heap) (hn : cnt ≤ sizeLine)
    (hI : ∀ its : List Value, its.length = cnt → (∀ (j : Nat) (v : Value), its[j]? = some v → Pk j v) → IntsAre its ks)
    (q : ∀ (g g2 : Heap) (tk : Nat) (its : List Value) (ns : List Int) (e : Nat), (∀ b o, s.heap.get? b = some o → g.get? b = some o) → (∀ b o, g.get? b = some o → g2.get? b = some o) → g2.get? g.objs.size = some (seqObj "list" its.toArray e) → IntsAre its ns → ns.Perm ks → Ordered b ns → Q (.ref g.objs.size) { s with heap := g2, toks := tk }) :
    wpAny (model prog w) A (call (.builtin "sorted") [.ref src] [(Str.ofString "reverse", .bool b)]) Q E s := by
  refine sortD_raw S hh hok hn (args_sorted_rev _ _) fun g tk its kp ln hP => ?_
  have i0 := hI its ln hP
  have ob : (g.push (seqObj "list" its.toArray 0)).get? g.objs.size = some (seqObj "list" its.toArray 0) := Heap.get?_push_size _ rfl
  refine wpAny_call_entry_kw slot_list_sort ⟨_, ob, rfl⟩ entry_list_sort (list_sort_tree_revAny ob i0 (by rw [ln]; exact hn) fun out ns h1 h2 h3 => ⟨_, rfl, ?_⟩) (args_list_sort_rev _ _)
  obtain ⟨e, he⟩ := sortedHeap_at (vs := its) (out := out) ob
  refine q g _ tk out.toList ns e kp (fun b o k => ?_) (by simpa using he) h1 h2 h3
  have hz := Heap.lt_size k
  rw [sortedHeap_old (Nat.ne_of_lt hz) (by rw [size_push']; exact Nat.lt_succ_of_lt hz), Heap.get?_push_ne _ _ _ (Nat.ne_of_lt hz)]
  exact k
theorem sortD_up {T : String} {src dd : Addr} {cnt : Nat} {Pk : Nat → Value → Prop} {Okh : Heap → Prop} {ks : List Int} {Q : Value → Shared → Prop} (S : PySem.W.KdlSrc prog w T src dd cnt Pk Okh) (hh : A.handled = none) (hok : Okh s.heap) (hn : cnt ≤ sizeLine)
    (hI : ∀ its : List Value, its.length = cnt → (∀ (j : Nat) (v : Value), its[j]? = some v → Pk j v) → IntsAre its ks)
    (q : ∀ (g g2 : Heap) (tk : Nat) (its : List Value) (ns : List Int) (e : Nat), (∀ b o, s.heap.get? b = some o → g.get? b = some o) → (∀ b o, g.get? b = some o → g2.get? b = some o) → g2.get? g.objs.size = some (seqObj "list" its.toArray e) → IntsAre its ns → ns.Perm ks → ns.Pairwise (· ≤ ·) → Q (.ref g.objs.size) { s with heap := g2, toks := tk }) :
    wpAny (model prog w) A (call (.builtin "sorted") [.ref src]) Q E s := by
  refine sortD_raw S hh hok hn (args_sorted1 _) fun g tk its kp ln hP => ?_
  have i0 := hI its ln hP
  have ob : (g.push (seqObj "list" its.toArray 0)).get? g.objs.size = some (seqObj "list" its.toArray 0) := Heap.get?_push_size _ rfl
  refine wpAny_call_entry slot_list_sort ⟨_, ob, rfl⟩ entry_list_sort (list_sort_treeAny ob i0 (by rw [ln]; exact hn) fun out ns h1 h2 h3 => ⟨_, rfl, ?_⟩) (args_list_sort _)
  obtain ⟨e, he⟩ := sortedHeap_at (vs := its) (out := out) ob
  refine q g _ tk out.toList ns e kp (fun b o k => ?_) (by simpa using he) h1 h2 h3
  have hz := Heap.lt_size k
  rw [sortedHeap_old (Nat.ne_of_lt hz) (by rw [size_push']; exact Nat.lt_succ_of_lt hz), Heap.get?_push_ne _ _ _ (Nat.ne_of_lt hz)]
  exact k
end
/-- the keys, as values -/
theorem keys_vals {kvs : List (Key × V)} {vs : List (Key × Value)} {ks : List Int} {its : List Value} (kv : KV kvs vs) (hk : kvs.map (·.1) = ks.map Sum.inl) (ln : its.length = vs.length) (h : ∀ (j : Nat) (v : Value), its[j]? = some v → ∃ k x, vs[j]? = some (k, x) ∧ keyIs k v = true) : Vals (ks.map V.int) its := by
  have l1 : kvs.length = vs.length := Paired.length kv
  have l2 : kvs.length = ks.length := by
    have := congrArg List.length hk
    simpa using this
  refine paired_ofget (by rw [List.length_map]; omega) fun j a b e1 e2 => ?_
  obtain ⟨k, x, h1, h2⟩ := h j b e2
  rw [List.getElem?_map] at e1
  cases q : ks[j]? with
  | none => rw [q] at e1; cases e1
  | some n =>
    rw [q] at e1
    have e3 : V.int n = a := Option.some.inj e1
    have hj : j < kvs.length := by rw [l2]; exact (List.getElem?_eq_some_iff.mp q).1
    obtain ⟨⟨k', v'⟩, hkv⟩ : ∃ p, kvs[j]? = some p := ⟨_, List.getElem?_eq_getElem hj⟩
    have e4 : (kvs.map (·.1))[j]? = some k' := by rw [List.getElem?_map, hkv]; rfl
    rw [hk, List.getElem?_map, q] at e4
    have e5 : Sum.inl n = k' := Option.some.inj e4
    obtain ⟨u, hu, _⟩ := kv_get kv hkv
    rw [hu] at h1
    have e6 : (k', u) = (k, x) := Option.some.inj h1
    have e7 : k' = k := congrArg Prod.fst e6
    rw [← e3]
    have r := relV_key h2
    rw [← e7, ← e5] at r
    exact r
section
variable {X : Cx}
def rSortD : List V → Hp → VK → Prop := fun vs H Q => ∃ (a : Addr) (kvs : List (Key × V)) (ks : List Int), vs = [V.ref a] ∧ H a = some (.dK kvs) ∧ kvs.map (·.1) = ks.map Sum.inl ∧
  ∀ (ns : List Int) (p : Addr), ns.Perm ks → ns.Pairwise (· ≤ ·) → H p = none → Q (.ref p) (upd H p (.lst (ns.map V.int)))
theorem cr_sortD (hc : X.calm = true) : CallR X (.builtin "sorted") rSortD := by
  intro pins s σ H vs us Q I r h
  obtain ⟨a, kvs, ks, rfl, ha, hk, q⟩ := h
  obtain ⟨z, hs, xs, kv, dd⟩ := dk_of I.hok ha
  obtain ⟨ep, dat⟩ := dd.dictAt
  have l1 : kvs.length = xs.length := Paired.length kv
  rw [Vals.ref1 r]
  refine sortD_up (ks := ks) (PySem.W.kdl_dict (knd := mixKind X.prog X.w) (kvs := xs) (ep := ep) hs) (I.ok.hd hc) dat (by omega) (fun its ln hP => (keys_vals kv hk ln hP).ints) fun g g2 tk its ns e k1 k2 ob hI hp ho => ?_
  have I1 : Inv X pins σ H { s with heap := g } := I.kept (t' := s.toks) k1
  have ln : (ns.map V.int).length ≤ sizeLine := by
    have l2 : kvs.length = ks.length := by
      have := congrArg List.length hk
      simpa using this
    rw [List.length_map, hp.length_eq]
    omega
  exact ⟨.ref _, upd H g.objs.size (.lst (ns.map V.int)), I1.laid (t' := tk) k2 (Nat.le_refl _) ⟨ln, its, e, vals_of_ints hI, ob⟩, rfl, q ns _ hp ho (I1.hok.fresh (Nat.le_refl _))⟩
/-- sorted(d, reverse=True) -/
def tSortR (td : TE) : TE := fun σ H Q => td σ H fun x H1 => ∃ (a : Addr) (kvs : List (Key × V)) (ks : List Int), x = V.ref a ∧ H1 a = some (.dK kvs) ∧ kvs.map (·.1) = ks.map Sum.inl ∧
  ∀ (ns : List Int) (p : Addr), ns.Perm ks → ns.Pairwise (· ≥ ·) → H1 p = none → Q (.ref p) (upd H1 p (.lst (ns.map V.int)))
theorem pe_sortR {e : Expr} {td : TE} {p pos kp cp : Pos} {j : Nat} (hc : X.calm = true) (hg : Gl X "sorted") (hm : X.mg "sorted" = none) (he : PE X e td) (hs : starEach [e] X.env = [(false, eval e X.env)] := by rfl) :
    PE X (.Call (.Name "sorted" p) [e] [⟨some "reverse", .Constant (.bool true) j cp, kp⟩] pos) (tSortR td) := by
  intro pins s σ H Q I h
  refine wpAny_Call_Name_kw (ld_blt (u := .builtin "sorted") I hg hm (by decide +kernel) ?_)
  refine callWith_kw (id := "sorted") ?_ (by rw [hs]; rfl) (by rw [hs]; rfl)
  rw [hs]
  refine Calls.spliced_cons (thn (he pins s σ H _ I h) fun u s1 ⟨x, H1, I1, rx, a, kvs, ks, ex, ha, hk, q⟩ => Calls.spliced_nil ?_)
  subst ex
  obtain rfl : u = Value.ref a := rx
  refine kws_cons (Constant_bool ?_)
  refine kws_nil ?_
  obtain ⟨z, hs', xs, kv, dd⟩ := dk_of I1.hok ha
  obtain ⟨ep, dat⟩ := dd.dictAt
  have l1 : kvs.length = xs.length := Paired.length kv
  show wpAny _ _ (call (.builtin "sorted") [.ref a] [(Str.ofString "reverse", .bool true)]) _ _ _
  refine sortD_rev (ks := ks) (PySem.W.kdl_dict (knd := mixKind X.prog X.w) (kvs := xs) (ep := ep) hs') (I1.ok.hd hc) dat (by omega) (fun its ln hP => (keys_vals kv hk ln hP).ints) fun g g2 tk its ns e k1 k2 ob hI hp ho => ?_
  have I2 : Inv X pins σ H1 { s1 with heap := g } := I1.kept (t' := s1.toks) k1
  have ln : (ns.map V.int).length ≤ sizeLine := by
    have l2 : kvs.length = ks.length := by
      have := congrArg List.length hk
      simpa using this
    rw [List.length_map, hp.length_eq]
    omega
  exact ⟨.ref _, upd H1 g.objs.size (.lst (ns.map V.int)), I2.laid (t' := tk) k2 (Nat.le_refl _) ⟨ln, its, e, vals_of_ints hI, ob⟩, rfl, q ns _ hp ho (I2.hok.fresh (Nat.le_refl _))⟩
end
end Of
set_option Elab.async false
set_option linter.all false
set_option maxRecDepth 100000
set_option maxHeartbeats 2000000
namespace Of
open PySem PySem.Spec PyProof.Rows L2
/-! ### list(zip(a, b)), two lists of one length -/
/-- a zip whose first tuple is out and alive -/
abbrev ZpOut (h : Heap) (z ti to t : Addr) (f : Bool) : Prop :=
  h.get? z = some { cls := .type "zip", dict := none, data := .fields #[rawInt t, .bool f, .bool false, .ref ti, .ref to], slots := #[] }
/-! What is asked of the machine from here on: `Q` if it answers, `E` if it raises. -/
section
variable {prog : Program} {w : World} {s : Shared} {E : Value → Shared → Prop} {A : Around}
theorem zp_read {z ti to t : Addr} {f : Bool} {n : Nat} {v : Value} {Q : Value → Shared → Prop} (zo : ZpOut s.heap z ti to t f) (e : (#[rawInt t, .bool f, .bool false, .ref ti, .ref to] : Array Value)[n]? = some v) (q : Q v s) : wpAny (model prog w) A (field (.ref z) n) Q E s :=
  wpAny_field zo rfl e q
/-- the zip's own tuple is alive: it will not be used again, and the zip says so from now on -/
theorem zp_free {z ti to t : Addr} {f : Bool} {ot : Obj} {Q : Bool → Shared → Prop} (zo : ZpOut s.heap z ti to t f) (al : s.heap.get? t = some ot)
    (q : ∀ g, ZpOut g z ti to t true → Heap.SameBut z s.heap g → Q false { s with heap := g }) : wpAny (model prog w) A (Builtin.SmallTypes.ownedTupleIsFree (.ref z)) Q E s := by
  refine wpAny_bind (m := field (.ref z) 0) (zp_read zo rfl (wpAny_bind (m := loadIfAlive (t : Int).toNat) ?_))
  rw [Int.toNat_natCast]
  refine PySem.W.kdx_alive al (wpAny_bind (m := field (.ref z) 1) (zp_read zo rfl ?_))
  cases f
  · exact wpAny_bind (m := setField (.ref z) 1 (.bool true)) (wpAny_setField_rec zo (by simp) fun g z1 b => wpAny_pure (q g z1 b))
  · exact wpAny_pure (q _ zo (Heap.SameBut.refl _ _))
/-- the next of a zip whose own tuple is alive, of two lists of one length: both have an item, or both are at their end -/
theorem zp_on {z ti to i1 i2 l1 l2 t : Addr} {f : Bool} {ot : Obj} {k : Nat} {xs ys : Array Value} {Q : Option Value → Shared → Prop} (nh : A.handled = none) (D : ZipApart z ti to i1 i2 l1 l2) (zo : ZpOut s.heap z ti to t f) (al : s.heap.get? t = some ot)
    (its : IsPair s.heap ti (.ref i1) (.ref i2)) (r1 : s.heap.IsListIter i1 l1 k) (r2 : s.heap.IsListIter i2 l2 k) (v1 : s.heap.IsList l1 xs) (v2 : s.heap.IsList l2 ys)
    (more : ∀ x, xs[k]? = some x → ∃ y, ys[k]? = some y ∧ ∀ g, ZpOut g z ti to t true → g.IsListIter i1 l1 (k + 1) → g.IsListIter i2 l2 (k + 1) → IsPair g s.heap.objs.size x y → g.objs.size = s.heap.objs.size + 1 → (∀ c o, c ≠ z → c ≠ i1 → c ≠ i2 → s.heap.get? c = some o → g.get? c = some o) → Q (some (.ref s.heap.objs.size)) { s with heap := g })
    (stop : xs[k]? = none → ∀ g, (∀ c o, c ≠ z → c ≠ i1 → s.heap.get? c = some o → g.get? c = some o) → Q none { s with heap := g }) : wpAny (model prog w) A (pyNext (.ref z)) Q E s := by
  have isz : s.TypeIs (.ref z) "zip" := ⟨_, zo, rfl⟩
  refine wpAny_bind (wpAny_attempt (wpAny_callSpecial?_slot (name := Str.ofString "__next__") isz F.slot_zip_next (wpAny_call_entry F.slot_zip_next isz F.entry_zip_next ?_ (F.args_zip_next_1 _))))
  refine wpAny_bind (m := field (.ref z) 2) (zp_read zo rfl (wpAny_bind (m := field (.ref z) 3) (zp_read zo rfl (wpAny_bind (wpAny_seqItems its rfl ?_)))))
  refine wpAny_bind (m := Builtin.SmallTypes.ownedTupleIsFree (.ref z)) (zp_free zo al fun g0 z0 b0 => ?_)
  simp only [Bool.false_eq_true, if_false, List.forIn_toArray, List.forIn_cons, List.forIn_nil]
  refine wpAny_bind (wpAny_bind (wpAny_bind (wpAny_holding (wpAny_bind (m := Builtin.SmallTypes.nextOf (.ref i1)) ?_))))
  have r1' := r1.extBut b0.extBut D.i1z
  have v1' := v1.extBut b0.extBut D.l1z
  cases hx : xs[k]? with
  | none =>
    refine wpAny_nextOf_list_end nh r1' v1' hx fun g1 _ b1 ⟨o, e1, e2⟩ => ?_
    exact wpAny_bind (wpAny_isInstance (T := "StopIteration") (b := true) ⟨o, e1, e2⟩ isSubtype_stop (wpAny_pure (stop hx g1 fun c u n1 n2 e => b1 _ _ n2 (b0.extBut _ _ n1 e))))
  | some x =>
    obtain ⟨y, hy, qq⟩ := more x hx
    refine wpAny_nextOf_list_item r1' v1' hx fun g1 a1 b1 => wpAny_pure (wpAny_pure (wpAny_bind (wpAny_bind (wpAny_holding (wpAny_bind (m := Builtin.SmallTypes.nextOf (.ref i2)) ?_)))))
    refine wpAny_nextOf_list_item ((r2.extBut b0.extBut D.i2z).extBut b1.extBut D.i12.symm) ((v2.extBut b0.extBut D.l2z).extBut b1.extBut D.l2i1) hy fun g2 a2 b2 => wpAny_pure (wpAny_pure (wpAny_pure ?_))
    have kp : ∀ c o, c ≠ z → c ≠ i1 → c ≠ i2 → s.heap.get? c = some o → g2.get? c = some o := fun c o n1 n2 n3 e => b2.extBut _ _ n3 (b1.extBut _ _ n2 (b0.extBut _ _ n1 e))
    have sz : g2.objs.size = s.heap.objs.size := b2.1.trans (b1.1.trans b0.1)
    have fin := qq (g2.push { cls := .type "tuple", data := .seq #[x, y] }) (Heap.get?_push_of_some _ (b2.extBut _ _ D.i2z.symm (b1.extBut _ _ D.i1z.symm z0))) ((a1.extBut b2.extBut D.i12).at fun o e => Heap.get?_push_of_some _ e) (a2.at fun o e => Heap.get?_push_of_some _ e) (sz ▸ Heap.get?_push_size _ rfl) (sz ▸ Heap.size_push ..) fun c o n1 n2 n3 e => Heap.get?_push_of_some _ (kp c o n1 n2 n3 e)
    rw [← sz] at fin
    exact wpAny_bind (m := newTuple [x, y]) (wpAny_newTuple (wpAny_pure ⟨_, rfl, wpAny_pure fin⟩))
/-- a zip under way, its tuples handed on into a list -/
structure ZpSt (h : Heap) (z ti to i1 i2 l1 l2 S : Addr) (i : Nat) (xs ys : Array Value) : Prop where
  st : (i = 0 ∧ IsZip h z ti to .none ∧ ∃ x y, IsPair h to x y) ∨ ∃ t f ot, ZpOut h z ti to t f ∧ h.get? t = some ot ∧ S < t
  pr : IsPair h ti (.ref i1) (.ref i2)
  h1 : h.IsListIter i1 l1 i
  h2 : h.IsListIter i2 l2 i
  f1 : h.IsList l1 xs
  f2 : h.IsList l2 ys
theorem ZpSt.keep {h g : Heap} {z ti to i1 i2 l1 l2 S : Addr} {i : Nat} {xs ys : Array Value} (Z : ZpSt h z ti to i1 i2 l1 l2 S i xs ys) (lo : z < S ∧ ti < S ∧ to < S ∧ i1 < S ∧ i2 < S ∧ l1 < S ∧ l2 < S) (k : ∀ b o, b ≠ S → h.get? b = some o → g.get? b = some o) : ZpSt g z ti to i1 i2 l1 l2 S i xs ys := by
  obtain ⟨z1, z2, z3, z4, z5, z6, z7⟩ := lo
  refine ⟨?_, k _ _ (Nat.ne_of_lt z2) Z.pr, Z.h1.at fun o e => k _ _ (Nat.ne_of_lt z4) e, Z.h2.at fun o e => k _ _ (Nat.ne_of_lt z5) e, Z.f1.at fun o e => k _ _ (Nat.ne_of_lt z6) e, Z.f2.at fun o e => k _ _ (Nat.ne_of_lt z7) e⟩
  rcases Z.st with ⟨a, b, x, y, c⟩ | ⟨t, f, ot, a, b, c⟩
  · exact .inl ⟨a, k _ _ (Nat.ne_of_lt z1) b, x, y, k _ _ (Nat.ne_of_lt z3) c⟩
  · exact .inr ⟨t, f, ot, k _ _ (Nat.ne_of_lt z1) a, k _ _ (Nat.ne_of_gt c) b, c⟩
theorem zp_item {z ti to i1 i2 l1 l2 S : Addr} {i : Nat} {xs ys : Array Value} {x y : Value} {Q : Option Value → Shared → Prop} (nh : A.handled = none) (D : ZipApart z ti to i1 i2 l1 l2) (lo : z < S ∧ ti < S ∧ to < S ∧ i1 < S ∧ i2 < S ∧ l1 < S ∧ l2 < S) (hS : S < s.heap.objs.size)
    (Z : ZpSt s.heap z ti to i1 i2 l1 l2 S i xs ys) (hx : xs[i]? = some x) (hy : ys[i]? = some y)
    (q : ∀ g, ZpSt g z ti to i1 i2 l1 l2 S (i + 1) xs ys → IsPair g s.heap.objs.size x y → g.objs.size = s.heap.objs.size + 1 → (∀ c o, c ≠ z → c ≠ to → c ≠ i1 → c ≠ i2 → s.heap.get? c = some o → g.get? c = some o) → Q (some (.ref s.heap.objs.size)) { s with heap := g }) : wpAny (model prog w) A (pyNext (.ref z)) Q E s := by
  obtain ⟨z1, z2, z3, z4, z5, z6, z7⟩ := lo
  rcases Z.st with ⟨a, b, x0, y0, c⟩ | ⟨t, f, ot, a, b, c⟩
  · refine wpAny_pyNext_zip_item D b Z.pr c Z.h1 Z.h2 Z.f1 Z.f2 hx hy fun g q1 q2 q3 q4 q5 q6 q7 => ?_
    refine q g ⟨.inr ⟨_, false, _, q1, q5, hS⟩, q7 _ _ D.TIz D.TITO D.TIi1 D.TIi2 Z.pr, q3, q4, Z.f1.at fun o e => q7 _ _ D.l1z D.l1TO D.l1i1 D.l1i2 e, Z.f2.at fun o e => q7 _ _ D.l2z D.l2TO D.l2i1 D.l2i2 e⟩ q5 q6 q7
  · refine zp_on nh D a b Z.pr Z.h1 Z.h2 Z.f1 Z.f2 (fun x' e => ?_) fun e => by rw [hx] at e; cases e
    obtain rfl : x = x' := Option.some.inj (hx.symm.trans e)
    refine ⟨y, hy, fun g q1 q3 q4 q5 q6 q7 => ?_⟩
    have far : ∀ {u : Addr}, u < S → t ≠ u := fun m => Nat.ne_of_gt (Nat.lt_trans m c)
    exact q g ⟨.inr ⟨_, true, _, q1, q7 _ _ (far z1) (far z4) (far z5) b, c⟩, q7 _ _ D.TIz D.TIi1 D.TIi2 Z.pr, q3, q4, Z.f1.at fun o e => q7 _ _ D.l1z D.l1i1 D.l1i2 e, Z.f2.at fun o e => q7 _ _ D.l2z D.l2i1 D.l2i2 e⟩ q5 q6 fun c' o c1 _ c3 c4 e => q7 c' o c1 c3 c4 e
theorem zp_done {z ti to i1 i2 l1 l2 S : Addr} {i : Nat} {xs ys : Array Value} {Q : Option Value → Shared → Prop} (nh : A.handled = none) (D : ZipApart z ti to i1 i2 l1 l2)
    (Z : ZpSt s.heap z ti to i1 i2 l1 l2 S i xs ys) (hx : xs[i]? = none)
    (q : ∀ g, (∀ c o, c ≠ z → c ≠ to → c ≠ i1 → c ≠ i2 → s.heap.get? c = some o → g.get? c = some o) → Q none { s with heap := g }) : wpAny (model prog w) A (pyNext (.ref z)) Q E s := by
  rcases Z.st with ⟨a, b, x0, y0, c⟩ | ⟨t, f, ot, a, b, c⟩
  · exact wpAny_pyNext_zip_end nh D b Z.pr c Z.h1 Z.h2 Z.f1 Z.f2 (.inl hx) q
  · exact zp_on nh D a b Z.pr Z.h1 Z.h2 Z.f1 Z.f2 (fun x e => by rw [hx] at e; cases e) fun _ g k => q g fun c' o c1 _ c3 _ e => k c' o c1 c3 e
/-- the tuples that are out -/
structure ZpG (h : Heap) (S : Addr) (ts : List Addr) (xs ys : Array Value) : Prop where
  rise : ts.Pairwise (· < ·)
  above : ∀ t ∈ ts, S < t
  pairs : ∀ (j : Nat) (t : Addr), ts[j]? = some t → ∃ x y, xs[j]? = some x ∧ ys[j]? = some y ∧ IsPair h t x y
theorem ZpG.there {h : Heap} {S : Addr} {ts : List Addr} {xs ys : Array Value} (G : ZpG h S ts xs ys) {t : Addr} (m : t ∈ ts) : t < h.objs.size := by
  obtain ⟨j, hj⟩ := List.mem_iff_getElem?.mp m
  obtain ⟨_, _, _, _, e⟩ := G.pairs j t hj
  exact Heap.lt_size e
theorem zp_loop {z ti to i1 i2 l1 l2 S : Addr} {xs ys : Array Value} {R : Result → Shared → Prop} (hh : A.handled = none) (D : ZipApart z ti to i1 i2 l1 l2) (lo : z < S ∧ ti < S ∧ to < S ∧ i1 < S ∧ i2 < S ∧ l1 < S ∧ l2 < S) (hxy : xs.size = ys.size) (hn : xs.size ≤ sizeLine) (res : Value) {h0 : Heap}
    (hR : ∀ g tk acc c ts, (∀ b o, b ≠ S → b ≠ z → b ≠ to → b ≠ i1 → b ≠ i2 → h0.get? b = some o → g.get? b = some o) → g.get? S = some { cls := .type "list", dict := none, data := .seq acc c, slots := #[] } → ts.length = xs.size → ZpG g S ts xs ys → acc.toList = ts.map Value.ref → R (.ok (.ret res)) { s with heap := g, toks := tk }) :
    ∀ (k i : Nat) (h : Heap) (tk c : Nat) (acc : Array Value) (ts : List Addr), xs.size - i = k → i ≤ xs.size → ZpSt h z ti to i1 i2 l1 l2 S i xs ys → (∀ b o, b ≠ S → b ≠ z → b ≠ to → b ≠ i1 → b ≠ i2 → h0.get? b = some o → h.get? b = some o) →
      h.get? S = some { cls := .type "list", dict := none, data := .seq acc c, slots := #[] } → acc.toList = ts.map Value.ref → ts.length = i → ZpG h S ts xs ys →
      codeAny (model prog w) A (.builtin "list.extend.loop" ⟨[.ref S, .ref z, res], []⟩) R { s with heap := h, toks := tk } := by
  have lo' := lo
  obtain ⟨z1, z2, z3, z4, z5, z6, z7⟩ := lo'
  have oS : ∀ t, S < t → t ≠ S ∧ t ≠ z ∧ t ≠ to ∧ t ≠ i1 ∧ t ≠ i2 := fun t q => ⟨Nat.ne_of_gt q, Nat.ne_of_gt (Nat.lt_trans z1 q), Nat.ne_of_gt (Nat.lt_trans z3 q), Nat.ne_of_gt (Nat.lt_trans z4 q), Nat.ne_of_gt (Nat.lt_trans z5 q)⟩
  intro k
  induction k with
  | zero =>
    intro i h tk c acc ts hk hi hZ kp hS hacc hl hG
    refine codeAny_builtin (PySem.F.entry_extend_loop) ?_
    rw [Around.under_plainId PySem.F.plain_extend_loop (_)]
    refine wpAny_bind (m := pyNext (.ref z)) (zp_done (s := { s with heap := h, toks := tk }) (A := A.in1) hh D hZ (by rw [Array.getElem?_eq_none]; omega) fun g hg => ?_)
    refine wpAny_pure (hR g tk acc c ts (fun b o c0 c1 c2 c3 c4 e => hg b o c1 c2 c3 c4 (kp b o c0 c1 c2 c3 c4 e)) (hg S _ (Nat.ne_of_gt z1) (Nat.ne_of_gt z3) (Nat.ne_of_gt z4) (Nat.ne_of_gt z5) hS) (by omega) ⟨hG.rise, hG.above, fun j t hj => ?_⟩ hacc)
    obtain ⟨x, y, e1, e2, e3⟩ := hG.pairs j t hj
    obtain ⟨d0, d1, d2, d3, d4⟩ := oS t (hG.above t (List.mem_of_getElem? hj))
    exact ⟨x, y, e1, e2, hg t _ d1 d2 d3 d4 e3⟩
  | succ k ih =>
    intro i h tk c acc ts hk hi hZ kp hS hacc hl hG
    have hlt : i < xs.size := by omega
    have hlt2 : i < ys.size := by omega
    have len : acc.size = i := by rw [← Array.length_toList, hacc, List.length_map, hl]
    have up0 : S < h.objs.size := Heap.lt_size hS
    refine codeAny_builtin (PySem.F.entry_extend_loop) ?_
    rw [Around.under_plainId PySem.F.plain_extend_loop (_)]
    refine wpAny_bind (m := pyNext (.ref z)) (zp_item (s := { s with heap := h, toks := tk }) (A := A.in1) (S := S) hh D lo up0 hZ (Array.getElem?_eq_getElem hlt) (Array.getElem?_eq_getElem hlt2) fun g hZ' hp hz hk' => ?_)
    dsimp only at hp hz hk' ⊢
    have hS' := hk' S _ (Nat.ne_of_gt z1) (Nat.ne_of_gt z3) (Nat.ne_of_gt z4) (Nat.ne_of_gt z5) hS
    have up : ∀ b o, b ≠ S → g.get? b = some o → (g.update S (Obj.mapSeq (·.push (Value.ref h.objs.size)))).get? b = some o := fun b o hb e => (Heap.get?_update_other _ _ (Ne.symm hb)).trans e
    refine wpAny_bind (m := updateSeq S (·.push (Value.ref h.objs.size))) (wpAny_updateSeq hS' rfl (wpAny_pure ⟨plainId_quiet PySem.F.plain_extend_loop _, ih (i + 1) _ tk _ (acc.push (Value.ref h.objs.size)) (ts ++ [h.objs.size]) (by omega) hlt (hZ'.keep lo up)
      (fun b o c0 c1 c2 c3 c4 e => up b o c0 (hk' b o c1 c2 c3 c4 (kp b o c0 c1 c2 c3 c4 e))) (Heap.get?_update_self _ hS' rfl) (by rw [Array.toList_push, hacc, List.map_append]; rfl) (by rw [List.length_append, hl]; rfl) ⟨?_, ?_, ?_⟩⟩) (by rw [len]; omega) (by show (acc.push (Value.ref h.objs.size)).size ≤ sizeLine + 1; rw [Array.size_push, len]; omega))
    · exact List.pairwise_append.mpr ⟨hG.rise, List.pairwise_singleton _ _, fun t ht b hb => List.mem_singleton.mp hb ▸ hG.there ht⟩
    · intro t ht
      rcases List.mem_append.mp ht with m | m
      · exact hG.above t m
      · exact List.mem_singleton.mp m ▸ up0
    · intro j t hj
      rcases Nat.lt_or_ge j ts.length with old | new
      · obtain ⟨x, y, e1, e2, e3⟩ := hG.pairs j t ((List.getElem?_append_left old).symm.trans hj)
        obtain ⟨d0, d1, d2, d3, d4⟩ := oS t (hG.above t (List.mem_of_getElem? ((List.getElem?_append_left old).symm.trans hj)))
        exact ⟨x, y, e1, e2, up t _ d0 (hk' t _ d1 d2 d3 d4 e3)⟩
      · rw [List.getElem?_append_right new] at hj
        obtain ⟨rfl, rfl⟩ : j = i ∧ t = h.objs.size := by
          cases e : j - ts.length with
          | zero => rw [e] at hj; exact ⟨by omega, (Option.some.inj hj).symm⟩
          | succ m => rw [e] at hj; cases hj
        exact ⟨_, _, Array.getElem?_eq_getElem hlt, Array.getElem?_eq_getElem hlt2, up _ _ (Nat.ne_of_gt up0) hp⟩
end
end Of
set_option Elab.async false
set_option linter.all false
set_option maxRecDepth 100000
set_option maxHeartbeats 2000000
namespace Of
open PySem PySem.Spec PyProof.Rows L2
theorem zp_nolen : typeLookup (.type "zip") "__len__" = pure none := by rw [typeLookup_type, builtinLookup_eq_fast]; kernel_rfl
theorem zp_nohint : typeLookup (.type "zip") "__length_hint__" = pure none := by rw [typeLookup_type, builtinLookup_eq_fast]; kernel_rfl
section
variable {prog : Program} {w : World} {s : Shared} {E : Value → Shared → Prop} {A : Around}
/-- a zip has no length to tell -/
theorem zp_hint {z : Addr} {Q : Bool → Shared → Prop} (isz : s.TypeIs (.ref z) "zip") (q : Q true s) : wpAny (model prog w) A (Builtin.List.listLengthHint (.ref z)) Q E s :=
  wpAny_bind (m := specialOf (.ref z) "__len__") (wpAny_specialOf isz zp_nolen (wpAny_bind (m := specialOf (.ref z) "__length_hint__") (wpAny_specialOf isz zp_nohint (wpAny_pure q))))
/-- list(z): a new list is laid, emptied, made room in, and takes the zip's tuples one by one -/
theorem zp_list {z ti to i1 i2 l1 l2 : Addr} {xs ys : Array Value} {Q : Value → Shared → Prop} (nh : A.handled = none) (D : ZipApart z ti to i1 i2 l1 l2) (lo : z < s.heap.objs.size ∧ ti < s.heap.objs.size ∧ to < s.heap.objs.size ∧ i1 < s.heap.objs.size ∧ i2 < s.heap.objs.size ∧ l1 < s.heap.objs.size ∧ l2 < s.heap.objs.size) (hxy : xs.size = ys.size) (hn : xs.size ≤ sizeLine)
    (hz : IsZip s.heap z ti to .none) (Z : ZpSt s.heap z ti to i1 i2 l1 l2 s.heap.objs.size 0 xs ys)
    (q : ∀ g tk acc c ts, (∀ b o, b ≠ z → b ≠ to → b ≠ i1 → b ≠ i2 → s.heap.get? b = some o → g.get? b = some o) → g.get? s.heap.objs.size = some { cls := .type "list", dict := none, data := .seq acc c, slots := #[] } → ts.length = xs.size → ZpG g s.heap.objs.size ts xs ys → acc.toList = ts.map Value.ref → Q (.ref s.heap.objs.size) { s with heap := g, toks := tk }) :
    wpAny (model prog w) A (call (.type "list") [.ref z]) Q E s := by
  generalize hL : s.heap.objs.size = L at *
  refine callType_codes (Q₁ := fun v t => v = .ref L ∧ t = { s with heap := s.heap.push { cls := .type "list", data := .seq #[] } }) PySem.F.called_list (PySem.F.typeCall_list_1 _) PySem.F.entry_list_init (code_list_new _ ⟨by rw [hL], rfl⟩) fun v t e => ?_
  obtain ⟨rfl, rfl⟩ := e
  -- what stands beside the list stays through the four steps
  have e0 : (s.heap.push { cls := .type "list", data := .seq #[] }).get? L = some { cls := .type "list", data := .seq #[] } := hL ▸ Heap.get?_push_size _ rfl
  have k0 : ∀ b o, b ≠ L → s.heap.get? b = some o → (s.heap.push { cls := .type "list", data := .seq #[] }).get? b = some o := fun b o _ e => Heap.get?_push_of_some _ e
  have put : ∀ (F : Array Value → Array Value) (h : Heap), (∀ b o, b ≠ L → s.heap.get? b = some o → h.get? b = some o) → ∀ b o, b ≠ L → s.heap.get? b = some o → (h.update L (Obj.mapSeq F)).get? b = some o :=
    fun F h k b o ne e => (Heap.get?_update_other _ _ (Ne.symm ne)).trans (k b o ne e)
  refine ⟨⟨_, e0, rfl⟩, PySem.F.args_list_init_2 _ _, ?_⟩
  refine wpAny_bind (m := Builtin.List.listItems (.ref L)) (wpAny_bind (wpAny_seqItems e0 rfl (wpAny_pure ?_)))
  refine wpAny_bind (m := updateSeq L fun _ => #[]) (wpAny_updateSeq e0 rfl (wpAny_bind (m := letGo []) (wpAny_letGo ?_)))
  have e1 := Heap.get?_update_self (Obj.mapSeq fun _ => (#[] : Array Value)) e0 rfl
  have k1 := put (fun _ => #[]) _ k0
  have Z1 := Z.keep lo k1
  refine wpAny_bind (m := typeOf (.ref z)) (wpAny_typeOf (T := "zip") ⟨_, k1 _ _ (Nat.ne_of_lt lo.1) hz, rfl⟩ ?_)
  have no : (Builtin.List.listSameRef (.ref L) (.ref z) || Value.type "zip" == Value.type "list" || Value.type "zip" == Value.type "tuple") = false := by
    rw [show Builtin.List.listSameRef (.ref L) (.ref z) = false by simp [Builtin.List.listSameRef, Nat.ne_of_gt lo.1]]
    decide
  simp only [no, Bool.false_eq_true, if_false]
  refine wpAny_bind (wpAny_pyIter_zip (k1 _ _ (Nat.ne_of_lt lo.1) hz) (wpAny_bind (wpAny_holding (zp_hint ⟨_, k1 _ _ (Nat.ne_of_lt lo.1) hz, rfl⟩ ?_))))
  refine wpAny_ite_split (fun _ => wpAny_bind (wpAny_rule (wpAny_bind ?_))) fun n => absurd rfl n
  refine wpAny_bind (m := updateSeq L (·.push .none)) (wpAny_updateSeq e1 rfl ?_)
  have e2 := Heap.get?_update_self (Obj.mapSeq (·.push Value.none)) e1 rfl
  refine wpAny_updateSeq (hz := by seq_fits) e2 rfl (wpAny_pure ⟨plainId_quiet PySem.F.plain_extend_loop _, ?_⟩)
  have e3 := Heap.get?_update_self (Obj.mapSeq (·.pop)) e2 rfl
  have k3 := put (·.pop) _ (put (·.push Value.none) _ k1)
  exact zp_loop (A := A.in1) (s := s) (h0 := s.heap) nh D lo hxy hn .none (fun g tk acc c ts k a1 a2 a3 a4 => ⟨rfl, q g tk acc c ts (fun b o n1 n2 n3 n4 e => k b o (Nat.ne_of_lt (hL ▸ Heap.lt_size e)) n1 n2 n3 n4 e) a1 a2 a3 a4⟩) xs.size 0 _ _ _ #[] [] (Nat.sub_zero _) (Nat.zero_le _) (Z.keep lo k3) (fun b o n0 _ _ _ _ e => k3 b o n0 e) e3 rfl rfl ⟨List.Pairwise.nil, (fun _ m => nomatch m), (fun j t hj => by simp at hj)⟩
end
/-! ### several new things are laid at once -/
theorem Inv_lays {X : Cx} {pins : List (Addr × Obj)} {σ : L2.St} {H H2 : Hp} {s : Shared} {g : Heap} {tk : Nat} (I : Inv X pins σ H s) (k : ∀ b u, s.heap.get? b = some u → g.get? b = some u) (sub : Same H H2) (nw : ∀ b o, H2 b = some o → H b = some o ∨ (s.heap.objs.size ≤ b ∧ ObjOk X.prog X.w H2 g b o)) : Inv X pins σ H2 { s with heap := g, toks := tk } := by
  refine I.un ⟨fun b o q _ _ _ => k b o q, fun b o q _ _ _ => ⟨o.slots, k b o q⟩, fun b o q n _ => ?_, fun b o q _ => ⟨o, k b o q⟩, fun b xs q => sub _ _ q, fun b o u q => sub _ _ q, fun b ps q => ⟨#[], by rw [sub _ _ q]; simp⟩⟩ fun b o e => ?_
  · cases e : H2 b with
    | none => rfl
    | some u =>
      rcases nw b u e with z | ⟨z, _⟩
      · rw [n] at z
        cases z
      · exact absurd (Heap.lt_size q) (Nat.not_lt.mpr z)
  · rcases nw b o e with z | ⟨_, z⟩
    · exact (I.hok b o z).stay (fun c u _ q => k c u q) (fun c q => sub _ _ q) fun c xs q => sub _ _ q
    · exact z
/-- pairs laid -/
def zmap (H : Hp) : List (Addr × (V × V)) → Hp
  | [] => H
  | (t, p) :: r => upd (zmap H r) t (.tup [p.1, p.2])
theorem zmap_out {H : Hp} {b : Addr} : ∀ {l : List (Addr × (V × V))}, (∀ e ∈ l, e.1 ≠ b) → zmap H l b = H b
  | [], _ => rfl
  | (t, p) :: r, h => by
    show upd (zmap H r) t _ b = H b
    rw [upd_ne (Ne.symm (h (t, p) (by simp)))]
    exact zmap_out fun e he => h e (by simp [he])
theorem zmap_in {H : Hp} : ∀ {ts : List Addr} {ps : List (V × V)}, ts.Pairwise (· < ·) → ts.length = ps.length → Paired (fun t p => zmap H (ts.zip ps) t = some (.tup [p.1, p.2])) ts ps
  | [], [], _, _ => .nil
  | [], p :: ps, _, h => by simp at h
  | t :: ts, [], _, h => by simp at h
  | t :: ts, p :: ps, hp, h => by
    rw [List.pairwise_cons] at hp
    refine .cons upd_same (paired_mapM' (zmap_in (H := H) (ts := ts) (ps := ps) hp.2 (by simpa using h)) fun b q hb e => ?_)
    show upd (zmap H (ts.zip ps)) t _ b = _
    rw [upd_ne (Nat.ne_of_gt (hp.1 b hb))]
    exact e
where
  paired_mapM' {α β : Type} {F G : α → β → Prop} : ∀ {l : List α} {m : List β}, Paired F l m → (∀ a b, a ∈ l → F a b → G a b) → Paired G l m
  | _, _, .nil, _ => .nil
  | _, _, .cons r t, f => .cons (f _ _ (by simp) r) (paired_mapM' t fun a b h => f a b (by simp [h]))
end Of
set_option Elab.async false
set_option linter.all false
set_option maxRecDepth 100000
set_option maxHeartbeats 2000000
namespace Of
open PySem PySem.Spec PyProof.Rows L2
theorem paired_getL {α β : Type} {F : α → β → Prop} : ∀ {l : List α} {m : List β} {i : Nat} {a : α}, Paired F l m → l[i]? = some a → ∃ b, m[i]? = some b ∧ F a b
  | _, _, _, _, .nil, h => by simp at h
  | _, _, 0, _, .cons r _, h => by
    have e := Option.some.inj h
    subst e
    exact ⟨_, rfl, r⟩
  | _, _, i + 1, _, .cons _ t, h => paired_getL (i := i) t h
theorem natlt {a b : Nat} (h : a < b) : a < b := h
/-- list(zip(a, b)) -/
def tListZip (K : PySem.W.Frag) (ta : TA) : TE := fun σ H Q => ta σ H fun vs H1 => ∃ (a b : Addr) (xs ys : List V), vs = [.ref a, .ref b] ∧ SqL K H1 a xs ∧ SqL K H1 b ys ∧ xs.length = ys.length ∧
  ∀ (H2 : Hp) (l : Addr) (ts : List Addr), H1 l = none → Same H1 H2 → H2 l = some (.lst (ts.map V.ref)) → Paired (fun t p => H2 t = some (.tup [p.1, p.2])) ts (xs.zip ys) → Q (.ref l) H2
theorem pe_listzip {X : Cx} {e e2 : Expr} {ta : TA} {p p2 pos pos2 : Pos} (hc : X.calm = true) (hgl : Gl X "list") (hml : X.mg "list" = none) (hgz : Gl X "zip") (hmz : X.mg "zip" = none) (ha : PA X [e, e2] ta)
    (hs : starEach [e, e2] X.env = (false, eval e X.env) :: starEach [e2] X.env := by rfl) (hpl : (backTo pos2 (starEach [e2] X.env)).any (·.1) = false := by rfl)
    (hs1 : starEach [Expr.Call (.Name "zip" p2) [e, e2] [] pos2] X.env = (false, eval (.Call (.Name "zip" p2) [e, e2] [] pos2) X.env) :: starEach [] X.env := by rfl) :
    PE X (.Call (.Name "list" p) [.Call (.Name "zip" p2) [e, e2] [] pos2] [] pos) (tListZip X.K ta) := by
  intro pins s σ H Q I h
  refine Call_ (ld_blt I hgl hml PyProof.Rows.boot_list (PyProof.Rows.callWith_type1 ?_ hs1 rfl))
  rw [hs1]
  refine Calls.spliced_cons ?_
  refine Call_ (ld_blt I hgz hmz boot_zip5 (PyProof.Rows.callWith_type1 (thn (ha pos2 pins s σ H _ I h) fun us s1 ⟨vs, H1, I1, r1, q1⟩ => ?_) hs hpl))
  obtain ⟨a, b, xs, ys, ex, hqx, hqy, hlen, q⟩ := q1
  subst ex
  cases r1 with
  | cons r rr =>
    cases rr with
    | cons r' rr =>
      cases rr
      cases r
      cases r'
      obtain ⟨its, rv, p1, z1⟩ := I1.list hqx
      obtain ⟨its2, rv2, p2', z2⟩ := I1.list hqy
      have la : a < s1.heap.objs.size := p1.lt
      have lb : b < s1.heap.objs.size := p2'.lt
      have n1 := rv.length
      have n2 := rv2.length
      refine call_zip_2 p1.isList p2'.isList fun h' hz hTI hTO h1 h2 hsz hk => Calls.spliced_nil ?_
      generalize hN : s1.heap.objs.size = N at *
      have hS : h'.objs.size = N + 5 := hsz
      have la' := natlt la
      have lb' := natlt lb
      refine zp_list (s := { s1 with heap := h' }) (xs := its.toArray) (ys := its2.toArray) (I1.ok.hd hc) (PySem.W.ktu_apart N a b la lb) (by show _ < h'.objs.size ∧ _ < h'.objs.size ∧ _ < h'.objs.size ∧ _ < h'.objs.size ∧ _ < h'.objs.size ∧ _ < h'.objs.size ∧ _ < h'.objs.size; rw [hS]; omega) (by rw [List.size_toArray, List.size_toArray]; omega) (by rw [List.size_toArray]; omega) hz
        ⟨.inl ⟨rfl, hz, _, _, hTO⟩, hTI, h1, h2, p1.isList.at fun o e => hk _ _ e, p2'.isList.at fun o e => hk _ _ e⟩ fun g tk acc c ts kp e1 e2' G e4 => ?_
      have hgS : g.get? h'.objs.size = some { cls := .type "list", dict := none, data := .seq acc c, slots := #[] } := e1
      have kp1 : ∀ b o, s1.heap.get? b = some o → g.get? b = some o := fun b' o e => by
        have lt : b' < N := by
          have := natlt (Heap.lt_size e)
          rw [hN] at this
          exact this
        have lt' := natlt lt
        have ne : ∀ k : Nat, b' ≠ N + k := fun k => Nat.ne_of_lt (Nat.lt_of_lt_of_le lt (Nat.le_add_right N k))
        exact kp b' o (ne 4) (ne 3) (ne 0) (ne 1) (hk _ _ e)
      have tl : ts.length = (xs.zip ys).length := by
        rw [List.length_zip, e2', List.size_toArray]
        omega
      have Pz := zmap_in (H := H1) G.rise tl
      have tb : ∀ t ∈ ts, N + 5 < t := fun t m => by
        have := G.above t m
        have e : ({ s1 with heap := h' } : Shared).heap.objs.size = N + 5 := hS
        rw [e] at this
        exact this
      have fr : ∀ b', N ≤ b' → H1 b' = none := fun b' hb => I1.hok.fresh (by omega)
      have nS : ∀ t ∈ ts, t ≠ N + 5 := fun t m => Nat.ne_of_gt (tb t m)
      have fz : ∀ b', (∀ t ∈ ts, t ≠ b') → zmap H1 (ts.zip (xs.zip ys)) b' = H1 b' := fun b' hb => zmap_out fun e he => hb e.1 (List.of_mem_zip he).1
      have sm : Same H1 (upd (zmap H1 (ts.zip (xs.zip ys))) (N + 5) (.lst (ts.map V.ref))) := fun b' o e => by
        have lt : b' < N := by
          have := natlt (I1.hok.lt e)
          rw [hN] at this
          exact this
        have lt' := natlt lt
        rw [upd_ne (Nat.ne_of_lt (Nat.lt_of_lt_of_le lt (Nat.le_add_right N 5))), fz b' fun t m => Nat.ne_of_gt (Nat.lt_trans (Nat.lt_of_lt_of_le lt (Nat.le_add_right N 5)) (tb t m))]
        exact e
      have I2 : Inv X pins σ (upd (zmap H1 (ts.zip (xs.zip ys))) (N + 5) (.lst (ts.map V.ref))) { s1 with heap := g, toks := tk } := by
        refine Inv_lays I1 kp1 sm fun b' o e => ?_
        by_cases hb : b' = N + 5
        · subst hb
          rw [upd_same] at e
          cases e
          refine .inr ⟨by omega, by rw [List.length_map, e2', List.size_toArray]; omega, ts.map Value.ref, c, ?_, ?_⟩
          · clear e4 Pz G tl e2' tb nS fz sm
            induction ts with
            | nil => exact .nil
            | cons t ts ih => exact .cons rfl ih
          · rw [hS] at hgS
            rw [hgS, ← e4]
        · rw [upd_ne hb] at e
          by_cases hm : b' ∈ ts
          · obtain ⟨j, hj⟩ := List.mem_iff_getElem?.mp hm
            obtain ⟨⟨x, y⟩, hxy, ez⟩ := paired_getL Pz hj
            rw [ez] at e
            cases e
            obtain ⟨x', y', g1, g2, g3⟩ := G.pairs j b' hj
            rw [List.getElem?_zip_eq_some] at hxy
            obtain ⟨u, hu, ru⟩ := rv.get hxy.1
            obtain ⟨u2, hu2, ru2⟩ := rv2.get hxy.2
            have e1 : x' = u := by
              rw [List.getElem?_toArray, hu] at g1
              exact (Option.some.inj g1).symm
            have e2 : y' = u2 := by
              rw [List.getElem?_toArray, hu2] at g2
              exact (Option.some.inj g2).symm
            subst e1 e2
            exact .inr ⟨by have := natlt (tb b' hm); omega, by show 2 ≤ sizeLine; decide, [x', y'], .cons ru (.cons ru2 .nil), ⟨_, g3, rfl, _, rfl⟩⟩
          · rw [fz b' fun t m z => hm (z ▸ m)] at e
            exact .inl e
      show EP X pins σ Q (.ref h'.objs.size) _
      rw [hS]
      refine ⟨.ref (N + 5), _, I2, rfl, q _ (N + 5) ts (fr _ (by omega)) sm upd_same (zmap_in.paired_mapM' Pz fun t p ht e => ?_)⟩
      rw [upd_ne (nS t ht)]
      exact e
end Of
set_option Elab.async false
set_option linter.all false
set_option maxRecDepth 100000
set_option maxHeartbeats 2000000
namespace PySem
open Sem (wp)
/-! ### enumerate(l, start=v) -/
section
variable {prog : Program} {w : World} {s : Shared} {E : Value → Shared → Prop} {A : Around}
/-- the iterator over l, and the enumerate over that iterator -/
abbrev itOf (l : Addr) : Obj := { cls := .type "list_iterator", data := .fields #[.ref l, .int 0 0] }
abbrev enOf (i : Addr) (v : Int) : Obj := { cls := .type "enumerate", data := .fields #[.none, .bool false, .ref i, rawInt v, .none, .none] }
abbrev stKw (v : Value) : List (Str × Value) := [(Str.ofString "start", v)]
theorem enS_call (a v : Value) : checkTypeCall "enumerate" ⟨[a], stKw v⟩ = pure () := by kernel_rfl
theorem enS_newCall (a v : Value) : checkBuiltinCall "enumerate.__new__" ⟨[.type "enumerate", a], stKw v⟩ = pure () := by kernel_rfl
theorem enS_init (a b v : Value) : argsOk "object.__init__" ⟨[a, b], stKw v⟩ := by
  rw [argsOk, signature?_of (id := "object.__init__") (n := "__init__".toList.reverse) (o := "object".toList.reverse) (by kernel_rfl) F.owner_object]
  kernel_rfl
open AutoSeq1 (wpAny_loadPart')
/-- what `__new__` lays -/
theorem enS_new {l : Addr} {o : Obj} {xs : Array Value} {n : Nat} {v : Int} {t : Tok} {R : Result → Shared → Prop} (fit : Builtin.SmallTypes.fitsIndex v = true) (at_ : s.heap.get? l = some { cls := .type "list", dict := o.dict, data := .seq xs n, slots := o.slots })
    (r : R (.ok (.ret (.ref (s.heap.push (itOf l)).objs.size))) { s with heap := (s.heap.push (itOf l)).push (enOf s.heap.objs.size v) }) :
    codeAny (model prog w) A (.call (.builtin "enumerate.__new__") ⟨[.type "enumerate", .ref l], stKw (.int v t)⟩) R s := by
  have M : Meets (Builtin.«enumerate.__new__» ⟨[.type "enumerate", .ref l], stKw (.int v t)⟩) fun _ R s => s.heap.get? l = some { cls := .type "list", dict := o.dict, data := .seq xs n, slots := o.slots } ∧ R (.ok (.ret (.ref (s.heap.push (itOf l)).objs.size))) { s with heap := (s.heap.push (itOf l)).push (enOf s.heap.objs.size v) } := by
    refine Meets.of_wp ?_
    rintro prog w A R ⟨hp, gl, dp, tk, os⟩ ⟨lst, q⟩
    have sub := sub_enumerate
    have isl : Heap.IsList hp l xs := ⟨_, lst, rfl, n, rfl⟩
    have fit' : (!Builtin.SmallTypes.fitsIndex v) = false := by rw [fit]; rfl
    wp_walk using (wpAny_loadPart' lst)
    refine wpAny_stack_any fun _ => wpAny_pure ?_
    split
    · rename_i c _ _ _ _ _
      cases c == Value.type "enumerate" <;> wp_walk using (wpAny_loadPart' lst), (wpAny_pyIter_list isl) <;> exact ⟨_, rfl, q⟩
    · wp_walk using (wpAny_loadPart' lst), (wpAny_pyIter_list isl)
      exact ⟨_, rfl, q⟩
  exact codeAny_call_builtin F.called_enumerate.plain F.entry_enumerate_new (wpAny_of_eq (enS_newCall _ _) (M prog w A _ s ⟨at_, r⟩))
/-- `__init__` is object's, and says nothing against the arguments that `__new__` took -/
theorem enS_ready {e a v : Value} : Meets (Builtin.«object.__init__» ⟨[e, a], stKw v⟩) fun _ R s => s.TypeIs e "enumerate" ∧ R (.ok (.ret .none)) s := by
  have look := F.called_enumerate.init.lookup
  have made := F.called_enumerate.made
  have other : (some "enumerate.__new__" != some "object.__new__") = true := by decide
  refine Meets.of_wp ?_
  rintro prog w A R s ⟨ise, r⟩
  repeat' first | assumption | wp_step
  exact ⟨_, rfl, r⟩
theorem enS_make {l : Addr} {items : Array Value} {v : Int} {t : Tok} {Q : Value → Shared → Prop} (hv : Builtin.SmallTypes.fitsIndex v = true) (hL : s.heap.IsList l items)
    (q : ∀ g, IsEnum g (s.heap.objs.size + 1) s.heap.objs.size v .none → g.IsListIter s.heap.objs.size l 0 → (∀ b o, s.heap.get? b = some o → g.get? b = some o) → Q (.ref (s.heap.objs.size + 1)) { s with heap := g }) :
    wpAny (model prog w) A (call (.type "enumerate") [.ref l] (stKw (.int v t))) Q E s := by
  obtain ⟨o, at_, isl, n, dat⟩ := hL
  have sh : o = { cls := .type "list", dict := o.dict, data := .seq items n, slots := o.slots } := by rw [← isl, ← dat]
  have one : (s.heap.push (itOf l)).objs.size = s.heap.objs.size + 1 := Heap.size_push ..
  have en : IsEnum ((s.heap.push (itOf l)).push (enOf s.heap.objs.size v)) (s.heap.objs.size + 1) s.heap.objs.size v .none := one ▸ Heap.get?_push_size (s.heap.push (itOf l)) (o := enOf s.heap.objs.size v) rfl
  have res := q _ en ⟨_, Heap.get?_push_of_some _ (Heap.get?_push_size _ rfl), rfl, rfl⟩ fun b u x => Heap.get?_push_of_some _ (Heap.get?_push_of_some _ x)
  -- what the walk through type.__call__ asks for
  have C := F.called_enumerate
  obtain ⟨top, above, order⟩ := C.mro
  have w1 := C.made
  have w2 := C.sub
  have w3 := C.notType
  have w4 := C.canCreate
  have w5 := C.init.lookup
  have w6 := C.init.bind (.ref (s.heap.objs.size + 1))
  have w7 := enS_call (.ref l) (.int v t)
  refine wpAny_call (codeAny_of_tree (show wpAny _ _ (callAny (.type "enumerate") ⟨[.ref l], stKw (.int v t)⟩) _ _ _ from wpAny_pure ⟨Code.quiet_builtin _ (by decide +kernel), codeAny_builtin F.entry_type_call ?_⟩))
  rw [Around.under_plain (weight_type_call_type _ _ _) (units_type_call_type _ _ _)]
  repeat' first | assumption | wp_step
  refine enS_new (o := o) hv (at_.trans (congrArg some sh)) ?_
  have tys : Shared.TypeIs { s with heap := (s.heap.push (itOf l)).push (enOf s.heap.objs.size v) } (.ref (s.heap.objs.size + 1)) "enumerate" := ⟨_, en, rfl⟩
  rw [one]
  repeat' first | assumption | wp_step
  refine codeAny_mono (codeAny_call_builtin C.init.plain F.entry_object_init (C.init.check _ _ _ _ _ _ _ _ tys (enS_init _ _ _) (enS_ready prog w _ (wants (fun r u => r = .none ∧ Q (.ref (s.heap.objs.size + 1)) u) E) _ ⟨tys, rfl, res⟩))) ?_
  rintro (x | (x | x | x | x)) u y
  all_goals first | exact y | exact y.elim | skip
  all_goals obtain ⟨rfl, fin⟩ := y
  repeat' first | assumption | wp_step
/-- a call of a type with plain arguments and with keywords, from what its parts give -/
theorem ofCallWithTypeKw {pos : Pos} {T : String} {ps : List (Bool × Sem Value)} {ks : List (Option Str × Sem Value)} {Q : Value → Shared → Prop}
    (h : wpAny (model prog w) A (spliced ps) (fun vs s1 => wpAny (model prog w) A (evalAll (ks.map (·.2))) (fun us s2 => wpAny (model prog w) A (call (.type T) vs ((ks.filterMap (·.1)).zip us)) Q E s2) E s1) E s)
    (x : Sem Value) (more : List (Bool × Sem Value)) (eq : ps = (false, x) :: more) (no : ps.any (·.1) = false) (named : ks.all (·.1.isSome) = true) (open_ : ks.any (·.1.isNone) = false) :
    wpAny (model prog w) A (callWith pos (.type T) [] ps ks) Q E s := by
  subst eq
  have got := PyProof.Rows.evalArgs_kwB (f := .type T) (Q := fun a u => wpAny (model prog w) A (call (.type T) ([] ++ a.pos) a.kw) Q E u) named h
  rw [callWith]
  refine wpAny_bind (wpAny_holding (wpAny_mono got (fun a u q => wpAny_bind (wpAny_standAt ?_)) fun _ _ y => y))
  rw [no, open_]
  exact wpAny_bind (wpAny_pure (wpAny_bind (wpAny_mono q (fun _ _ y => wpAny_bind (wpAny_holding (wpAny_point (wpAny_pure y)))) fun _ _ y => y)))
end
end PySem
set_option Elab.async false
set_option linter.all false
set_option maxRecDepth 100000
set_option maxHeartbeats 2000000
namespace Of
open PySem PySem.Spec PyProof.Rows L2
/-! ### enumerate(list, start=e) -/
theorem drawsS {prog : Program} {w : World} {A : Around} (hh : A.handled = none) (it a : Addr) (st : Nat) (its : List Value) (hne : a ≠ it) :
    Draws prog w A it [it, a] (st + its.length) (fun j v => ∃ m, j = st + m ∧ its.toArray[m]? = some v) (fun j h => ∃ m, j = st + m ∧ h.IsListIter it a m ∧ h.IsList a its.toArray) where
  live := fun i h ⟨m, _, ⟨o, ho, _⟩, _⟩ => ⟨o, ho⟩
  frame := fun i h h' ⟨m, e, h1, h2⟩ k => ⟨m, e, h1.at fun o q => k it (by simp) o q, h2.at fun o q => k a (by simp) o q⟩
  item := fun i s Q E hi ⟨m, e, h1, h2⟩ q => by
    have hm : m < its.length := by omega
    refine wpAny_nextOf_list_item h1 h2 (x := its[m]) (by simp [hm]) fun g h1' sb => ?_
    exact q _ g s.toks ⟨m, e, by simp [hm]⟩ ⟨m + 1, by omega, h1', h2.extBut sb.extBut hne⟩ sb
  done := fun s Q E ⟨m, e, h1, h2⟩ q => by
    have hm : m = its.length := by omega
    exact wpAny_nextOf_list_end hh h1 h2 (by simp [hm]) q
def Iten (K : PySem.W.Frag) (a : Addr) (st : Nat) : It :=
  ⟨fun i H => ∃ (xs : List V) (x : V), SqL K H a xs ∧ xs[i]? = some x, fun i H v H' => ∃ t x, v = .ref t ∧ H t = none ∧ H' = upd H t (.tup [.int ((st + i : Nat) : Int), x]) ∧ ∀ xs, SqL K H a xs → xs[i]? = some x, fun i H => ∃ xs : List V, SqL K H a xs ∧ xs.length = i⟩
theorem list_iter_ne {h : Heap} {a it b : Addr} {i : Nat} {its : Array Value} (h1 : h.IsList a its) (h2 : h.IsListIter it b i) : a ≠ it := fun z => by
  subst z
  obtain ⟨o, e, c, _⟩ := h1
  obtain ⟨o', e', c', _⟩ := h2
  rw [e] at e'
  cases e'
  rw [c] at c'
  exact absurd (Value.type.inj c') (by decide)
theorem list_enum_ne {h : Heap} {a e it : Addr} {i : Int} {old : Value} {its : Array Value} (h1 : h.IsList a its) (h2 : IsEnum h e it i old) : e ≠ a := fun z => by
  subst z
  obtain ⟨o, q, c, _⟩ := h1
  rw [h2] at q
  cases q
  exact absurd (Value.type.inj c) (by decide)
theorem turn_enumS {P : Program} {w : World} {K : PySem.W.Frag} {elts : List Expr} {kk : Nat} {tpos : Pos} (a e it : Addr) (st : Nat) :
    Turn P w K (.Tuple elts kk tpos) (Iten K a st) [e, it] e (fun i h => (∃ old, IsEnum h e it ((st + i : Nat) : Int) old) ∧ h.IsListIter it a i ∧ e ≠ it) where
  mem := by simp
  obj := fun i h tn b hb => by
    obtain ⟨⟨old, he⟩, ⟨o, ho, hc, hd⟩, _⟩ := tn
    have e' : b = e ∨ b = it := by simpa using hb
    rcases e' with z | z
    · rw [z]; exact ⟨_, he, fun v q => nomatch q⟩
    · rw [z]; exact ⟨o, ho, fun v q => by rw [hd] at q; cases q⟩
  keep := fun i h h' tn k => let ⟨⟨old, he⟩, hi, hne⟩ := tn; ⟨⟨old, k e (by simp) _ he⟩, hi.at fun o q => k it (by simp) o q, hne⟩
  item := by
    intro X hP hw hK hc i pins s σ H E I hf tn hg
    subst hP hw hK
    obtain ⟨⟨old, he⟩, hit, hne⟩ := tn
    obtain ⟨xs, x, hq, hx⟩ := hg
    obtain ⟨its, rv, p, hz⟩ := I.list hq
    obtain ⟨u, hu, ru⟩ := rv.get hx
    have hlt : i < its.length := (List.getElem?_eq_some_iff.mp hu).1
    have hel : e < s.heap.objs.size := Heap.lt_size he
    have hil : it < s.heap.objs.size := by obtain ⟨_, q, _⟩ := hit; exact Heap.lt_size q
    have na := list_iter_ne p.isList hit
    have ne2 := list_enum_ne p.isList he
    refine wpAny_pyNext_enum_itemD (drawsS (A := X.A.in1) (I.ok.hd hc) it a st its na) he ⟨i, rfl, hit, p.isList⟩ (by omega) hne (by simp [hne, ne2]) fun v g tk hP ho hst hT hsz hk => ?_
    obtain ⟨m, em, hm⟩ := hP
    have em' : m = i := by omega
    subst em'
    have ev : v = u := by
      rw [List.getElem?_toArray, hu] at hm
      exact (Option.some.inj hm).symm
    subst ev
    obtain ⟨m2, em2, hit', _⟩ := hst
    have em3 : m2 = m + 1 := by omega
    subst em3
    refine ⟨_, rfl, wpAny_letOwnedTupleGo_enum (s := { s with heap := g, toks := tk + 1 }) ho fun g2 he' sb => ?_⟩
    have hT2 : g2.get? s.heap.objs.size = some { cls := .type "tuple", data := .seq #[.int ((st + m : Nat) : Int) tk, v] } := (sb.2 _ (Nat.ne_of_gt hel)).trans hT
    have new : ObjOk X.prog X.w (upd H s.heap.objs.size (.tup [.int ((st + m : Nat) : Int), x])) g2 s.heap.objs.size (.tup [.int ((st + m : Nat) : Int), x]) :=
      ⟨by show 2 ≤ sizeLine; decide, [.int ((st + m : Nat) : Int) tk, v], .cons ⟨_, rfl⟩ (.cons ru .nil), ⟨_, hT2, rfl, _, rfl⟩⟩
    have I1 : Inv X pins σ (upd H s.heap.objs.size (.tup [.int ((st + m : Nat) : Int), x])) { s with heap := g2, toks := tk + 1 } :=
      I.turnedNew (ch := [e, it]) (fun b ob hb q => (sb.2 b (fun z => hb (by simp [z]))).trans (hk b ob (fun z => hb (by simp [z])) (fun z => hb (by simp [z])) q)) hf (Nat.le_refl _) new
    refine ⟨.ref s.heap.objs.size, _, I1, rfl, ⟨_, x, rfl, I.hok.fresh (Nat.le_refl _), rfl, fun ys hy => by rw [I.list_inj hy hq]; exact hx⟩, ⟨⟨v, ?_⟩, hit'.at fun o q => (sb.2 it (Ne.symm hne)).trans q, hne⟩, fun b hb => ?_⟩
    · have e1 : ((st + (m + 1) : Nat) : Int) = ((st + m : Nat) : Int) + 1 := by omega
      rw [e1]
      exact he'
    · have hb' : b < s.heap.objs.size := by
        have e' : b = e ∨ b = it := by simpa using hb
        rcases e' with z | z
        · rw [z]; exact hel
        · rw [z]; exact hil
      rw [upd_ne (Nat.ne_of_lt hb')]
      exact (hf b hb).1
  done := by
    intro X hP hw hK hc i pins s σ H E I hf tn hg
    subst hP hw hK
    obtain ⟨⟨old, he⟩, hit, hne⟩ := tn
    obtain ⟨xs, hq, hx⟩ := hg
    obtain ⟨its, rv, p, hz⟩ := I.list hq
    obtain ⟨f0, f1, f2, f3, f4, f5⟩ := hf it (by simp)
    have hl := rv.length
    have hi : i = its.length := by omega
    subst hi
    exact wpAny_pyNext_enum_endD (drawsS (A := X.A.in1) (I.ok.hd hc) it a st its (list_iter_ne p.isList hit)) he ⟨its.length, rfl, hit, p.isList⟩ fun g eb => ⟨rfl, I.turned (t' := s.toks) (fun b o hb q => eb b o hb q) f0 f1 f3 f4 f5⟩
  self := fun A i s Q E tn h => let ⟨⟨_, he⟩, _⟩ := tn; wpAny_pyIter_enum he h
def iEnumS (K : PySem.W.Frag) (te ts : TE) : TI := fun σ H R => te σ H fun x H1 => ts σ H1 fun y H2 => ∃ (a : Addr) (xs : List V) (st : Nat), x = .ref a ∧ y = .int (st : Nat) ∧ st < 4611686018427387904 ∧ SqL K H2 a xs ∧ R (Iten K a st) H2
theorem pi_enumS {X : Cx} {e e2 : Expr} {te ts : TE} {p pos kp tpos : Pos} {elts : List Expr} {kk : Nat} (hg : Gl X "enumerate") (hm : X.mg "enumerate" = none) (he : PE X e te) (he2 : PE X e2 ts) (hs : starEach [e] X.env = [(false, eval e X.env)] := by rfl) :
    PI X (.Tuple elts kk tpos) (.Call (.Name "enumerate" p) [e] [⟨some "start", e2, kp⟩] pos) (iEnumS X.K te ts) := by
  intro pins s σ H R I h
  refine wpAny_Call_Name_kw (ld_blt (u := .type "enumerate") I hg hm boot_enumerate ?_)
  refine ofCallWithTypeKw ?_ _ _ (by rw [hs]; rfl) (by rw [hs]; rfl) rfl rfl
  rw [hs]
  refine Calls.spliced_cons (thn (he pins s σ H _ I h) fun u s1 ⟨x, H1, I1, rx, q1⟩ => Calls.spliced_nil ?_)
  refine kws_cons (thn (he2 pins s1 σ H1 _ I1 q1) fun u2 s2 ⟨y, H2, I2, ry, a, xs, st, ex, ey, hst, hq, q⟩ => kws_nil ?_)
  subst ex ey
  obtain rfl : u = Value.ref a := rx
  obtain ⟨t, rfl⟩ := ry
  obtain ⟨its, rv, p', hz⟩ := I2.list hq
  have hv : Builtin.SmallTypes.fitsIndex ((st : Nat) : Int) = true := by
    unfold Builtin.SmallTypes.fitsIndex
    rw [Bool.and_eq_true, decide_eq_true_eq, decide_eq_true_eq]
    omega
  show wpAny _ _ (call (.type "enumerate") [.ref a] [(Str.ofString "start", .int ((st : Nat) : Int) t)]) _ _ _
  refine enS_make hv p'.isList fun g he' hit hk => wpAny_pyIter_enum he' ?_
  have I3 : Inv X pins σ H2 { s2 with heap := g } := I2.kept (t' := s2.toks) hk
  refine ⟨s2.heap.objs.size + 1, [s2.heap.objs.size + 1, s2.heap.objs.size], _, _, H2, rfl, I3, turn_enumS a (s2.heap.objs.size + 1) s2.heap.objs.size st, ⟨⟨.none, he'⟩, hit, Nat.succ_ne_self _⟩, fun b hb => ?_, q⟩
  have e' : b = s2.heap.objs.size + 1 ∨ b = s2.heap.objs.size := by simpa using hb
  have hle : s2.heap.objs.size ≤ b := by
    rcases e' with z | z
    · rw [z]; exact Nat.le_add_right _ _
    · rw [z]; exact Nat.le_refl _
  exact I2.fpOk hle (I2.hok.fresh hle)
/-! ### loops over what stays as it is -/
theorem for_enumS {K : PySem.W.Frag} {a : Addr} {st : Nat} {xs : List V} {g : TG} {tb : TS} {D : Ends} {σ : L2.St} {H : Hp} (Pv : Nat → L2.St → Hp → Prop) (h0 : Pv 0 σ H) (hl : ∀ i σ H, i ≤ xs.length → Pv i σ H → SqL K H a xs)
    (hs : ∀ i x t σ H, xs[i]? = some x → H t = none → Pv i σ H → g (.ref t) σ (upd H t (.tup [.int ((st + i : Nat) : Int), x])) fun σ2 H2 => tb { D with nx := Pv (i + 1), ct := Pv (i + 1), bk := D.nx } σ2 H2) (hd : ∀ σ H, Pv xs.length σ H → D.nx σ H) :
    ∃ W : Nat → Nat → L2.St → Hp → Prop, (∃ m, W 0 m σ H) ∧ ∀ i m σ H, W i m σ H →
      ((Iten K a st).stop i H ∧ D.nx σ H) ∨ ((Iten K a st).go i H ∧ ∃ N : L2.St → Hp → Prop, (∀ σ' H', N σ' H' → ∃ m', m' < m ∧ W (i + 1) m' σ' H') ∧ ∀ x H', (Iten K a st).yld i H x H' → g x σ H' fun σ2 H2 => tb { D with nx := N, ct := N, bk := D.nx } σ2 H2) := by
  refine ⟨fun i m σ H => m = xs.length - i ∧ i ≤ xs.length ∧ Pv i σ H, ⟨xs.length, by simp, Nat.zero_le _, h0⟩, ?_⟩
  rintro i m σ H ⟨rfl, hi, p⟩
  have q := hl i σ H hi p
  by_cases hlt : i < xs.length
  · refine .inr ⟨⟨xs, xs[i], q, by simp [hlt]⟩, Pv (i + 1), fun σ' H' p' => ⟨xs.length - (i + 1), by omega, rfl, hlt, p'⟩, fun x H' y => ?_⟩
    obtain ⟨t, x', ev, ht, e, y⟩ := y
    subst ev e
    exact hs i x' t σ _ (y xs q) ht p
  · have e : i = xs.length := by omega
    subst e
    exact .inl ⟨⟨xs, q, rfl⟩, hd σ H p⟩
theorem for_enum0 {K : PySem.W.Frag} {a : Addr} {xs : List V} {g : TG} {tb : TS} {D : Ends} {σ : L2.St} {H : Hp} (Pv : Nat → L2.St → Hp → Prop) (h0 : Pv 0 σ H) (hl : ∀ i σ H, i ≤ xs.length → Pv i σ H → SqL K H a xs)
    (hs : ∀ i x t σ H, xs[i]? = some x → H t = none → Pv i σ H → g (.ref t) σ (upd H t (.tup [.int ((i : Nat) : Int), x])) fun σ2 H2 => tb { D with nx := Pv (i + 1), ct := Pv (i + 1), bk := D.nx } σ2 H2) (hd : ∀ σ H, Pv xs.length σ H → D.nx σ H) :
    ∃ W : Nat → Nat → L2.St → Hp → Prop, (∃ m, W 0 m σ H) ∧ ∀ i m σ H, W i m σ H →
      ((Ite K a).stop i H ∧ D.nx σ H) ∨ ((Ite K a).go i H ∧ ∃ N : L2.St → Hp → Prop, (∀ σ' H', N σ' H' → ∃ m', m' < m ∧ W (i + 1) m' σ' H') ∧ ∀ x H', (Ite K a).yld i H x H' → g x σ H' fun σ2 H2 => tb { D with nx := N, ct := N, bk := D.nx } σ2 H2) := by
  refine ⟨fun i m σ H => m = xs.length - i ∧ i ≤ xs.length ∧ Pv i σ H, ⟨xs.length, by simp, Nat.zero_le _, h0⟩, ?_⟩
  rintro i m σ H ⟨rfl, hi, p⟩
  have q := hl i σ H hi p
  by_cases hlt : i < xs.length
  · refine .inr ⟨⟨xs, xs[i], q, by simp [hlt]⟩, Pv (i + 1), fun σ' H' p' => ⟨xs.length - (i + 1), by omega, rfl, hlt, p'⟩, fun x H' y => ?_⟩
    obtain ⟨t, x', ev, ht, e, y⟩ := y
    subst ev e
    exact hs i x' t σ _ (y xs q) ht p
  · have e : i = xs.length := by omega
    subst e
    exact .inl ⟨⟨xs, q, Nat.le_refl _⟩, hd σ H p⟩
theorem for_zip {K : PySem.W.Frag} {a b : Addr} {xs ys : List V} {n : Nat} {g : TG} {tb : TS} {D : Ends} {σ : L2.St} {H : Hp} (Pv : Nat → L2.St → Hp → Prop) (hn : n = min xs.length ys.length) (h0 : Pv 0 σ H) (hl : ∀ i σ H, i ≤ n → Pv i σ H → SqL K H a xs ∧ SqL K H b ys)
    (hs : ∀ i x y t σ H, xs[i]? = some x → ys[i]? = some y → H t = none → Pv i σ H → g (.ref t) σ (upd H t (.tup [x, y])) fun σ2 H2 => tb { D with nx := Pv (i + 1), ct := Pv (i + 1), bk := D.nx } σ2 H2) (hd : ∀ σ H, Pv n σ H → D.nx σ H) :
    ∃ W : Nat → Nat → L2.St → Hp → Prop, (∃ m, W 0 m σ H) ∧ ∀ i m σ H, W i m σ H →
      ((Itz K a b).stop i H ∧ D.nx σ H) ∨ ((Itz K a b).go i H ∧ ∃ N : L2.St → Hp → Prop, (∀ σ' H', N σ' H' → ∃ m', m' < m ∧ W (i + 1) m' σ' H') ∧ ∀ x H', (Itz K a b).yld i H x H' → g x σ H' fun σ2 H2 => tb { D with nx := N, ct := N, bk := D.nx } σ2 H2) := by
  refine ⟨fun i m σ H => m = n - i ∧ i ≤ n ∧ Pv i σ H, ⟨n, by simp, Nat.zero_le _, h0⟩, ?_⟩
  rintro i m σ H ⟨rfl, hi, p⟩
  obtain ⟨q, q2⟩ := hl i σ H hi p
  by_cases hlt : i < n
  · have l1 : i < xs.length := by omega
    have l2 : i < ys.length := by omega
    refine .inr ⟨⟨xs, ys, xs[i], ys[i], q, q2, by simp [l1], by simp [l2]⟩, Pv (i + 1), fun σ' H' p' => ⟨n - (i + 1), by omega, rfl, hlt, p'⟩, fun x H' y => ?_⟩
    obtain ⟨t, x', y', ev, ht, e, y1, y2⟩ := y
    subst ev e
    exact hs i x' y' t σ _ (y1 xs q) (y2 ys q2) ht p
  · have e : i = n := by omega
    subst e
    exact .inl ⟨⟨xs, ys, q, q2, by omega⟩, hd σ H p⟩
end Of
set_option Elab.async false
set_option linter.all false
set_option maxRecDepth 100000
set_option maxHeartbeats 2000000
namespace Of
open PySem PySem.Spec PyProof.Rows L2
section
variable {P : Program} {w : World} {K : PySem.W.Frag} {mg : Str → Option Value} {base : Heap} {a : Adr}
/-! ### blended -/
theorem part_int {o n k sh : Nat} (hk : k ≤ 256) : (((o : Int) / 2 ^ sh % 256 * (256 - (k : Int)) + (n : Int) / 2 ^ sh % 256 * k + 128) / 256) * 2 ^ sh = ((partB o n k sh : Nat) : Int) := by
  unfold partB
  rw [Int.natCast_mul, Int.natCast_ediv, Int.natCast_add, Int.natCast_add, Int.natCast_mul, Int.natCast_mul, Int.natCast_emod, Int.natCast_emod, Int.natCast_ediv, Int.natCast_ediv, Int.natCast_sub hk, Int.natCast_pow]
  rfl
def spBlend : Sp := fun vs H Q _ => ∃ o n k : Nat, vs = [.int o, .int n, .int k] ∧ k ≤ 256 ∧ Q (.int (Sw24.blend o n k)) H
theorem scBlend : FnScope ["old", "new", "n", "colour", "shift", "old_part", "new_part", "part"] ps_blended (defScope st_blended) := ⟨rfl, rfl, rfl, by decide +kernel, rfl, by decide +kernel, by decide +kernel⟩
def preF (f : Nat → Nat) (i : Nat) : Nat := (([0, 8, 16, 24].take i).map f).sum
theorem preF_s (f : Nat → Nat) : preF f 1 = preF f 0 + f 0 ∧ preF f 2 = preF f 1 + f 8 ∧ preF f 3 = preF f 2 + f 16 ∧ preF f 4 = preF f 3 + f 24 ∧ preF f 4 = f 0 + f 8 + f 16 + f 24 ∧ preF f 0 = 0 := by
  unfold preF
  simp
  omega
abbrev preB (o n k i : Nat) : Nat := preF (partB o n k) i
theorem ok_blend (T : Txt K mg a) : FnOk P w K mg base CX0 1 a.a_blended a.d_blended ps_blended spBlend := by
  refine T.f_blended.ok scBlend (fun vs H Q E h => ?_) (fun cdv A outer s H vs Q E hr h => ?_)
  · obtain ⟨o, n, k, rfl, _⟩ := h
    rfl
  · obtain ⟨o, n, k, rfl, hk, q⟩ := h
    refine ⟨_, pss_cons (ps_set (i := 3) scBlend.nd rfl (Or.inl rfl) pe_int)
      (pss_cons (ps_for PassesOwn.never rfl (pi_tup (pe_glob (v := V.ref a.t_PART_SHIFTS) rfl T.gt_PART_SHIFTS rfl)) (pg_name (i := 4) scBlend.nd rfl (Or.inl rfl))
        (pss_cons (ps_set (i := 5) scBlend.nd rfl (Or.inl rfl) (pe_op op_and (pe_op op_shr (pv 0) (pv 4)) pe_int))
        (pss_cons (ps_set (i := 6) scBlend.nd rfl (Or.inl rfl) (pe_op op_and (pe_op op_shr (pv 1) (pv 4)) pe_int))
        (pss_cons (ps_set (i := 7) scBlend.nd rfl (Or.inl rfl) (pe_op op_fdiv (pe_op op_add (pe_op op_add (pe_op op_mul (pv 5) (pe_op op_sub (pe_gint T.k_ALL_SAMPLES) (pv 2))) (pe_op op_mul (pv 6) (pv 2))) pe_int) (pe_gint T.k_ALL_SAMPLES)))
        (pss_one (ps_aug (i := 3) scBlend.nd rfl (Or.inl rfl) (pe_op op_shl (pv 7) (pv 4)) in_add))))))
      (pss_one (ps_ret (pv 3)))), ?_⟩
    refine ⟨a.t_PART_SHIFTS, rfl, ⟨_, T.t_PART_SHIFTS H⟩, ?_⟩
    refine for_tup (K := K) (xs := [.int 0, .int 8, .int 16, .int 24]) (fun i σ G => G = H ∧ ∃ v4 v5 v6 v7, σ = [some (.int o), some (.int n), some (.int k), some (.int ((preB o n k i : Nat) : Int)), v4, v5, v6, v7]) ⟨rfl, none, none, none, none, by rw [show preB o n k 0 = 0 from (preF_s _).2.2.2.2.2]; rfl⟩ (fun i σ G _ _ => T.t_PART_SHIFTS G) ?_ ?_
    · rintro i x σ G hx ⟨rfl, v4, v5, v6, v7, rfl⟩
      obtain ⟨sh, hsh, rfl, hpre⟩ : ∃ sh : Nat, sh ≤ 24 ∧ x = .int (sh : Nat) ∧ preB o n k (i + 1) = preB o n k i + partB o n k sh := by
        have hi : i < 4 := (List.getElem?_eq_some_iff.mp hx).1
        have e : i = 0 ∨ i = 1 ∨ i = 2 ∨ i = 3 := by omega
        rcases e with e | e | e | e <;> subst e
        · exact ⟨0, by decide, (Option.some.inj hx).symm, (preF_s _).1⟩
        · exact ⟨8, by decide, (Option.some.inj hx).symm, (preF_s _).2.1⟩
        · exact ⟨16, by decide, (Option.some.inj hx).symm, (preF_s _).2.2.1⟩
        · exact ⟨24, by decide, (Option.some.inj hx).symm, (preF_s _).2.2.2.1⟩
      refine ⟨_, rfl, _, rfl, _, _, rfl, rfl, Int.natCast_nonneg _, _, _, rfl, rfl, ?_⟩
      refine ⟨_, rfl, _, rfl, _, _, rfl, rfl, Int.natCast_nonneg _, _, _, rfl, rfl, ?_⟩
      have b1 : Builtin.bitAnd ((o : Int) / 2 ^ ((sh : Nat) : Int).toNat) 255 = (o : Int) / 2 ^ sh % 256 := by rw [bitAnd_m8, Int.toNat_natCast]
      have b2 : Builtin.bitAnd ((n : Int) / 2 ^ ((sh : Nat) : Int).toNat) 255 = (n : Int) / 2 ^ sh % 256 := by rw [bitAnd_m8, Int.toNat_natCast]
      have p0 : 0 ≤ (o : Int) / 2 ^ sh % 256 := Int.emod_nonneg _ (by decide)
      have p1 : (o : Int) / 2 ^ sh % 256 < 256 := Int.emod_lt_of_pos _ (by decide)
      have q0 : 0 ≤ (n : Int) / 2 ^ sh % 256 := Int.emod_nonneg _ (by decide)
      have q1 : (n : Int) / 2 ^ sh % 256 < 256 := Int.emod_lt_of_pos _ (by decide)
      have hp := part_int (o := o) (n := n) (sh := sh) hk
      have hle := part_le o n k sh hk
      have hfin : ((preB o n k i : Nat) : Int) + ((Builtin.bitAnd ((o : Int) / 2 ^ ((sh : Nat) : Int).toNat) 255 * (256 - (k : Int)) + Builtin.bitAnd ((n : Int) / 2 ^ ((sh : Nat) : Int).toNat) 255 * (k : Int) + 128) / 256) * 2 ^ ((sh : Nat) : Int).toNat = ((preB o n k (i + 1) : Nat) : Int) := by
        rw [b1, b2, Int.toNat_natCast, hp, hpre, Int.natCast_add]
      have c1 : -(2 ^ 64) < Builtin.bitAnd ((o : Int) / 2 ^ ((sh : Nat) : Int).toNat) 255 ∧ Builtin.bitAnd ((o : Int) / 2 ^ ((sh : Nat) : Int).toNat) 255 < 2 ^ 64 := by rw [b1]; omega
      have c2 : -(2 ^ 64) < Builtin.bitAnd ((n : Int) / 2 ^ ((sh : Nat) : Int).toNat) 255 ∧ Builtin.bitAnd ((n : Int) / 2 ^ ((sh : Nat) : Int).toNat) 255 < 2 ^ 64 := by rw [b2]; omega
      have c3 : ((Builtin.bitAnd ((o : Int) / 2 ^ ((sh : Nat) : Int).toNat) 255 * (256 - (k : Int)) + Builtin.bitAnd ((n : Int) / 2 ^ ((sh : Nat) : Int).toNat) 255 * (k : Int) + 128) / 256).natAbs < 2 ^ 64 := by
        rw [b1, b2]
        generalize (o : Int) / 2 ^ sh % 256 = po at *
        generalize (n : Int) / 2 ^ sh % 256 = pn at *
        have m1 : po * (256 - (k : Int)) ≤ 255 * 256 := Int.mul_le_mul (by omega) (by omega) (by omega) (by decide)
        have m2 : pn * (k : Int) ≤ 255 * 256 := Int.mul_le_mul (by omega) (by omega) (by omega) (by decide)
        have m3 : 0 ≤ po * (256 - (k : Int)) := Int.mul_nonneg p0 (by omega)
        have m4 : 0 ≤ pn * (k : Int) := Int.mul_nonneg q0 (by omega)
        generalize po * (256 - (k : Int)) = u1 at *
        generalize pn * (k : Int) = u2 at *
        omega
      refine ⟨_, rfl, _, rfl, _, _, rfl, rfl, _, _, rfl, rfl, .inl c1, _, rfl, _, rfl, _, _, rfl, rfl, .inl c2, _, _, rfl, rfl, _, _, rfl, rfl, _, _, rfl, rfl, ⟨by decide, by decide⟩, ?_⟩
      refine ⟨_, rfl, _, rfl, _, rfl, _, _, rfl, rfl, ⟨Int.natCast_nonneg _, by omega, c3⟩, _, _, rfl, rfl, ?_⟩
      refine ⟨rfl, ?_⟩
      rw [← hfin]
      exact ⟨_, _, _, _, rfl⟩
    · rintro σ G ⟨rfl, v4, v5, v6, v7, rfl⟩
      have e : preB o n k 4 = Sw24.blend o n k := by
        rw [blend_parts]
        exact (preF_s _).2.2.2.2.1
      rw [← e] at q
      exact ⟨_, rfl, q⟩
end
end Of
set_option Elab.async false
set_option linter.all false
set_option maxRecDepth 100000
set_option maxHeartbeats 2000000
namespace Of
open PySem PySem.Spec PyProof.Rows L2
theorem cells_rep (n k : Nat) : (List.replicate n [V.int (k : Int)]).flatten = cells (List.replicate n k) := by
  unfold cells
  rw [List.flatten_replicate_singleton, List.map_replicate]
theorem cells_get {ns : List Nat} {i : Nat} {x : V} (h : (cells ns)[i]? = some x) : ∃ n, ns[i]? = some n ∧ x = V.int (n : Int) := by
  unfold cells at h
  rw [List.getElem?_map] at h
  cases e : ns[i]? with
  | none => rw [e] at h; exact nomatch h
  | some z => rw [e] at h; exact ⟨z, rfl, (Option.some.inj h).symm⟩
section
variable {P : Program} {w : World} {K : PySem.W.Frag} {mg : Str → Option Value} {base : Heap} {a : Adr}
/-! ### blended_run -/
def spBRun : Sp := fun vs H Q _ => ∃ (c : Addr) (ns : List Nat) (n k : Nat), vs = [.ref c, .int n, .int k] ∧ H c = some (.lst (cells ns)) ∧ ns.length ≤ 512 ∧ n < 4294967296 ∧ k ≤ 256 ∧
  ∀ (H' : Hp) (l : Addr), H l = none → Same H H' → H' l = some (.lst (cells (ns.map fun o => Sw24.blend o n k))) → Q (.ref l) H'
theorem scBRun : FnScope ["colours", "new", "n", "old"] ps_blended_run (defScope st_blended_run) := ⟨rfl, rfl, rfl, by decide +kernel, rfl, by decide +kernel, by decide +kernel⟩
theorem ok_brun (T : Txt K mg a) : FnOk P w K mg base CX0 2 a.a_blended_run a.d_blended_run ps_blended_run spBRun := by
  have GB := ok_blend (P := P) (w := w) (base := base) T
  refine T.f_blended_run.ok scBRun (fun vs H Q E h => ?_) (fun cdv A outer s H vs Q E hr h => ?_)
  · obtain ⟨c, ns, n, k, rfl, _⟩ := h
    rfl
  · obtain ⟨c, ns, n, k, rfl, hc, h512, hn, hk, q⟩ := h
    refine ⟨_, pss_cons (ps_if (pt_cmpR op_eq (pv 2) (pe_gint T.k_ALL_SAMPLES) (nomark _)) (pss_one (ps_ret (pe_op op_rep (pe_lst (pa_cons (pv 1) pa_nil)) (pe_callB call_len_seq (by rfl) T.z_len PySem.boot_len (pa_cons (pv 0) pa_nil))))) pss_nil)
      (pss_one (ps_ret (pe_lc (own := [("old", 3)]) rfl scBRun.nd (pi_list (pv 0)) (blkOk_by (by change blkC ["colours", "new", "n", "old"] (defScope st_blended_run) _ _ = true; decide +kernel)) (fun _ _ _ _ _ => pg_name (i := 3) scBRun.nd rfl (Or.inl rfl)) (fun _ _ _ _ _ => pts_nil)
        (fun _ _ _ _ _ => pe_call GB hr rfl T.g_blended T.f_blended.kp T.b_blended .nil pass0 (pa_cons (pv 3) (pa_cons (pv 1) (pa_cons (pv 2) pa_nil))))))), ?_⟩
    refine ⟨_, rfl, rfl, _, rfl, ?_⟩
    refine ite2 (fun e => ?_) (fun e => ?_)
    · have hk2 : k = 256 := by
        have e' := of_decide_eq_true e
        have e2 : ((k : Nat) : Int) = 256 := V.int.inj e'
        omega
      subst hk2
      refine ⟨_, rfl, by show 1 ≤ sizeLine; decide, fun u hu => ?_⟩
      have ncu : c ≠ u := ne_of_none hc hu
      refine ⟨_, rfl, c, _, rfl, .inl (SqL.of (by rw [upd_ne ncu]; exact hc)), u, _, _, rfl, rfl, upd_same, by omega, ?_, ?_, fun v hv => ?_⟩
      · rw [List.length_map]
        omega
      · show 1 * _ ≤ sizeLine
        rw [List.length_map]
        exact Nat.le_trans (show 1 * ((ns.length : Int)).toNat ≤ 512 by omega) (by decide)
      · have hv' : H v = none := (same_new hu).free hv
        refine q _ v hv' ((same_new hu).trans (same_new hv)) ?_
        rw [upd_same, List.length_map, Int.toNat_natCast, cells_rep]
        congr 3
        refine List.ext_getElem? fun i => ?_
        rw [List.getElem?_map, List.getElem?_replicate]
        by_cases hi : i < ns.length
        · rw [if_pos hi, List.getElem?_eq_getElem hi, Option.map_some, blend_256 hn]
        · rw [if_neg hi, List.getElem?_eq_none (by omega)]
          rfl
    · refine ⟨_, rfl, c, rfl, ⟨_, SqL.of hc⟩, fun D hD => ?_⟩
      refine lc_list (K := K) (xs := cells ns) (fun i G => Same H G ∧ G D = some (.lst (cells ((ns.take i).map fun o => Sw24.blend o n k)))) ⟨same_new hD, upd_same⟩ (fun i G _ ⟨sm, _⟩ => SqL.of (sm _ _ hc)) (fun i x G hx ⟨sm, hd⟩ => ?_) (fun G ⟨sm, hd⟩ => ?_)
      · refine ⟨rfl, ?_⟩
        unfold tYes
        refine iteT ?_
        obtain ⟨o, ho, rfl⟩ := cells_get hx
        refine ⟨_, rfl, _, rfl, _, rfl, o, n, k, rfl, hk, ?_⟩
        have hlt := (List.getElem?_eq_some_iff.mp ho).1
        refine ⟨_, hd, ?_, fun b ob e => ?_, ?_⟩
        · rw [List.length_map, List.length_map, List.length_take]
          exact Nat.lt_of_le_of_lt (show min i ns.length ≤ 512 by omega) (by decide)
        · rw [upd_ne (ne_of_none e hD)]
          exact sm _ _ e
        · rw [upd_same, List.take_add_one, ho]
          simp
      · rw [List.length_map, List.take_length] at hd
        exact q G D hD sm hd
/-! ### blended_row -/
def RunAt (H : Hp) (t : Addr) (r : Int × Int × Int) : Prop := H t = some (.tup [.int r.1, .int r.2.1, .int r.2.2])
def spBRow (K : PySem.W.Frag) : Sp := fun vs H Q _ => ∃ (c l : Addr) (ns : List Nat) (ts : List Addr) (rs : List (Int × Int × Int)) (n : Nat) (N : Nat → Nat), vs = [.ref c, .ref l, .int n] ∧ H c = some (.lst (cells ns)) ∧ ns.length ≤ 512 ∧ (∀ o ∈ ns, o < 4294967296) ∧ n < 4294967296 ∧ (∀ x, N x ≤ 256) ∧
  H l = some (.lst (ts.map V.ref)) ∧ Paired (RunAt H) ts rs ∧ RunsOf (fun x => ((N x.toNat : Nat) : Int)) ns.length 0 rs ∧
  ∀ (H' : Hp) (p : Addr), H p = none → Same H H' → H' p = some (.lst (cells (mapRow (fun o x => Sw24.blend o n (N x)) ns))) → Q (.ref p) H'
theorem scBRow : FnScope ["row", "runs", "new", "colours", "start", "end", "n"] ps_blended_row (defScope st_blended_row) := ⟨rfl, rfl, rfl, by decide +kernel, rfl, by decide +kernel, by decide +kernel⟩
theorem cells_cut {ns : List Nat} {i j : Nat} (h : i ≤ j) (h2 : j ≤ ns.length) : cutV (cells ns) (some (i : Int)) (some (j : Int)) = cells ((ns.drop i).take (j - i)) := by
  rw [cut_mid h (by rw [List.length_map]; exact h2)]
  unfold cells
  rw [← List.map_drop, ← List.map_take]
theorem cells_app (u v : List Nat) : cells u ++ cells v = cells (u ++ v) := by
  unfold cells
  rw [List.map_append]
theorem ok_brow (T : Txt K mg a) : FnOk P w K mg base CX0 3 a.a_blended_row a.d_blended_row ps_blended_row (spBRow K) := by
  have GR := ok_brun (P := P) (w := w) (base := base) T
  refine T.f_blended_row.ok scBRow (fun vs H Q E h => ?_) (fun cdv A outer s H vs Q E hr h => ?_)
  · obtain ⟨c, l, ns, ts, rs, n, N, rfl, _⟩ := h
    rfl
  · obtain ⟨c, l, ns, ts, rs, n, N, rfl, hc, h512, hsm, hn, hN, hl, hts, hrs, q⟩ := h
    refine ⟨_, pss_cons (ps_set (i := 3) scBRow.nd rfl (Or.inl rfl) (pe_lst pa_nil))
      (pss_cons (ps_for PassesOwn.never rfl (pi_list (pv 1)) (pg_tup rfl (pgs_cons (pg_name (i := 4) scBRow.nd rfl (Or.inl rfl)) (pgs_cons (pg_name (i := 5) scBRow.nd rfl (Or.inl rfl)) (pgs_cons (pg_name (i := 6) scBRow.nd rfl (Or.inl rfl)) pgs_nil))))
        (pss_cons (ps_expr (pe_bm PySem.F.plainAttrs_list PySem.F.slot_list_extend PySem.F.type_list_extend mt_extend (pv 3) (pa_cons (pe_slice sl_list (pv 0) (po_some (pe_callB call_len_seq (by rfl) T.z_len PySem.boot_len (pa_cons (pv 3) pa_nil))) (po_some (pv 4))) pa_nil)))
        (pss_one (ps_expr (pe_bm PySem.F.plainAttrs_list PySem.F.slot_list_extend PySem.F.type_list_extend mt_extend (pv 3) (pa_cons (pe_call GR hr rfl T.g_blended_run T.f_blended_run.kp T.b_blended_run .nil pass0 (pa_cons (pe_slice sl_list (pv 0) (po_some (pv 4)) (po_some (pv 5))) (pa_cons (pv 2) (pa_cons (pv 6) pa_nil)))) pa_nil))))))
      (pss_cons (ps_expr (pe_bm PySem.F.plainAttrs_list PySem.F.slot_list_extend PySem.F.type_list_extend mt_extend (pv 3) (pa_cons (pe_slice sl_list (pv 0) (po_some (pe_callB call_len_seq (by rfl) T.z_len PySem.boot_len (pa_cons (pv 3) pa_nil))) po_none) pa_nil)))
      (pss_one (ps_ret (pv 3))))), ?_⟩
    refine ⟨Nat.zero_le _, fun p hp => ?_⟩
    have hTl : (mapRow (fun o x => Sw24.blend o n (N x)) ns).length = ns.length := mapRow_len _ _
    have seg : ∀ {lo hi k : Nat}, (∀ x : Nat, lo ≤ x → x < hi → N x = k) → ((mapRow (fun o x => Sw24.blend o n (N x)) ns).drop lo).take (hi - lo) = ((ns.drop lo).take (hi - lo)).map fun o => Sw24.blend o n k := fun h => mapRow_seg fun x o h1 h2 _ => by rw [h x h1 h2]
    have seg0 : ∀ {lo hi : Nat}, (∀ x : Nat, lo ≤ x → x < hi → N x = 0) → ((mapRow (fun o x => Sw24.blend o n (N x)) ns).drop lo).take (hi - lo) = (ns.drop lo).take (hi - lo) := fun h => by
      rw [mapRow_seg (g := id) fun x o h1 h2 e => by rw [h x h1 h2]; exact blend_0 (hsm o (List.mem_of_getElem? e))]
      exact List.map_id _
    generalize hT : mapRow (fun o x => Sw24.blend o n (N x)) ns = T' at *
    refine ⟨_, rfl, l, rfl, ⟨_, SqL.of (same_new hp _ _ hl)⟩, ?_⟩
    refine for_list (K := K) (xs := ts.map V.ref) (fun i σ G => ∃ (v4 v5 v6 : Option V) (lo : Nat), σ = [some (.ref c), some (.ref l), some (.int n), some (.ref p), v4, v5, v6] ∧ Same H G ∧ G p = some (.lst (cells (T'.take lo))) ∧ lo ≤ ns.length ∧ RunsOf (fun x => ((N x.toNat : Nat) : Int)) ns.length lo (rs.drop i)) ⟨none, none, none, 0, rfl, same_new hp, upd_same, Nat.zero_le _, by rw [List.drop_zero]; exact hrs⟩ (fun i σ G _ h => by obtain ⟨_, _, _, _, _, sm, _⟩ := h; exact SqL.of (sm _ _ hl)) ?_ ?_
    · rintro i x σ G hx ⟨v4, v5, v6, lo, rfl, sm, hG, hlo, hR⟩
      rw [List.getElem?_map] at hx
      cases ht : ts[i]? with
      | none => rw [ht] at hx; cases hx
      | some t =>
        rw [ht] at hx
        have ex : V.ref t = x := Option.some.inj hx
        subst ex
        obtain ⟨r, hr2, hRt⟩ := paired_getL hts ht
        obtain ⟨st, en, k⟩ := r
        have hdr : rs.drop i = (st, en, k) :: rs.drop (i + 1) := by
          have hlt := (List.getElem?_eq_some_iff.mp hr2).1
          rw [List.getElem?_eq_getElem hlt] at hr2
          rw [List.drop_eq_getElem_cons hlt, Option.some.inj hr2]
        rw [hdr] at hR
        cases hR with
        | cons g1 g2 g3 g4 g5 g6 g7 =>
          obtain ⟨st, rfl⟩ : ∃ m : Nat, st = m := ⟨st.toNat, by omega⟩
          obtain ⟨en, rfl⟩ : ∃ m : Nat, en = m := ⟨en.toNat, by omega⟩
          have hk0 : ∀ x : Nat, st ≤ x → x < en → ((N x : Nat) : Int) = k := fun x h1 h2 => by
            have z := g6 (x : Int) (by omega) (by omega)
            simpa using z
          obtain ⟨k, rfl⟩ : ∃ m : Nat, k = m := ⟨k.toNat, by omega⟩
          have hkN : ∀ x : Nat, st ≤ x → x < en → N x = k := fun x h1 h2 => by
            have := hk0 x h1 h2
            omega
          have h0N : ∀ x : Nat, lo ≤ x → x < st → N x = 0 := fun x h1 h2 => by
            have z := g5 (x : Int) (by omega) (by omega)
            have z' : ((N x : Nat) : Int) = 0 := by simpa using z
            omega
          have hk256 : k ≤ 256 := by
            have := hkN st (Nat.le_refl _) (by omega)
            rw [← this]
            exact hN st
          have tG := sm _ _ hRt
          refine ⟨t, _, rfl, SqT.of tG, rfl, _, _, rfl, _, _, rfl, _, _, rfl, rfl, ?_⟩
          have lT : (cells (T'.take lo)).length = lo := by
            rw [List.length_map, List.length_take, hTl]
            omega
          refine ⟨_, rfl, .inl ⟨rfl, _, SqL.of hG⟩, _, rfl, _, rfl, p, _, rfl, .inl (SqL.of hG), _, rfl, _, rfl, _, rfl, c, _, rfl, SqL.of (sm _ _ hc), fun u hu => ?_⟩
          rw [lT, cells_cut (by omega) (by omega)]
          have npu : p ≠ u := ne_of_none hG hu
          refine ⟨p, u, _, _, rfl, rfl, by rw [upd_ne npu]; exact hG, upd_same, ?_, ?_⟩
          · rw [lT, List.length_map, List.length_take, List.length_drop]
            exact Nat.le_trans (show lo + min (st - lo) (ns.length - lo) ≤ 512 by omega) (by decide)
          · rw [cells_app, ← seg0 h0N, take_drop_take _ (by omega)]
            generalize hG1 : upd (upd G u _) p (.lst (cells (T'.take st))) = G1
            have sm1 : Same H G1 := fun b ob e => by
              rw [← hG1, upd_ne (ne_of_none e hp), upd_ne (ne_of_none (sm _ _ e) hu)]
              exact sm _ _ e
            have hG1p : G1 p = some (.lst (cells (T'.take st))) := by rw [← hG1, upd_same]
            refine ⟨_, rfl, .inl ⟨rfl, _, SqL.of hG1p⟩, _, rfl, _, rfl, _, rfl, _, rfl, _, rfl, c, _, rfl, SqL.of (sm1 _ _ hc), fun u2 hu2 => ?_⟩
            rw [cells_cut (by omega) (by omega)]
            refine ⟨_, rfl, _, rfl, u2, _, n, k, rfl, upd_same, ?_, hn, hk256, fun G3 v hv sm3 hG3 => ?_⟩
            · rw [List.length_take]
              omega
            · have sm13 : Same G1 G3 := (same_new hu2).trans sm3
              have npv : p ≠ v := ne_of_none (same_new hu2 _ _ hG1p) hv
              refine ⟨p, v, _, _, rfl, rfl, sm13 _ _ hG1p, hG3, ?_, ?_⟩
              · rw [List.length_map, List.length_map, List.length_map, List.length_take, List.length_take, List.length_drop, hTl]
                exact Nat.le_trans (show min st ns.length + min (en - st) (ns.length - st) ≤ 1024 by omega) (by decide)
              · rw [← seg hkN, cells_app, take_drop_take _ (by omega)]
                refine ⟨_, _, _, en, rfl, fun b ob e => ?_, upd_same, by omega, g7⟩
                rw [upd_ne (ne_of_none e hp)]
                exact sm13 _ _ (sm1 _ _ e)
    · rintro σ G ⟨v4, v5, v6, lo, rfl, sm, hG, hlo, hR⟩
      rw [List.length_map, paired_len hts, List.drop_length] at hR
      have h0N : ∀ x : Nat, lo ≤ x → x < ns.length → N x = 0 := fun x h1 h2 => by
        cases hR with
        | nil z =>
          have z := z (x : Int) (by omega) (by omega)
          have z' : ((N x : Nat) : Int) = 0 := by simpa using z
          omega
      have lT : (cells (T'.take lo)).length = lo := by
        rw [List.length_map, List.length_take, hTl]
        omega
      refine ⟨_, rfl, .inl ⟨rfl, _, SqL.of hG⟩, _, rfl, _, rfl, p, _, rfl, .inl (SqL.of hG), _, rfl, c, _, rfl, SqL.of (sm _ _ hc), fun u hu => ?_⟩
      rw [lT, cut_drop (by rw [List.length_map]; omega)]
      have npu : p ≠ u := ne_of_none hG hu
      have ed : (cells ns).drop lo = cells (T'.drop lo) := by
        have z := seg0 h0N
        rw [List.take_of_length_le (by rw [List.length_drop]; omega), List.take_of_length_le (by rw [List.length_drop]; omega)] at z
        rw [z]
        unfold cells
        rw [List.map_drop]
      rw [ed]
      refine ⟨p, u, _, _, rfl, rfl, by rw [upd_ne npu]; exact hG, upd_same, ?_, ?_⟩
      · rw [lT, List.length_map, List.length_drop]
        exact Nat.le_trans (show lo + (T'.length - lo) ≤ 512 by omega) (by decide)
      · rw [cells_app, List.take_append_drop]
        refine ⟨_, rfl, q _ p hp (fun b ob e => ?_) upd_same⟩
        rw [upd_ne (ne_of_none e hp), upd_ne (ne_of_none (sm _ _ e) hu)]
        exact sm _ _ e
end
end Of
set_option Elab.async false
set_option linter.all false
set_option maxRecDepth 100000
set_option maxHeartbeats 2000000
namespace Of
open PySem PySem.Spec PyProof.Rows L2
theorem paired_drop {α β : Type} {F : α → β → Prop} : ∀ {l : List α} {m : List β} (i : Nat), Paired F l m → Paired F (l.drop i) (m.drop i)
  | _, _, 0, h => h
  | _, _, _ + 1, .nil => .nil
  | _, _, i + 1, .cons _ t => paired_drop i t
theorem paired_take {α β : Type} {F : α → β → Prop} : ∀ {l : List α} {m : List β} (i : Nat), Paired F l m → Paired F (l.take i) (m.take i)
  | _, _, 0, _ => by rw [List.take_zero, List.take_zero]; exact .nil
  | _, _, _ + 1, .nil => .nil
  | _, _, i + 1, .cons r t => .cons r (paired_take i t)
theorem mem_le_sum : ∀ {l : List Nat} {x : Nat}, x ∈ l → x ≤ l.sum
  | [], _, h => by simp at h
  | a :: r, x, h => by
    rw [List.sum_cons]
    rcases List.mem_cons.mp h with e | e
    · omega
    · have := mem_le_sum e
      omega
def LnAt (H : Hp) (t : Addr) (c : Sw24.P × Sw24.P) : Prop := ∃ tp tg : Addr, H t = some (.tup [.ref tp, .ref tg]) ∧ PtAt H tp c.1 ∧ PtAt H tg c.2
theorem LnAt.same {H H' : Hp} {t : Addr} {c : Sw24.P × Sw24.P} (s : Same H H') (h : LnAt H t c) : LnAt H' t c := by
  obtain ⟨tp, tg, h1, h2, h3⟩ := h
  exact ⟨tp, tg, s _ _ h1, s _ _ h2, s _ _ h3⟩
theorem lines_pair {H : Hp} : ∀ {ts ts' us : List Addr} {g g' : List Sw24.P}, Paired (PtAt H) ts g → Paired (PtAt H) ts' g' → Paired (fun t (p : V × V) => H t = some (.tup [p.1, p.2])) us ((ts.map V.ref).zip (ts'.map V.ref)) → Paired (LnAt H) us (g.zip g')
  | _, _, _, _, _, .nil, _, h => by
    rw [List.map_nil, List.zip_nil_left] at h
    cases h
    exact .nil
  | _, _, _, _, _, .cons r t, .nil, h => by
    rw [List.map_nil, List.zip_nil_right] at h
    cases h
    exact .nil
  | _, _, _, _, _, .cons r t, .cons r' t', h => by
    rw [List.map_cons, List.map_cons, List.zip_cons_cons] at h
    cases h with
    | cons e h' => exact .cons ⟨_, _, e, r, r'⟩ (lines_pair t t' h')
section
variable {P : Program} {w : World} {K : PySem.W.Frag} {mg : Str → Option Value} {base : Heap} {a : Adr}
theorem OutAt.atR {H : Hp} {own : Lab} {o l : Addr} {rs : List Addr} {ol : Sw24.Outline} {i : Nat} {x : V} (h : OutAt a H own o l rs ol) (hx : (rs.map V.ref)[i]? = some x) : ∃ (r : Addr) (g : List Sw24.P) (ts : List Addr), x = .ref r ∧ ol[i]? = some g ∧ H r = some (.lst (ts.map V.ref)) ∧ PtsAt H ts g ∧ g.length ≤ 4096 := by
  rw [List.getElem?_map] at hx
  cases e : rs[i]? with
  | none => rw [e] at hx; cases hx
  | some r =>
    rw [e] at hx
    have hi : i < ol.length := by
      rw [← h.len]
      exact (List.getElem?_eq_some_iff.mp e).1
    obtain ⟨g, hg⟩ : ∃ g, ol[i]? = some g := ⟨_, List.getElem?_eq_getElem hi⟩
    obtain ⟨_, _, ts, q1, q2⟩ := h.ring i r g e hg
    refine ⟨r, g, ts, (Option.some.inj hx).symm, hg, q1, q2, ?_⟩
    have z : g.length ≤ Sw24.points ol := by
      unfold Sw24.points
      exact mem_le_sum (List.mem_map.mpr ⟨g, List.mem_of_getElem? hg, rfl⟩)
    exact Nat.le_trans z h.few
/-! ### Outline.points -/
def spPts (a : Adr) : Sp := fun vs H Q _ => ∃ (o l : Addr) (own : Lab) (rs : List Addr) (ol : Sw24.Outline), vs = [.ref o] ∧ OutAt a H own o l rs ol ∧
  ∀ (H' : Hp) (p : Addr) (ts : List Addr), H p = none → Same H H' → H' p = some (.lst (ts.map V.ref)) → PtsAt H' ts ol.flatten → Q (.ref p) H'
theorem scPts : FnScope ["self", "points", "ring"] ps_Outline_points (defScope st_Outline_points) := ⟨rfl, rfl, rfl, by decide +kernel, rfl, by decide +kernel, by decide +kernel⟩
theorem take_flat_len {ol : Sw24.Outline} {i : Nat} : (ol.take i).flatten.length ≤ Sw24.points ol := by
  have e : ol.flatten.length = (ol.take i).flatten.length + (ol.drop i).flatten.length := by
    rw [← List.length_append, ← List.flatten_append, List.take_append_drop]
  rw [← flat_len ol]
  omega
theorem ok_pts (T : Txt K mg a) : FnOk P w K mg base CX0 1 a.a_Outline_points a.d_Outline_points ps_Outline_points (spPts a) := by
  refine T.f_Outline_points.ok scPts (fun vs H Q E h => ?_) (fun cdv A outer s H vs Q E hr h => ?_)
  · obtain ⟨o, l, own, rs, ol, rfl, _⟩ := h
    rfl
  · obtain ⟨o, l, own, rs, ol, rfl, ho, q⟩ := h
    refine ⟨_, pss_cons (ps_set (i := 1) scPts.nd rfl (Or.inl rfl) (pe_lst pa_nil))
      (pss_cons (ps_for PassesOwn.never rfl (pi_list (pe_fld (pv 0) rfl)) (pg_name (i := 2) scPts.nd rfl (Or.inl rfl))
        (pss_one (ps_expr (pe_bm PySem.F.plainAttrs_list PySem.F.slot_list_extend PySem.F.type_list_extend mt_extend (pv 1) (pa_cons (pv 2) pa_nil)))))
      (pss_one (ps_ret (pv 1)))), ?_⟩
    refine ⟨Nat.zero_le _, fun p hp => ?_⟩
    obtain ⟨dx, hi⟩ := ho.ins
    have s0 : Same H (upd H p (.lst [])) := same_new hp
    refine ⟨_, rfl, o, _, dx, _, _, rfl, s0 _ _ hi, T.cl_Outline, T.n_Outline_rings, outF_rings, l, rfl, ⟨_, SqL.of (s0 _ _ ho.lst)⟩, ?_⟩
    refine for_list (K := K) (xs := rs.map V.ref) (fun i σ G => ∃ (v2 : Option V) (ts : List Addr), σ = [some (.ref o), some (.ref p), v2] ∧ Same H G ∧ G p = some (.lst (ts.map V.ref)) ∧ PtsAt G ts (ol.take i).flatten) ⟨none, [], rfl, s0, upd_same, by rw [List.take_zero]; exact .nil⟩ (fun i σ G _ h => by obtain ⟨_, _, _, sm, _⟩ := h; exact SqL.of (sm _ _ ho.lst)) ?_ ?_
    · rintro i x σ G hx ⟨v2, ts, rfl, sm, hG, hts⟩
      obtain ⟨r, g, us, rfl, hg, q1, q2, q3⟩ := ho.atR hx
      have l1 := paired_len hts
      have l2 := paired_len q2
      have l3 := take_flat_len (ol := ol) (i := i)
      have few := ho.few
      refine ⟨_, rfl, .inl ⟨rfl, _, SqL.of hG⟩, _, rfl, p, r, _, _, rfl, rfl, hG, sm _ _ q1, ?_, _, ts ++ us, rfl, fun b ob e => ?_, by rw [upd_same, List.map_append], ?_⟩
      · rw [List.length_map, List.length_map]
        exact Nat.le_trans (show ts.length + us.length ≤ 8192 by omega) (by decide)
      · rw [upd_ne (ne_of_none e hp)]
        exact sm _ _ e
      · have st : ∀ t xs, G t = some (.tup xs) → upd G p (.lst (ts.map V.ref ++ us.map V.ref)) t = some (.tup xs) := fun t xs e => by
          rw [upd_ne (ne_of e hG (by intro z; cases z))]
          exact e
        rw [List.take_add_one, hg]
        simp only [Option.toList_some, List.flatten_append, List.flatten_cons, List.flatten_nil, List.append_nil]
        exact paired_app (hts.same st) ((PtsAt.same (fun t xs e => sm _ _ e) q2).same st)
    · rintro σ G ⟨v2, ts, rfl, sm, hG, hts⟩
      rw [List.length_map, ho.len, List.take_length] at hts
      exact ⟨_, rfl, q G p ts hp sm hG hts⟩
/-! ### Outline.lines -/
def spLns (a : Adr) : Sp := fun vs H Q _ => ∃ (o l : Addr) (own : Lab) (rs : List Addr) (ol : Sw24.Outline), vs = [.ref o] ∧ OutAt a H own o l rs ol ∧
  ∀ (H' : Hp) (p : Addr) (ts : List Addr), H p = none → Same H H' → H' p = some (.lst (ts.map V.ref)) → Paired (LnAt H') ts (ol.flatMap Sw24.steps) → Q (.ref p) H'
theorem scLns : FnScope ["self", "lines", "ring"] ps_Outline_lines (defScope st_Outline_lines) := ⟨rfl, rfl, rfl, by decide +kernel, rfl, by decide +kernel, by decide +kernel⟩
theorem take_lines_len {ol : Sw24.Outline} {i : Nat} : ((ol.take i).flatMap Sw24.steps).length ≤ Sw24.points ol := by
  rw [lines_len]
  have e := take_flat_len (ol := ol) (i := i)
  rw [flat_len] at e
  exact e
theorem ok_lns (T : Txt K mg a) : FnOk P w K mg base CX0 1 a.a_Outline_lines a.d_Outline_lines ps_Outline_lines (spLns a) := by
  refine T.f_Outline_lines.ok scLns (fun vs H Q E h => ?_) (fun cdv A outer s H vs Q E hr h => ?_)
  · obtain ⟨o, l, own, rs, ol, rfl, _⟩ := h
    rfl
  · obtain ⟨o, l, own, rs, ol, rfl, ho, q⟩ := h
    refine ⟨_, pss_cons (ps_set (i := 1) scLns.nd rfl (Or.inl rfl) (pe_lst pa_nil))
      (pss_cons (ps_for PassesOwn.never rfl (pi_list (pe_fld (pv 0) rfl)) (pg_name (i := 2) scLns.nd rfl (Or.inl rfl))
        (pss_one (ps_expr (pe_bm PySem.F.plainAttrs_list PySem.F.slot_list_extend PySem.F.type_list_extend mt_extend (pv 1) (pa_cons (pe_listzip rfl rfl T.z_list rfl T.z_zip (pa_cons (pv 2) (pa_cons (pe_op op_cat (pe_slice sl_list (pv 2) (po_some pe_int) po_none) (pe_slice sl_list (pv 2) po_none (po_some pe_int))) pa_nil))) pa_nil)))))
      (pss_one (ps_ret (pv 1)))), ?_⟩
    refine ⟨Nat.zero_le _, fun p hp => ?_⟩
    obtain ⟨dx, hi⟩ := ho.ins
    have s0 : Same H (upd H p (.lst [])) := same_new hp
    refine ⟨_, rfl, o, _, dx, _, _, rfl, s0 _ _ hi, T.cl_Outline, T.n_Outline_rings, outF_rings, l, rfl, ⟨_, SqL.of (s0 _ _ ho.lst)⟩, ?_⟩
    refine for_list (K := K) (xs := rs.map V.ref) (fun i σ G => ∃ (v2 : Option V) (ts : List Addr), σ = [some (.ref o), some (.ref p), v2] ∧ Same H G ∧ G p = some (.lst (ts.map V.ref)) ∧ Paired (LnAt G) ts ((ol.take i).flatMap Sw24.steps)) ⟨none, [], rfl, s0, upd_same, by rw [List.take_zero]; exact .nil⟩ (fun i σ G _ h => by obtain ⟨_, _, _, sm, _⟩ := h; exact SqL.of (sm _ _ ho.lst)) ?_ ?_
    · rintro i x σ G hx ⟨v2, ts, rfl, sm, hG, hts⟩
      obtain ⟨r, g, us, rfl, hg, q1, q2, q3⟩ := ho.atR hx
      have l1 := paired_len hts
      have l2 := paired_len q2
      have l3 := take_lines_len (ol := ol) (i := i)
      have few := ho.few
      have n0 : 1 ≤ us.length := by
        have := (ho.nonempty g (List.mem_of_getElem? hg))
        have z := List.length_pos_iff.mpr this
        omega
      have hr1 := sm _ _ q1
      refine ⟨_, rfl, .inl ⟨rfl, _, SqL.of hG⟩, _, rfl, _, rfl, _, rfl, r, _, rfl, SqL.of hr1, fun u1 h1 => ?_⟩
      have c1 : cutV (us.map V.ref) (some 1) none = (us.map V.ref).drop 1 := cut_drop (x := 1) (by rw [List.length_map]; exact n0)
      have c2 : cutV (us.map V.ref) none (some 1) = (us.map V.ref).take 1 := cut_take (x := 1) (by rw [List.length_map]; exact n0)
      rw [c1]
      refine ⟨_, rfl, _, rfl, r, _, rfl, SqL.of (same_new h1 _ _ hr1), fun u2 h2 => ?_⟩
      rw [c2]
      refine ⟨u1, u2, _, _, rfl, rfl, same_new h2 _ _ upd_same, upd_same, ?_, fun u3 h3 => ?_⟩
      · rw [List.length_drop, List.length_take, List.length_map]
        exact Nat.le_trans (show us.length - 1 + min 1 us.length ≤ 8192 by omega) (by decide)
      · have s3 : Same G (upd (upd (upd G u1 (.lst ((us.map V.ref).drop 1))) u2 (.lst ((us.map V.ref).take 1))) u3 (.lst ((us.map V.ref).drop 1 ++ (us.map V.ref).take 1))) := ((same_new h1).trans (same_new h2)).trans (same_new h3)
        refine ⟨r, u3, us.map V.ref, _, rfl, SqL.of (s3 _ _ hr1), SqL.of upd_same, ?_, fun G2 u4 ks h4 s4 e4 hks => ?_⟩
        · rw [List.length_append, List.length_drop, List.length_take, List.length_map]
          omega
        · have sG2 : Same G G2 := s3.trans s4
          have hP : PtsAt G2 us g := PtsAt.same (fun t xs e => sG2 _ _ (sm _ _ e)) q2
          rw [← List.map_drop, ← List.map_take, ← List.map_append] at hks
          have hL := lines_pair hP (paired_app (paired_drop 1 hP) (paired_take 1 hP)) hks
          rw [← steps_cut] at hL
          have l4 := paired_len hL
          rw [steps_len] at l4
          refine ⟨p, u4, _, _, rfl, rfl, sG2 _ _ hG, e4, ?_, _, ts ++ ks, rfl, fun b ob e => ?_, by rw [upd_same, List.map_append], ?_⟩
          · rw [List.length_map, List.length_map]
            exact Nat.le_trans (show ts.length + ks.length ≤ 8192 by omega) (by decide)
          · rw [upd_ne (ne_of_none e hp)]
            exact sG2 _ _ (sm _ _ e)
          · have st : ∀ t c, LnAt G2 t c → LnAt (upd G2 p (.lst (ts.map V.ref ++ ks.map V.ref))) t c := fun t c ⟨tp, tg, e1, e2, e3⟩ => by
              have nt : ∀ t xs, G2 t = some (.tup xs) → upd G2 p (.lst (ts.map V.ref ++ ks.map V.ref)) t = some (.tup xs) := fun t xs e => by
                rw [upd_ne (ne_of e (sG2 _ _ hG) (by intro z; cases z))]
                exact e
              exact ⟨tp, tg, nt _ _ e1, nt _ _ e2, nt _ _ e3⟩
            rw [List.take_add_one, hg]
            simp only [Option.toList_some, List.flatMap_append, List.flatMap_cons, List.flatMap_nil, List.append_nil]
            exact paired_app (Paired.mapP hts fun t c e => st t c (e.same sG2)) (Paired.mapP hL fun t c e => st t c e)
    · rintro σ G ⟨v2, ts, rfl, sm, hG, hts⟩
      rw [List.length_map, ho.len, List.take_length] at hts
      exact ⟨_, rfl, q G p ts hp sm hG hts⟩
end
end Of
set_option Elab.async false
set_option linter.all false
set_option maxRecDepth 100000
set_option maxHeartbeats 2000000
namespace Of
open PySem PySem.Spec PyProof.Rows L2
abbrev stepF (g : Sg) : List (Str × V) := [("first", .int g.first), ("end", .int g.fin), ("turn", .int g.turn), ("scale", .int g.scale), ("slope", .int g.slope), ("base", .int g.base)]
def SgAt (a : Adr) (H : Hp) (r : Addr) (g : Sg) : Prop := ∃ dx, H r = some (.ins a.c_Step dx (stepF g))
theorem SgAt.same {a : Adr} {H H' : Hp} {r : Addr} {g : Sg} (s : Same H H') (h : SgAt a H r g) : SgAt a H' r g := h.elim fun dx e => ⟨dx, s _ _ e⟩
theorem sf_first {g : Sg} : (stepF g).lookup ("first" : Str) = some (.int g.first) := lk_hd
theorem sf_end {g : Sg} : (stepF g).lookup ("end" : Str) = some (.int g.fin) := lk_tl (by decide +kernel) lk_hd
theorem sf_turn {g : Sg} : (stepF g).lookup ("turn" : Str) = some (.int g.turn) := lk_tl (by decide +kernel) (lk_tl (by decide +kernel) lk_hd)
theorem sf_scale {g : Sg} : (stepF g).lookup ("scale" : Str) = some (.int g.scale) := lk_tl (by decide +kernel) (lk_tl (by decide +kernel) (lk_tl (by decide +kernel) lk_hd))
theorem sf_slope {g : Sg} : (stepF g).lookup ("slope" : Str) = some (.int g.slope) := lk_tl (by decide +kernel) (lk_tl (by decide +kernel) (lk_tl (by decide +kernel) (lk_tl (by decide +kernel) lk_hd)))
theorem sf_base {g : Sg} : (stepF g).lookup ("base" : Str) = some (.int g.base) := lk_tl (by decide +kernel) (lk_tl (by decide +kernel) (lk_tl (by decide +kernel) (lk_tl (by decide +kernel) (lk_tl (by decide +kernel) lk_hd))))
theorem sf_no {g : Sg} : (stepF g).lookup ("limits" : Str) = none := lk_tl (by decide +kernel) (lk_tl (by decide +kernel) (lk_tl (by decide +kernel) (lk_tl (by decide +kernel) (lk_tl (by decide +kernel) (lk_tl (by decide +kernel) lk_nil)))))
section
variable {P : Program} {w : World} {K : PySem.W.Frag} {mg : Str → Option Value} {base : Heap} {a : Adr}
/-! ### row_below -/
def spBelow : Sp := fun vs H Q _ => ∃ y : Int, vs = [.int y] ∧ Q (.int ((2 * y + 3) / 8)) H
theorem scBelow : FnScope ["y"] ps_row_below (defScope st_row_below) := ⟨rfl, rfl, rfl, by decide +kernel, rfl, by decide +kernel, by decide +kernel⟩
theorem ok_below (T : Txt K mg a) : FnOk P w K mg base CX0 1 a.a_row_below a.d_row_below ps_row_below spBelow := by
  refine T.f_row_below.ok scBelow (fun vs H Q E h => ?_) (fun cdv A outer s H vs Q E hr h => ?_)
  · obtain ⟨y, rfl, _⟩ := h
    rfl
  · obtain ⟨y, rfl, q⟩ := h
    refine ⟨_, pss_one (ps_ret (pe_op op_fdiv (pe_op op_add (pe_op op_mul pe_int (pv 0)) pe_int) pe_int)), ?_⟩
    exact ⟨_, rfl, _, _, rfl, rfl, .inl ⟨by decide, by decide⟩, _, _, rfl, rfl, _, _, rfl, rfl, ⟨by decide, by decide⟩, q⟩
/-! ### Step.__init__ -/
def spSInit (a : Adr) : Sp := fun vs H Q _ => ∃ (p dx ta tb : Addr) (pa pb : Sw24.P) (t : Int), vs = [.ref p, .ref ta, .ref tb, .int t] ∧ H p = some (.ins a.c_Step dx []) ∧ PtAt H ta pa ∧ PtAt H tb pb ∧ Small pa ∧ Small pb ∧
  ∀ H' : Hp, H' p = some (.ins a.c_Step dx (stepF (sgOf pa pb t))) → (∀ b o, H b = some o → b ≠ p → H' b = some o) → Q .non H'
theorem scSInit : FnScope ["self", "a", "b", "turn", "dx", "dy"] ps_Step_init (defScope st_Step_init) := ⟨rfl, rfl, rfl, by decide +kernel, rfl, by decide +kernel, by decide +kernel⟩
theorem ok_sinit (T : Txt K mg a) : FnOk P w K mg base CX0 2 a.a_Step_init a.d_Step_init ps_Step_init (spSInit a) := by
  have GB := ok_below (P := P) (w := w) (base := base) T
  refine T.f_Step_init.ok scSInit (fun vs H Q E h => ?_) (fun cdv A outer s H vs Q E hr h => ?_)
  · obtain ⟨p, dx, ta, tb, pa, pb, t, rfl, _⟩ := h
    rfl
  · obtain ⟨p, dx, ta, tb, pa, pb, t, rfl, hp, ha, hb, sa, sb, q⟩ := h
    refine ⟨_, pss_cons (ps_set (i := 4) scSInit.nd rfl (Or.inl rfl) (pe_op op_sub (pe_ix ix_tup (pv 2) pe_int (fun _ _ => rfl)) (pe_ix ix_tup (pv 1) pe_int (fun _ _ => rfl))))
      (pss_cons (ps_set (i := 5) scSInit.nd rfl (Or.inl rfl) (pe_op op_sub (pe_ix ix_tup (pv 2) pe_int (fun _ _ => rfl)) (pe_ix ix_tup (pv 1) pe_int (fun _ _ => rfl))))
      (pss_cons (ps_fld (pv 0) (pe_call GB hr rfl T.g_row_below T.f_row_below.kp T.b_row_below .nil pass0 (pa_cons (pe_ix ix_tup (pv 1) pe_int (fun _ _ => rfl)) pa_nil)) rfl)
      (pss_cons (ps_fld (pv 0) (pe_call GB hr rfl T.g_row_below T.f_row_below.kp T.b_row_below .nil pass0 (pa_cons (pe_ix ix_tup (pv 2) pe_int (fun _ _ => rfl)) pa_nil)) rfl)
      (pss_cons (ps_fld (pv 0) (pv 3) rfl)
      (pss_cons (ps_fld (pv 0) (pe_op op_mul pe_int (pv 5)) rfl)
      (pss_cons (ps_fld (pv 0) (pe_op op_mul pe_int (pv 4)) rfl)
      (pss_one (ps_fld (pv 0) (pe_op op_add (pe_op op_mul (pv 4) (pe_op op_sub pe_int (pe_op op_mul pe_int (pe_ix ix_tup (pv 1) pe_int (fun _ _ => rfl))))) (pe_op op_mul (pv 5) (pe_op op_sub (pe_op op_mul pe_int (pe_ix ix_tup (pv 1) pe_int (fun _ _ => rfl))) pe_int))) rfl)))))))), ?_⟩
    obtain ⟨a1, a2, a3, a4⟩ := sa
    obtain ⟨b1, b2, b3, b4⟩ := sb
    have nta : ta ≠ p := ne_of ha hp (by intro z; cases z)
    have ntb : tb ≠ p := ne_of hb hp (by intro z; cases z)
    refine ⟨_, rfl, tb, _, 0, _, rfl, rfl, SqT.of hb, rfl, _, rfl, ta, _, 0, _, rfl, rfl, SqT.of ha, rfl, _, _, rfl, rfl, ?_⟩
    refine ⟨_, rfl, tb, _, 1, _, rfl, rfl, SqT.of hb, rfl, _, rfl, ta, _, 1, _, rfl, rfl, SqT.of ha, rfl, _, _, rfl, rfl, ?_⟩
    refine ⟨_, rfl, ta, _, 1, _, rfl, rfl, SqT.of ha, rfl, _, rfl, _, rfl, p, _, dx, _, rfl, hp, T.cl_Step, T.n_Step_first, by decide, ?_⟩
    rw [pf_nil]
    generalize hH1 : upd H p (.ins a.c_Step dx [("first", .int ((2 * pa.y + 3) / 8))]) = H1
    have p1 : H1 p = some (.ins a.c_Step dx [("first", .int ((2 * pa.y + 3) / 8))]) := by rw [← hH1, upd_same]
    have k1 : ∀ b o, H b = some o → b ≠ p → H1 b = some o := fun b o e ne => by rw [← hH1, upd_ne ne]; exact e
    refine ⟨_, rfl, tb, _, 1, _, rfl, rfl, SqT.of (k1 _ _ hb ntb), rfl, _, rfl, _, rfl, p, _, dx, _, rfl, p1, T.cl_Step, T.n_Step_end, by show 1 < 1000; decide, ?_⟩
    rw [pf_tl (by decide +kernel) pf_nil]
    refine ⟨_, rfl, _, rfl, p, _, dx, _, rfl, upd_same, T.cl_Step, T.n_Step_turn, by show 2 < 1000; decide, ?_⟩
    rw [pf_tl (by decide +kernel) (pf_tl (by decide +kernel) pf_nil), upd_upd]
    refine ⟨_, rfl, _, _, rfl, rfl, .inl ⟨by decide, by decide⟩, _, rfl, p, _, dx, _, rfl, upd_same, T.cl_Step, T.n_Step_scale, by show 3 < 1000; decide, ?_⟩
    rw [pf_tl (by decide +kernel) (pf_tl (by decide +kernel) (pf_tl (by decide +kernel) pf_nil)), upd_upd]
    refine ⟨_, rfl, _, _, rfl, rfl, .inl ⟨by decide, by decide⟩, _, rfl, p, _, dx, _, rfl, upd_same, T.cl_Step, T.n_Step_slope, by show 4 < 1000; decide, ?_⟩
    rw [pf_tl (by decide +kernel) (pf_tl (by decide +kernel) (pf_tl (by decide +kernel) (pf_tl (by decide +kernel) pf_nil))), upd_upd]
    generalize hH2 : upd H1 p (.ins a.c_Step dx _) = H2
    have k2 : ∀ b o, H b = some o → b ≠ p → H2 b = some o := fun b o e ne => by rw [← hH2, upd_ne ne]; exact k1 b o e ne
    refine ⟨_, rfl, _, rfl, ta, _, 1, _, rfl, rfl, SqT.of (k2 _ _ ha nta), rfl, _, _, rfl, rfl, .inl ⟨by decide, by decide⟩, _, _, rfl, rfl, _, _, rfl, rfl, .inl ⟨by omega, by omega⟩, _, rfl, _, rfl, ta, _, 0, _, rfl, rfl, SqT.of (k2 _ _ ha nta), rfl, _, _, rfl, rfl, .inl ⟨by decide, by decide⟩, _, _, rfl, rfl, _, _, rfl, rfl, .inl ⟨by omega, by omega⟩, _, _, rfl, rfl, _, rfl, p, _, dx, _, rfl, (by rw [← hH2]; exact upd_same), T.cl_Step, T.n_Step_base, by show 5 < 1000; decide, ?_⟩
    rw [pf_tl (by decide +kernel) (pf_tl (by decide +kernel) (pf_tl (by decide +kernel) (pf_tl (by decide +kernel) (pf_tl (by decide +kernel) pf_nil))))]
    refine q _ upd_same fun b o e ne => ?_
    rw [upd_ne ne]
    exact k2 b o e ne
/-! ### Step.limits -/
def spLims (a : Adr) : Sp := fun vs H Q _ => ∃ (p : Addr) (g : Sg) (f e : Int), vs = [.ref p, .int f, .int e] ∧ SgAt a H p g ∧ SgOk g ∧ 0 < g.scale ∧ -1000000 ≤ f ∧ f ≤ e ∧ e ≤ f + 16 ∧ f ≤ 1000000 ∧
  ∀ (H' : Hp) (l : Addr), H l = none → Same H H' → H' l = some (.lst (((List.range (e - f).toNat).map fun i => lim g (f + (i : Nat))).map V.int)) → Q (.ref l) H'
theorem scLims : FnScope ["self", "first", "end", "base", "slope", "scale", "t"] ps_Step_limits (defScope st_Step_limits) := ⟨rfl, rfl, rfl, by decide +kernel, rfl, by decide +kernel, by decide +kernel⟩
theorem ok_lims (T : Txt K mg a) : FnOk P w K mg base CX0 1 a.a_Step_limits a.d_Step_limits ps_Step_limits (spLims a) := by
  refine T.f_Step_limits.ok scLims (fun vs H Q E h => ?_) (fun cdv A outer s H vs Q E hr h => ?_)
  · obtain ⟨p, g, f, e, rfl, _⟩ := h
    rfl
  · obtain ⟨p, g, f, e, rfl, ⟨dx, hp⟩, ok, sc, f0, fe, e16, f1, q⟩ := h
    have s1 := ok.s1
    have sl := ok.l0
    refine ⟨_, pss_cons (ps_set (i := 3) scLims.nd rfl (Or.inr rfl) (pe_fld (pv 0) rfl)) (pss_cons (ps_set (i := 4) scLims.nd rfl (Or.inr rfl) (pe_fld (pv 0) rfl)) (pss_cons (ps_set (i := 5) scLims.nd rfl (Or.inr rfl) (pe_fld (pv 0) rfl))
      (pss_one (ps_ret (pe_lc (own := [("t", 6)]) rfl scLims.nd (pi_range2 rfl T.z_range (pa_cons (pv 1) (pa_cons (pv 2) pa_nil))) (blkOk_by (by change blkC ["self", "first", "end", "base", "slope", "scale", "t"] (defScope st_Step_limits) _ _ = true; decide +kernel)) (fun _ _ _ _ _ => pg_name (i := 6) scLims.nd rfl (Or.inl rfl)) (fun _ _ _ _ _ => pts_nil)
        (fun _ _ _ _ _ => pe_un un_neg (pe_op op_fdiv (pe_op op_sub (pe_un un_neg (pv 3)) (pe_op op_mul (pv 4) (pv 6))) (pv 5)))))))), ?_⟩
    refine ⟨_, rfl, p, _, dx, _, _, rfl, hp, T.cl_Step, T.n_Step_base, sf_base, ?_⟩
    refine ⟨_, rfl, p, _, dx, _, _, rfl, hp, T.cl_Step, T.n_Step_slope, sf_slope, ?_⟩
    refine ⟨_, rfl, p, _, dx, _, _, rfl, hp, T.cl_Step, T.n_Step_scale, sf_scale, ?_⟩
    refine ⟨_, rfl, _, rfl, f, e, rfl, ⟨by omega, by omega, by omega, by omega⟩, fun D hD => ?_⟩
    refine lc_range (n := (e - f).toNat) (fun i G => Same H G ∧ G D = some (.lst (((List.range i).map fun i => lim g (f + (i : Nat))).map V.int))) ⟨same_new hD, upd_same⟩ (fun i G hi ⟨sm, hd⟩ => ?_) (fun G ⟨sm, hd⟩ => ?_)
    · refine ⟨rfl, ?_⟩
      unfold tYes
      refine iteT ?_
      refine ⟨_, rfl, _, rfl, _, rfl, _, rfl, _, _, rfl, rfl, .inl ⟨by omega, by omega⟩, _, _, rfl, rfl, _, rfl, _, _, rfl, rfl, ⟨sc, by omega⟩, _, rfl, ?_⟩
      refine ⟨_, hd, ?_, fun b o e' => ?_, ?_⟩
      · rw [List.length_map, List.length_map, List.length_range]
        exact Nat.lt_of_le_of_lt (show i ≤ 16 by omega) (by decide)
      · rw [upd_ne (ne_of_none e' hD)]
        exact sm _ _ e'
      · rw [upd_same, List.range_succ, List.map_append, List.map_append]
        rfl
    · exact q G D hD sm hd
end
end Of
set_option Elab.async false
set_option linter.all false
set_option maxRecDepth 100000
set_option maxHeartbeats 2000000
namespace Of
open PySem PySem.Spec PyProof.Rows L2
theorem if_same {t : TT} {ta tb : TE} {σ : L2.St} {H : Hp} {Q : VK} {R : Addr → Hp → Prop} (b : Bool) (hc : ∀ S : Bool → Hp → Prop, S b H → t σ H S) (h1 : b = true → ∀ S : VK, (∀ x G, R x G → S (.ref x) G) → ta σ H S) (h2 : b = false → ∀ S : VK, (∀ x G, R x G → S (.ref x) G) → tb σ H S) (k : ∀ x G, R x G → Q (.ref x) G) : tIf t ta tb σ H Q := by
  refine hc _ ?_
  cases b with
  | true =>
    rw [if_pos rfl]
    exact h1 rfl _ k
  | false =>
    rw [if_neg (by decide)]
    exact h2 rfl _ k
def SgN (a : Adr) (H0 H : Hp) (r : Addr) (g : Sg) : Prop := H0 r = none ∧ SgAt a H r g
def SmallL (c : Sw24.P × Sw24.P) : Prop := Small c.1 ∧ Small c.2
theorem mkS_ok {c : Sw24.P × Sw24.P} (h : SmallL c) : SgOk (mkS c) := by
  obtain ⟨⟨a1, a2, a3, a4⟩, ⟨b1, b2, b3, b4⟩⟩ := h
  unfold mkS
  split
  · exact sg_ok (by omega) (.inl rfl) ⟨a1, a2⟩ ⟨a3, a4⟩ ⟨b1, b2⟩ ⟨b3, b4⟩
  · exact sg_ok (by omega) (.inr rfl) ⟨b1, b2⟩ ⟨b3, b4⟩ ⟨a1, a2⟩ ⟨a3, a4⟩
section
variable {P : Program} {w : World} {K : PySem.W.Frag} {mg : Str → Option Value} {base : Heap} {a : Adr}
/-! ### steps_across -/
def spAcr (a : Adr) : Sp := fun vs H Q _ => ∃ (l : Addr) (lo hi : Int) (ts : List Addr) (ls : List (Sw24.P × Sw24.P)), vs = [.ref l, .int lo, .int hi] ∧ H l = some (.lst (ts.map V.ref)) ∧ Paired (LnAt H) ts ls ∧ ls.length ≤ 4096 ∧ (∀ c ∈ ls, SmallL c) ∧
  ∀ (H' : Hp) (p : Addr) (rs : List Addr), H p = none → Same H H' → H' p = some (.lst (rs.map V.ref)) → Paired (SgN a H H') rs ((ls.map mkS).filter (acr lo hi)) → Q (.ref p) H'
theorem scAcr : FnScope ["lines", "first", "end", "steps", "start", "goal", "step"] ps_steps_across (defScope st_steps_across) := ⟨rfl, rfl, rfl, by decide +kernel, rfl, by decide +kernel, by decide +kernel⟩
theorem ok_acr (T : Txt K mg a) : FnOk P w K mg base CX0 4 a.a_steps_across a.d_steps_across ps_steps_across (spAcr a) := by
  have GI := ok_sinit (P := P) (w := w) (base := base) T
  refine T.f_steps_across.ok scAcr (fun vs H Q E h => ?_) (fun cdv A outer s H vs Q E hr h => ?_)
  · obtain ⟨l, lo, hi, ts, ls, rfl, _⟩ := h
    rfl
  · obtain ⟨l, lo, hi, ts, ls, rfl, hl, hts, h4, hsm, q⟩ := h
    refine ⟨_, pss_cons (ps_set (i := 3) scAcr.nd rfl (Or.inl rfl) (pe_lst pa_nil))
      (pss_cons (ps_for PassesOwn.never rfl (pi_list (pv 0)) (pg_tup rfl (pgs_cons (pg_name (i := 4) scAcr.nd rfl (Or.inl rfl)) (pgs_cons (pg_name (i := 5) scAcr.nd rfl (Or.inl rfl)) pgs_nil)))
        (pss_cons (ps_set (i := 6) scAcr.nd rfl (Or.inl rfl) (pe_ifExp (pt_cmpR op_lt (pe_ix ix_tup (pv 4) pe_int (fun _ _ => rfl)) (pe_ix ix_tup (pv 5) pe_int (fun _ _ => rfl)) (nomark _))
          (pe_make T.mk_Step GI hr rfl T.g_Step T.b_Step_init .nil pass0 (pa_cons (pv 4) (pa_cons (pv 5) (pa_cons pe_int pa_nil))))
          (pe_make T.mk_Step GI hr rfl T.g_Step T.b_Step_init .nil pass0 (pa_cons (pv 5) (pa_cons (pv 4) (pa_cons (pe_un un_neg pe_int) pa_nil))))))
        (pss_one (ps_if (pt_cmpR op_lt (pe_callB (call_max2 rfl) (by rfl) T.z_max (by decide +kernel) (pa_cons (pe_fld (pv 6) rfl) (pa_cons (pv 1) pa_nil))) (pe_callB (call_min2 rfl) (by rfl) T.z_min (by decide +kernel) (pa_cons (pe_fld (pv 6) rfl) (pa_cons (pv 2) pa_nil))) (nomark _))
          (pss_one (ps_expr (pe_bm PySem.F.plainAttrs_list PySem.F.slot_list_append PySem.F.type_list_append mt_append (pv 3) (pa_cons (pv 6) pa_nil)))) pss_nil))))
      (pss_one (ps_ret (pv 3)))), ?_⟩
    refine ⟨Nat.zero_le _, fun p hp => ?_⟩
    have s0 : Same H (upd H p (.lst [])) := same_new hp
    refine ⟨_, rfl, l, rfl, ⟨_, SqL.of (s0 _ _ hl)⟩, ?_⟩
    refine for_list (K := K) (xs := ts.map V.ref) (fun i σ G => ∃ (v4 v5 v6 : Option V) (rs : List Addr), σ = [some (.ref l), some (.int lo), some (.int hi), some (.ref p), v4, v5, v6] ∧ Same H G ∧ G p = some (.lst (rs.map V.ref)) ∧ Paired (SgN a H G) rs (((ls.take i).map mkS).filter (acr lo hi))) ⟨none, none, none, [], rfl, s0, upd_same, by rw [List.take_zero]; exact .nil⟩ (fun i σ G _ h => by obtain ⟨_, _, _, _, _, sm, _⟩ := h; exact SqL.of (sm _ _ hl)) ?_ ?_
    · rintro i x σ G hx ⟨v4, v5, v6, rs, rfl, sm, hG, hrs⟩
      rw [List.getElem?_map] at hx
      cases ht : ts[i]? with
      | none => rw [ht] at hx; cases hx
      | some t =>
        rw [ht] at hx
        have ex : V.ref t = x := Option.some.inj hx
        subst ex
        obtain ⟨c, hc, tp, tg, e1, e2, e3⟩ := paired_getL hts ht
        obtain ⟨pp, pg⟩ := c
        have sml := hsm _ (List.mem_of_getElem? hc)
        have f1 := sm _ _ e1
        have f2 : PtAt G tp pp := sm _ _ e2
        have f3 : PtAt G tg pg := sm _ _ e3
        refine ⟨t, _, rfl, SqT.of f1, rfl, _, _, rfl, _, _, rfl, rfl, ?_⟩
        refine if_same (R := fun x G2 => G x = none ∧ Same G G2 ∧ SgAt a G2 x (mkS (pp, pg))) (decide (pp.y < pg.y)) (fun S r => ⟨_, rfl, tp, _, 1, _, rfl, rfl, SqT.of f2, rfl, _, rfl, tg, _, 1, _, rfl, rfl, SqT.of f3, rfl, _, _, rfl, rfl, _, rfl, r⟩) (fun hb S k => ?_) (fun hb S k => ?_) (fun x G2 ⟨nx, s2, hsg⟩ => ?_)
        · refine ⟨_, rfl, _, rfl, fun x d hx' hd' nd => ?_⟩
          refine ⟨x, d, tp, tg, pp, pg, 1, rfl, upd_same, ?_, ?_, sml.1, sml.2, fun G2 g1 g2 => ⟨rfl, k x G2 ⟨hx', fun b o e => ?_, d, ?_⟩⟩⟩
          · show upd (upd G d _) x _ tp = _
            rw [upd_ne (ne_of_none f2 hx'), upd_ne (ne_of_none f2 hd')]
            exact f2
          · show upd (upd G d _) x _ tg = _
            rw [upd_ne (ne_of_none f3 hx'), upd_ne (ne_of_none f3 hd')]
            exact f3
          · exact g2 b o (by rw [upd_ne (ne_of_none e hx'), upd_ne (ne_of_none e hd')]; exact e) (ne_of_none e hx')
          · have em : mkS (pp, pg) = sgOf pp pg 1 := if_pos (of_decide_eq_true hb)
            rw [em]
            exact g1
        · refine ⟨_, rfl, _, rfl, _, rfl, fun x d hx' hd' nd => ?_⟩
          refine ⟨x, d, tg, tp, pg, pp, -1, rfl, upd_same, ?_, ?_, sml.2, sml.1, fun G2 g1 g2 => ⟨rfl, k x G2 ⟨hx', fun b o e => ?_, d, ?_⟩⟩⟩
          · show upd (upd G d _) x _ tg = _
            rw [upd_ne (ne_of_none f3 hx'), upd_ne (ne_of_none f3 hd')]
            exact f3
          · show upd (upd G d _) x _ tp = _
            rw [upd_ne (ne_of_none f2 hx'), upd_ne (ne_of_none f2 hd')]
            exact f2
          · exact g2 b o (by rw [upd_ne (ne_of_none e hx'), upd_ne (ne_of_none e hd')]; exact e) (ne_of_none e hx')
          · have em : mkS (pp, pg) = sgOf pg pp (-1) := if_neg (of_decide_eq_false hb)
            rw [em]
            exact g1
        · obtain ⟨dx, hins⟩ := id hsg
          have hG2 := s2 _ _ hG
          have efil : ((ls.take (i + 1)).map mkS).filter (acr lo hi) = ((ls.take i).map mkS).filter (acr lo hi) ++ if acr lo hi (mkS (pp, pg)) = true then [mkS (pp, pg)] else [] := by
            rw [List.take_add_one, hc]
            simp only [Option.toList_some, List.map_append, List.map_cons, List.map_nil, List.filter_append]
            congr 1
            by_cases z : acr lo hi (mkS (pp, pg)) = true
            · rw [if_pos z, List.filter_cons_of_pos z]
              rfl
            · rw [if_neg z, List.filter_cons_of_neg z]
              rfl
          have hrs2 : Paired (SgN a H G2) rs (((ls.take i).map mkS).filter (acr lo hi)) := Paired.mapP hrs fun r g e => ⟨e.1, e.2.same s2⟩
          have lrs := paired_len hrs
          have lfl : (((ls.take i).map mkS).filter (acr lo hi)).length ≤ ls.length := by
            refine Nat.le_trans (List.length_filter_le _ _) ?_
            rw [List.length_map, List.length_take]
            omega
          refine ⟨_, rfl, x, _, dx, _, _, rfl, hins, T.cl_Step, T.n_Step_first, sf_first, _, rfl, _, _, rfl, _, rfl, x, _, dx, _, _, rfl, hins, T.cl_Step, T.n_Step_end, sf_end, _, rfl, _, _, rfl, _, _, rfl, rfl, _, rfl, ?_⟩
          have ea : decide ((if lo > (mkS (pp, pg)).first then lo else (mkS (pp, pg)).first) < (if hi < (mkS (pp, pg)).fin then hi else (mkS (pp, pg)).fin)) = acr lo hi (mkS (pp, pg)) := by
            unfold acr
            congr 1
            rw [show (if lo > (mkS (pp, pg)).first then lo else (mkS (pp, pg)).first) = max (mkS (pp, pg)).first lo by split <;> omega, show (if hi < (mkS (pp, pg)).fin then hi else (mkS (pp, pg)).fin) = min (mkS (pp, pg)).fin hi by split <;> omega]
          refine ite2 (fun e => ?_) (fun e => ?_)
          · have e' : acr lo hi (mkS (pp, pg)) = true := ea ▸ e
            rw [if_pos e'] at efil
            refine ⟨_, rfl, .inl ⟨rfl, _, SqL.of hG2⟩, _, rfl, p, _, _, rfl, rfl, hG2, ?_, _, _, _, rs ++ [x], rfl, fun b o e => ?_, by rw [upd_same, List.map_append]; rfl, ?_⟩
            · rw [List.length_map]
              exact Nat.lt_of_le_of_lt (show rs.length ≤ 4096 by omega) (by decide)
            · rw [upd_ne (ne_of_none e hp)]
              exact s2 _ _ (sm _ _ e)
            · have st : ∀ r g, SgN a H G2 r g → SgN a H (upd G2 p (.lst (rs.map V.ref ++ [.ref x]))) r g := fun r g ⟨n0, d, e⟩ => ⟨n0, d, by rw [upd_ne (ne_of e hG2 (by intro z; cases z))]; exact e⟩
              rw [efil]
              exact paired_snoc (Paired.mapP hrs2 st) (st _ _ ⟨sm.free nx, hsg⟩)
          · have e' : ¬ acr lo hi (mkS (pp, pg)) = true := ea ▸ e
            rw [if_neg e', List.append_nil] at efil
            refine ⟨_, _, _, rs, rfl, sm.trans s2, hG2, ?_⟩
            rw [efil]
            exact hrs2
    · rintro σ G ⟨v4, v5, v6, rs, rfl, sm, hG, hrs⟩
      rw [List.length_map, paired_len hts, List.take_length] at hrs
      exact ⟨_, rfl, q G p rs hp sm hG hrs⟩
end
end Of
set_option Elab.async false
set_option linter.all false
set_option maxRecDepth 100000
set_option maxHeartbeats 2000000
namespace Of
open PySem PySem.Spec PyProof.Rows L2
theorem filter_snoc {α : Type} {p : α → Bool} {l : List α} {i : Nat} {g : α} (h : l[i]? = some g) : (l.take (i + 1)).filter p = (l.take i).filter p ++ if p g = true then [g] else [] := by
  rw [List.take_add_one, h]
  simp only [Option.toList_some, List.filter_append]
  congr 1
  by_cases z : p g = true
  · rw [if_pos z, List.filter_cons_of_pos z]
    rfl
  · rw [if_neg z, List.filter_cons_of_neg z]
    rfl
/-- the lists of a row of places -/
def RowsG (a : Adr) (H0 G0 G : Hp) (ra : List Addr) (L : Nat → List Sg) : Prop := ∀ (y : Nat) (r : Addr), ra[y]? = some r → ∃ us : List Addr, G r = some (.lst (us.map V.ref)) ∧ Paired (SgN a H0 G0) us (L y)
theorem nodup_get : ∀ {ra : List Addr}, ra.Nodup → ∀ {i j : Nat} {r : Addr}, ra[i]? = some r → ra[j]? = some r → i = j
  | [], _, _, _, _, e, _ => by simp at e
  | b :: ra, n, 0, 0, _, _, _ => rfl
  | b :: ra, n, 0, j + 1, r, h, k => by
    have e : b = r := Option.some.inj h
    have m : r ∈ ra := List.mem_of_getElem? (i := j) k
    exact absurd (e ▸ m) (List.nodup_cons.mp n).1
  | b :: ra, n, i + 1, 0, r, h, k => by
    have e : b = r := Option.some.inj k
    have m : r ∈ ra := List.mem_of_getElem? (i := i) h
    exact absurd (e ▸ m) (List.nodup_cons.mp n).1
  | b :: ra, n, i + 1, j + 1, r, h, k => by
    have e := nodup_get (List.nodup_cons.mp n).2 (i := i) (j := j) (r := r) h k
    omega
section
variable {P : Program} {w : World} {K : PySem.W.Frag} {mg : Str → Option Value} {base : Heap} {a : Adr}
/-! ### steps_by_place_row -/
def spByRow (a : Adr) : Sp := fun vs H Q _ => ∃ (l : Addr) (h : Nat) (ts : List Addr) (ls : List (Sw24.P × Sw24.P)), vs = [.ref l, .int (h : Nat)] ∧ h ≤ 512 ∧ H l = some (.lst (ts.map V.ref)) ∧ Paired (LnAt H) ts ls ∧ ls.length ≤ 4096 ∧ (∀ c ∈ ls, SmallL c) ∧
  ∀ (H' : Hp) (p : Addr) (ra : List Addr), H p = none → Same H H' → H' p = some (.lst (ra.map V.ref)) → ra.length = h → (∀ r ∈ ra, H r = none) → RowsG a H H' H' ra (fun y => ((ls.map mkS).filter (acr 0 (16 * h))).filter (inRow y)) → Q (.ref p) H'
theorem scByRow : FnScope ["lines", "height", "place_rows", "step", "first", "end", "y"] ps_steps_by_place_row (defScope st_steps_by_place_row) := ⟨rfl, rfl, rfl, by decide +kernel, rfl, by decide +kernel, by decide +kernel⟩
theorem ok_byrow (T : Txt K mg a) : FnOk P w K mg base CX0 5 a.a_steps_by_place_row a.d_steps_by_place_row ps_steps_by_place_row (spByRow a) := by
  have GA := ok_acr (P := P) (w := w) (base := base) T
  refine T.f_steps_by_place_row.ok scByRow (fun vs H Q E h => ?_) (fun cdv A outer s H vs Q E hr h => ?_)
  · obtain ⟨l, h, ts, ls, rfl, _⟩ := h
    rfl
  · obtain ⟨l, h, ts, ls, rfl, h512, hl, hts, h4, hsm, q⟩ := h
    refine ⟨_, pss_cons (ps_setLc (i := 2) (own := [("y", 6)]) rfl scByRow.nd rfl rfl (sw_true rfl rfl rfl rfl) (pi_range1 rfl T.z_range (pa_cons (pv 1) pa_nil)) (blkOk_by (by change blkC ["lines", "height", "place_rows", "step", "first", "end", "y"] (defScope st_steps_by_place_row) _ _ = true; decide +kernel)) (fun _ _ _ _ _ => pg_name (i := 6) scByRow.nd rfl (Or.inl rfl)) (fun _ _ _ _ _ => pts_nil)
        (fun _ _ _ _ _ => pe_lst pa_nil))
      (pss_cons (ps_for PassesOwn.never rfl (pi_list (pe_call GA hr rfl T.g_steps_across T.f_steps_across.kp T.b_steps_across .nil pass0 (pa_cons (pv 0) (pa_cons pe_int (pa_cons (pe_op op_mul (pe_gint T.k_SAMPLES) (pv 1)) pa_nil))))) (pg_name (i := 3) scByRow.nd rfl (Or.inl rfl))
        (pss_cons (ps_set (i := 4) scByRow.nd rfl (Or.inl rfl) (pe_callB (call_max2 rfl) (by rfl) T.z_max (by decide +kernel) (pa_cons (pe_op op_fdiv (pe_fld (pv 3) rfl) (pe_gint T.k_SAMPLES)) (pa_cons pe_int pa_nil))))
        (pss_cons (ps_set (i := 5) scByRow.nd rfl (Or.inl rfl) (pe_callB (call_min2 rfl) (by rfl) T.z_min (by decide +kernel) (pa_cons (pe_op op_add (pe_op op_fdiv (pe_op op_sub (pe_fld (pv 3) rfl) pe_int) (pe_gint T.k_SAMPLES)) pe_int) (pa_cons (pv 1) pa_nil))))
        (pss_one (ps_for PassesOwn.never rfl (pi_range2 rfl T.z_range (pa_cons (pv 4) (pa_cons (pv 5) pa_nil))) (pg_name (i := 6) scByRow.nd rfl (Or.inl rfl))
          (pss_one (ps_expr (pe_bm PySem.F.plainAttrs_list PySem.F.slot_list_append PySem.F.type_list_append mt_append (pe_ix ix_list (pv 2) (pv 6) (fun _ _ => rfl)) (pa_cons (pv 3) pa_nil)))))))))
      (pss_one (ps_ret (pv 2)))), ?_⟩
    refine ⟨_, rfl, (h : Int), rfl, by omega, by omega, fun D hD => ?_⟩
    rw [Int.toNat_natCast]
    refine lc_range (n := h) (fun i G => Same H G ∧ ∃ ra : List Addr, G D = some (.lst (ra.map V.ref)) ∧ ra.length = i ∧ ra.Nodup ∧ ∀ r ∈ ra, H r = none ∧ G r = some (.lst [])) ⟨same_new hD, [], upd_same, rfl, List.nodup_nil, fun r hr => by simp at hr⟩ (fun i G hi ⟨sm, ra, hG, hn, nd, hra⟩ => ?_) (fun G ⟨sm, ra, hG, hn, nd, hra⟩ => ?_)
    · refine ⟨rfl, ?_⟩
      unfold tYes
      refine iteT ?_
      refine ⟨Nat.zero_le _, fun u hu => ?_⟩
      have nDu : D ≠ u := ne_of_none hG hu
      refine ⟨ra.map V.ref, by rw [upd_ne nDu]; exact hG, ?_, fun b o e => ?_, ra ++ [u], by rw [upd_same, List.map_append]; rfl, by simp [hn], ?_, fun r hr => ?_⟩
      · rw [List.length_map, hn]
        exact Nat.lt_of_lt_of_le (show i < 512 by omega) (by decide)
      · rw [upd_ne (ne_of_none e hD), upd_ne (ne_of_none (sm _ _ e) hu)]
        exact sm _ _ e
      · refine List.nodup_append.mpr ⟨nd, by simp, fun x hx y hy z => ?_⟩
        have ey : y = u := by simpa using hy
        have := (hra x hx).2
        rw [z, ey, hu] at this
        cases this
      · rcases List.mem_append.mp hr with z | z
        · obtain ⟨g1, g2⟩ := hra r z
          have nrD : r ≠ D := fun e => by
            rw [e, hG] at g2
            cases ra with
            | nil => simp at z
            | cons b ra => cases g2
          exact ⟨g1, by rw [upd_ne nrD, upd_ne (ne_of_none g2 hu)]; exact g2⟩
        · have z' : r = u := by simpa using z
          subst z'
          exact ⟨sm.free hu, by rw [upd_ne (Ne.symm nDu), upd_same]⟩
    · have hlG := sm _ _ hl
      have htsG : Paired (LnAt G) ts ls := Paired.mapP hts fun t c e => e.same sm
      refine ⟨_, rfl, _, rfl, _, _, rfl, rfl, .inl ⟨by decide, by decide⟩, l, 0, 16 * (h : Int), ts, ls, rfl, hlG, htsG, h4, hsm, fun G0 pS rs hpS s0 hS hrs0 => ?_⟩
      have hrs := Paired.mapP hrs0 (G := SgN a H G0) fun r g e => ⟨sm.free e.1, e.2⟩
      clear hrs0
      generalize hgs : (ls.map mkS).filter (acr 0 (16 * (h : Int))) = gs at *
      have lgs : gs.length ≤ 4096 := by
        rw [← hgs]
        refine Nat.le_trans (List.length_filter_le _ _) ?_
        rw [List.length_map]
        exact h4
      have lrs := paired_len hrs
      have gok : ∀ g ∈ gs, SgOk g := fun g hg => by
        rw [← hgs] at hg
        obtain ⟨c, hc, e⟩ := List.mem_map.mp (List.mem_filter.mp hg).1
        rw [← e]
        exact mkS_ok (hsm c hc)
      have hD0 := s0 _ _ hG
      have hra0 : ∀ r ∈ ra, G0 r = some (.lst []) := fun r hr => s0 _ _ (hra r hr).2
      have nSr : ∀ r ∈ ra, pS ≠ r := fun r hr e => by
        have := (hra r hr).2
        rw [← e, hpS] at this
        cases this
      have nDr : ∀ r ∈ ra, D ≠ r := fun r hr e => by
        have := (hra r hr).2
        rw [← e, hG] at this
        cases ra with
        | nil => simp at hr
        | cons b ra => cases this
      refine ⟨pS, rfl, ⟨_, SqL.of hS⟩, ?_⟩
      refine for_list (K := K) (xs := rs.map V.ref) (fun i σ G1 => ∃ (v3 v4 v5 v6 : Option V), σ = [some (.ref l), some (.int h), some (.ref D), v3, v4, v5, v6] ∧ (∀ b o, G0 b = some o → (∀ r ∈ ra, b ≠ r) → G1 b = some o) ∧ RowsG a H G0 G1 ra (fun y => (gs.take i).filter (inRow y))) ⟨_, _, _, _, rfl, fun b o e _ => e, fun y r hy => ⟨[], hra0 r (List.mem_of_getElem? hy), by rw [List.take_zero]; exact .nil⟩⟩ (fun i σ G1 _ h => by obtain ⟨_, _, _, _, _, k, _⟩ := h; exact SqL.of (k _ _ hS nSr)) ?_ ?_
      · rintro i x σ G1 hx ⟨v3, v4, v5, v6, rfl, k1, hR⟩
        rw [List.getElem?_map] at hx
        cases ht : rs[i]? with
        | none => rw [ht] at hx; cases hx
        | some t =>
          rw [ht] at hx
          have ex : V.ref t = x := Option.some.inj hx
          subst ex
          obtain ⟨g, hg, hsg⟩ := paired_getL hrs ht
          obtain ⟨hfr, dx, hins⟩ := id hsg
          have ok := gok g (List.mem_of_getElem? hg)
          have f0 := ok.f0
          have f1 := ok.f1
          have ntr : ∀ r ∈ ra, t ≠ r := fun r hr => ne_of hins (hra0 r hr) (by intro z; cases z)
          have hins1 := k1 _ _ hins ntr
          refine ⟨_, rfl, t, _, dx, _, _, rfl, hins1, T.cl_Step, T.n_Step_first, sf_first, _, _, rfl, rfl, ⟨by decide, by decide⟩, _, _, rfl, ?_⟩
          refine ⟨_, rfl, t, _, dx, _, _, rfl, hins1, T.cl_Step, T.n_Step_end, sf_end, _, _, rfl, rfl, _, _, rfl, rfl, ⟨by decide, by decide⟩, _, _, rfl, rfl, _, rfl, _, _, rfl, ?_⟩
          refine ⟨_, rfl, _, rfl, _, _, rfl, ⟨?_, ?_, ?_, ?_⟩, ?_⟩
          · split <;> omega
          · split <;> omega
          · split <;> omega
          · split <;> omega
          · obtain ⟨fi, hfi⟩ : ∃ fi : Nat, (if 0 > g.first / 16 then 0 else g.first / 16) = (fi : Int) := ⟨(if 0 > g.first / 16 then 0 else g.first / 16).toNat, by split <;> omega⟩
            have hen : (if (h : Int) < (g.fin - 1) / 16 + 1 then (h : Int) else (g.fin - 1) / 16 + 1) = min ((g.fin - 1) / 16 + 1) h := by split <;> omega
            rw [hfi, hen]
            refine for_range (n := (min ((g.fin - 1) / 16 + 1) (h : Int) - (fi : Int)).toNat) (fun j σ G2 => ∃ v6 : Option V, σ = [some (.ref l), some (.int h), some (.ref D), some (.ref t), some (.int fi), some (.int (min ((g.fin - 1) / 16 + 1) h)), v6] ∧ (∀ b o, G0 b = some o → (∀ r ∈ ra, b ≠ r) → G2 b = some o) ∧ RowsG a H G0 G2 ra (fun y => if fi ≤ y ∧ y < fi + j then (gs.take i).filter (inRow y) ++ [g] else (gs.take i).filter (inRow y))) ⟨v6, rfl, k1, ?_⟩ ?_ ?_
            · intro y r hy
              obtain ⟨us, e1, e2⟩ := hR y r hy
              refine ⟨us, e1, ?_⟩
              dsimp only
              rw [if_neg (by omega)]
              exact e2
            · rintro j σ G2 hj ⟨v6, rfl, k2, hR2⟩
              have hlt : fi + j < ra.length := by omega
              obtain ⟨r, hr'⟩ : ∃ r, ra[fi + j]? = some r := ⟨_, List.getElem?_eq_getElem hlt⟩
              have hrm := List.mem_of_getElem? hr'
              obtain ⟨us, e1, e2⟩ := hR2 (fi + j) r hr'
              dsimp only at e2
              rw [if_neg (by omega)] at e2
              have lus := paired_len e2
              have lfl : ((gs.take i).filter (inRow ((fi + j : Nat) : Int))).length ≤ gs.length := by
                refine Nat.le_trans (List.length_filter_le _ _) ?_
                rw [List.length_take]
                omega
              refine ⟨_, rfl, _, rfl, D, ra.map V.ref, _, V.ref r, rfl, rfl, SqL.of (k2 _ _ hD0 nDr), at_of (j := fi + j) (by omega) (by rw [List.getElem?_map, hr']; rfl), .inl ⟨rfl, _, SqL.of e1⟩, _, rfl, r, _, _, rfl, rfl, e1, ?_, _, rfl, fun b o e ne => ?_, fun y r2 hy => ?_⟩
              · rw [List.length_map]
                exact Nat.lt_of_le_of_lt (show us.length ≤ 4096 by omega) (by decide)
              · rw [upd_ne (ne r hrm)]
                exact k2 b o e ne
              · by_cases ey : y = fi + j
                · subst ey
                  have er : r2 = r := Option.some.inj (hy.symm.trans hr')
                  subst er
                  refine ⟨us ++ [t], by rw [upd_same, List.map_append]; rfl, ?_⟩
                  dsimp only
                  rw [if_pos (by omega)]
                  exact paired_snoc e2 hsg
                · have ner : r2 ≠ r := fun z => ey (nodup_get nd hy (z ▸ hr'))
                  obtain ⟨us2, e3, e4⟩ := hR2 y r2 hy
                  refine ⟨us2, by rw [upd_ne ner]; exact e3, ?_⟩
                  dsimp only at e4 ⊢
                  by_cases z : fi ≤ y ∧ y < fi + j
                  · rw [if_pos z] at e4
                    rw [if_pos (by omega)]
                    exact e4
                  · rw [if_neg z] at e4
                    rw [if_neg (by omega)]
                    exact e4
            · rintro σ G2 ⟨v6, rfl, k2, hR2⟩
              refine ⟨_, _, _, _, rfl, k2, fun y r hy => ?_⟩
              obtain ⟨us, e1, e2⟩ := hR2 y r hy
              refine ⟨us, e1, ?_⟩
              dsimp only at e2 ⊢
              have hyl : y < h := by
                rw [← hn]
                exact (List.getElem?_eq_some_iff.mp hy).1
              rw [filter_snoc hg]
              by_cases z : inRow (y : Int) g = true
              · rw [if_pos z]
                unfold inRow at z
                rw [Bool.and_eq_true, decide_eq_true_eq, decide_eq_true_eq] at z
                rw [if_pos (by split at hfi <;> omega)] at e2
                exact e2
              · rw [if_neg z, List.append_nil]
                unfold inRow at z
                rw [Bool.and_eq_true, decide_eq_true_eq, decide_eq_true_eq] at z
                rw [if_neg (by split at hfi <;> omega)] at e2
                exact e2
      · rintro σ G1 ⟨v3, v4, v5, v6, rfl, k1, hR⟩
        have kk : Same H G1 := fun b o e => k1 b o (s0 _ _ (sm _ _ e)) fun r hr => ne_of_none e (hra r hr).1
        refine ⟨_, rfl, q G1 D ra hD kk (k1 _ _ hD0 nDr) hn (fun r hr => (hra r hr).1) fun y r hy => ?_⟩
        obtain ⟨us, e1, e2⟩ := hR y r hy
        rw [List.length_map, lrs, List.take_length] at e2
        refine ⟨us, e1, Paired.mapP e2 fun r2 g ⟨n0, dx, hd⟩ => ⟨n0, dx, k1 _ _ hd fun r3 hr3 => ne_of hd (hra0 r3 hr3) (by intro z; cases z)⟩⟩
end
end Of
set_option Elab.async false
set_option linter.all false
set_option maxRecDepth 100000
set_option maxHeartbeats 2000000
namespace Of
open PySem PySem.Spec PyProof.Rows L2
/-! ### dicts of ints on the heap -/
def dkv (d : List (Int × Int)) : List (Key × V) := d.map fun e => (Sum.inl e.1, V.int e.2)
theorem dkv_keys (d : List (Int × Int)) : (dkv d).map (·.1) = (keysI d).map Sum.inl := by
  unfold dkv keysI
  simp only [List.map_map]
  rfl
theorem inl_iff {a k : Int} : (Sum.inl a : Key) = Sum.inl k ↔ a = k := ⟨fun e => Sum.inl.inj e, fun e => by rw [e]⟩
theorem valV_dkv (k : Int) : ∀ d : List (Int × Int), valV (dkv d) (Sum.inl k) = (getI d k).map V.int
  | [] => rfl
  | (a, b) :: r => by
    show valV ((Sum.inl a, V.int b) :: dkv r) (Sum.inl k) = _
    unfold getI
    by_cases h : a = k
    · rw [valV_pos (by rw [h]), if_pos h]
      rfl
    · rw [valV_neg (fun z => h (inl_iff.mp z)), if_neg h]
      exact valV_dkv k r
theorem get0_dkv (d : List (Int × Int)) (k : Int) : (valV (dkv d) (Sum.inl k)).getD (V.int 0) = V.int (vI d k) := by
  rw [valV_dkv]
  unfold vI
  cases getI d k <;> rfl
theorem map_notin {k v : Int} : ∀ {d : List (Int × Int)}, ¬ k ∈ keysI d → (dkv d).map (fun kv => if kv.1 = (Sum.inl k : Key) then (kv.1, V.int v) else kv) = dkv d
  | [], _ => rfl
  | (a, b) :: r, h => by
    show (if (Sum.inl a : Key) = Sum.inl k then _ else (Sum.inl a, V.int b)) :: (dkv r).map _ = (Sum.inl a, V.int b) :: dkv r
    have ha : ¬ a = k := fun z => h (by simp [z])
    rw [if_neg (fun z => ha (inl_iff.mp z)), map_notin (d := r) fun z => h (List.mem_cons_of_mem _ z)]
theorem putK_dkv {k v : Int} : ∀ {d : List (Int × Int)}, (keysI d).Nodup → putK (dkv d) (Sum.inl k) (V.int v) = dkv (putI d k v)
  | [], _ => rfl
  | (a, b) :: r, n => by
    have n' : (a :: keysI r).Nodup := n
    rw [List.nodup_cons] at n'
    have ih := putK_dkv (k := k) (v := v) (d := r) n'.2
    unfold putK at ih ⊢
    unfold putI
    by_cases h : a = k
    · subst h
      rw [if_pos rfl, if_pos (by show (decide ((Sum.inl a : Key) = Sum.inl a) || _) = true; rw [decide_eq_true rfl]; rfl)]
      show (if (Sum.inl a : Key) = Sum.inl a then (Sum.inl a, V.int v) else (Sum.inl a, V.int b)) :: (dkv r).map _ = (Sum.inl a, V.int v) :: dkv r
      rw [if_pos rfl, map_notin n'.1]
    · rw [if_neg h]
      have hd : decide ((Sum.inl a : Key) = Sum.inl k) = false := decide_eq_false fun z => h (inl_iff.mp z)
      have ea : ((dkv ((a, b) :: r)).any fun kv => decide (kv.1 = (Sum.inl k : Key))) = (dkv r).any fun kv => decide (kv.1 = (Sum.inl k : Key)) := by
        show (decide ((Sum.inl a : Key) = Sum.inl k) || _) = _
        rw [hd, Bool.false_or]
        rfl
      rw [ea]
      show _ = (Sum.inl a, V.int b) :: dkv (putI r k v)
      rw [← ih]
      split
      · show (if (Sum.inl a : Key) = Sum.inl k then (Sum.inl a, V.int v) else (Sum.inl a, V.int b)) :: (dkv r).map _ = _
        rw [if_neg fun z => h (inl_iff.mp z)]
      · rfl
theorem updD_out {g : Sg} {t left right : Int} {d : List (Int × Int)} (h : ¬ (g.first ≤ t ∧ t < g.fin)) : updD g t left right d = d := if_neg fun z => h ⟨z.1, z.2.1⟩
section
variable {P : Program} {w : World} {K : PySem.W.Frag} {mg : Str → Option Value} {base : Heap} {a : Adr}
/-! ### turns_of_place_row -/
def DsAt (G : Hp) (da : List Addr) (ds : Nat → List (Int × Int)) : Prop := ∀ (j : Nat) (r : Addr), da[j]? = some r → G r = some (.dK (dkv (ds j)))
def spTurns (a : Adr) : Sp := fun vs H Q _ => ∃ (l : Addr) (y : Nat) (left right : Int) (rs : List Addr) (gs : List Sg), vs = [.ref l, .int (y : Nat), .int left, .int right] ∧ y ≤ 511 ∧ 0 ≤ left ∧ left < right ∧ right ≤ 8192 ∧ H l = some (.lst (rs.map V.ref)) ∧ Paired (SgAt a H) rs gs ∧ gs.length ≤ 4096 ∧ (∀ g ∈ gs, SgOk g ∧ acr (16 * (y : Int)) (16 * (y : Int) + 16) g = true) ∧
  ∀ (H' : Hp) (p : Addr) (da : List Addr) (ds : Nat → List (Int × Int)), H p = none → Same H H' → H' p = some (.lst (da.map V.ref)) → da.length = 16 → DsAt H' da ds → (∀ j : Nat, j < 16 → LimOk (ds j) left right (fun s => rnd gs (16 * (y : Int) + j) s) ∧ (ds j).length ≤ 4096) → Q (.ref p) H'
theorem scTurns : FnScope ["steps", "y", "left", "right", "top", "sample_rows", "step", "first", "limits", "j", "limit", "turns", "column"] ps_turns_of_place_row (defScope st_turns_of_place_row) := ⟨rfl, rfl, rfl, by decide +kernel, rfl, by decide +kernel, by decide +kernel⟩
theorem ok_turns (T : Txt K mg a) : FnOk P w K mg base CX0 2 a.a_turns_of_place_row a.d_turns_of_place_row ps_turns_of_place_row (spTurns a) := by
  have GL := ok_lims (P := P) (w := w) (base := base) T
  refine T.f_turns_of_place_row.ok scTurns (fun vs H Q E h => ?_) (fun cdv A outer s H vs Q E hr h => ?_)
  · obtain ⟨l, y, left, right, rs, gs, rfl, _⟩ := h
    rfl
  · obtain ⟨l, y, left, right, rs, gs, rfl, hy, l0, lr, r8, hl, hrs, h4, hgs, q⟩ := h
    have hu := hu_of hr
    refine ⟨_, pss_cons (ps_set (i := 4) scTurns.nd rfl (Or.inl rfl) (pe_op op_mul (pe_gint T.k_SAMPLES) (pv 1)))
      (pss_cons (ps_setLc (i := 5) (own := [("j", 9)]) rfl scTurns.nd rfl rfl (sw_true rfl rfl rfl rfl) (pi_range1 rfl T.z_range (pa_cons (pe_gint T.k_SAMPLES) pa_nil)) (blkOk_by (by change blkC ["steps", "y", "left", "right", "top", "sample_rows", "step", "first", "limits", "j", "limit", "turns", "column"] (defScope st_turns_of_place_row) _ _ = true; decide +kernel)) (fun _ _ _ _ _ => pg_name (i := 9) scTurns.nd rfl (Or.inl rfl)) (fun _ _ _ _ _ => pts_nil) (fun _ _ _ _ _ => pe_dnewK))
      (pss_cons (ps_for PassesOwn.never rfl (pi_list (pv 0)) (pg_name (i := 6) scTurns.nd rfl (Or.inl rfl))
        (pss_cons (ps_set (i := 7) scTurns.nd rfl (Or.inl rfl) (pe_callB (call_max2 rfl) (by rfl) T.z_max (by decide +kernel) (pa_cons (pe_fld (pv 6) rfl) (pa_cons (pv 4) pa_nil))))
        (pss_cons (ps_set (i := 8) scTurns.nd rfl (Or.inl rfl) (pe_meth (pv 6) T.cl_Step T.m_Step_limits GL hr T.b_Step_limits .nil pass0 (pa_cons (pv 7) (pa_cons (pe_callB (call_min2 rfl) (by rfl) T.z_min (by decide +kernel) (pa_cons (pe_fld (pv 6) rfl) (pa_cons (pe_op op_add (pv 4) (pe_gint T.k_SAMPLES)) pa_nil))) pa_nil))))
        (pss_one (ps_for PassesOwn.never rfl (pi_enumS rfl T.z_enumerate (pv 8) (pe_op op_sub (pv 7) (pv 4))) (pg_tup rfl (pgs_cons (pg_name (i := 9) scTurns.nd rfl (Or.inl rfl)) (pgs_cons (pg_name (i := 10) scTurns.nd rfl (Or.inl rfl)) pgs_nil)))
          (pss_one (ps_if (pt_cmpR op_gt (pv 10) (pv 2) (nomark _))
            (pss_cons (ps_set (i := 11) scTurns.nd rfl (Or.inl rfl) (pe_ix ix_list (pv 5) (pv 9) (fun _ _ => rfl)))
            (pss_cons (ps_set (i := 12) scTurns.nd rfl (Or.inl rfl) (pe_callB (call_min2 rfl) (by rfl) T.z_min (by decide +kernel) (pa_cons (pv 10) (pa_cons (pv 3) pa_nil))))
            (pss_one (ps_dput hu (pv 11) (pv 12) (pe_op op_add (pe_dget2 hu (pv 11) (pv 12) pe_int ⟨rfl, rfl, rfl, rfl⟩) (pe_fld (pv 6) rfl)) rfl)))) pss_nil)))))))
      (pss_one (ps_ret (pv 5))))), ?_⟩
    refine ⟨_, rfl, _, _, rfl, rfl, .inl ⟨by decide, by decide⟩, ?_⟩
    refine ⟨16, rfl, by decide, by decide, fun D hD => ?_⟩
    refine lc_range (n := 16) (fun i G => Same H G ∧ ∃ da : List Addr, G D = some (.lst (da.map V.ref)) ∧ da.length = i ∧ da.Nodup ∧ ∀ r ∈ da, H r = none ∧ G r = some (.dK [])) ⟨same_new hD, [], upd_same, rfl, List.nodup_nil, fun r hr => by simp at hr⟩ (fun i G hi ⟨sm, da, hG, hn, nd, hda⟩ => ?_) (fun G0 ⟨sm, da, hG, hn, nd, hda⟩ => ?_)
    · refine ⟨rfl, ?_⟩
      unfold tYes
      refine iteT ?_
      intro u hu
      have nDu : D ≠ u := ne_of_none hG hu
      refine ⟨da.map V.ref, by rw [upd_ne nDu]; exact hG, ?_, fun b o e => ?_, da ++ [u], by rw [upd_same, List.map_append]; rfl, by simp [hn], ?_, fun r hr => ?_⟩
      · rw [List.length_map, hn]
        exact Nat.lt_of_lt_of_le hi (by decide)
      · rw [upd_ne (ne_of_none e hD), upd_ne (ne_of_none (sm _ _ e) hu)]
        exact sm _ _ e
      · refine List.nodup_append.mpr ⟨nd, by simp, fun x hx z hz e => ?_⟩
        have ez : z = u := by simpa using hz
        have := (hda x hx).2
        rw [e, ez, hu] at this
        cases this
      · rcases List.mem_append.mp hr with z | z
        · obtain ⟨g1, g2⟩ := hda r z
          have nrD : r ≠ D := ne_of g2 hG (by intro z; cases z)
          exact ⟨g1, by rw [upd_ne nrD, upd_ne (ne_of_none g2 hu)]; exact g2⟩
        · have z' : r = u := by simpa using z
          subst z'
          exact ⟨sm.free hu, by rw [upd_ne (Ne.symm nDu), upd_same]⟩
    · have nDr : ∀ r ∈ da, D ≠ r := fun r hr => ne_of hG (hda r hr).2 (by intro z; cases z)
      have nH : ∀ b o, H b = some o → ∀ r ∈ da, b ≠ r := fun b o e r hr => ne_of_none e (hda r hr).1
      have hl0 := sm _ _ hl
      refine ⟨_, rfl, l, rfl, ⟨_, SqL.of hl0⟩, ?_⟩
      refine for_list (K := K) (xs := rs.map V.ref) (fun i σ G => ∃ (v6 v7 v8 v9 v10 v11 v12 : Option V) (ds : Nat → List (Int × Int)), σ = [some (.ref l), some (.int y), some (.int left), some (.int right), some (.int (16 * (y : Int))), some (.ref D), v6, v7, v8, v9, v10, v11, v12] ∧ (∀ b o, G0 b = some o → (∀ r ∈ da, b ≠ r) → G b = some o) ∧ DsAt G da ds ∧ ∀ j : Nat, j < 16 → LimOk (ds j) left right (fun s => rnd (gs.take i) (16 * (y : Int) + j) s) ∧ (ds j).length ≤ i)
        ⟨_, _, _, _, _, _, _, fun _ => [], rfl, fun b o e _ => e, fun j r hj => (hda r (List.mem_of_getElem? hj)).2, fun j hj => ⟨.nil fun s _ _ => rfl, Nat.le_refl _⟩⟩ (fun i σ G _ h => by obtain ⟨_, _, _, _, _, _, _, _, _, k, _⟩ := h; exact SqL.of (k _ _ hl0 (nH _ _ hl))) ?_ ?_
      · rintro i x σ G hx ⟨v6, v7, v8, v9, v10, v11, v12, ds, rfl, k1, hds, hlim⟩
        rw [List.getElem?_map] at hx
        cases ht : rs[i]? with
        | none => rw [ht] at hx; cases hx
        | some t =>
          rw [ht] at hx
          have ex : V.ref t = x := Option.some.inj hx
          subst ex
          obtain ⟨g, hg, dx, hins⟩ := paired_getL hrs ht
          obtain ⟨ok, hacr⟩ := hgs g (List.mem_of_getElem? hg)
          have hacr' := of_decide_eq_true hacr
          have ff0 := ok.f0
          have ff1 := ok.f1
          have hil : i < 4096 := by
            have := (List.getElem?_eq_some_iff.mp hg).1
            omega
          have hinsG := k1 _ _ (sm _ _ hins) (nH _ _ hins)
          have emax : (if 16 * (y : Int) > g.first then 16 * (y : Int) else g.first) = max g.first (16 * (y : Int)) := by split <;> omega
          have emin : (if 16 * (y : Int) + 16 < g.fin then 16 * (y : Int) + 16 else g.fin) = min g.fin (16 * (y : Int) + 16) := by split <;> omega
          refine ⟨_, rfl, t, _, dx, _, _, rfl, hinsG, T.cl_Step, T.n_Step_first, sf_first, _, rfl, _, _, rfl, ?_⟩
          rw [emax]
          refine ⟨_, rfl, t, dx, _, rfl, hinsG, sf_no, _, rfl, _, rfl, t, _, dx, _, _, rfl, hinsG, T.cl_Step, T.n_Step_end, sf_end, _, rfl, _, _, rfl, rfl, _, _, rfl, ?_⟩
          rw [emin]
          refine ⟨t, g, _, _, rfl, ⟨dx, hinsG⟩, ok, ok.sc (by omega), by omega, by omega, by omega, by omega, fun G1 lm hlm s1 hG1 => ?_⟩
          obtain ⟨f0, hf0⟩ : ∃ f0 : Nat, max g.first (16 * (y : Int)) - 16 * (y : Int) = (f0 : Int) := ⟨(max g.first (16 * (y : Int)) - 16 * (y : Int)).toNat, by omega⟩
          have k1' : ∀ b o, G0 b = some o → (∀ r ∈ da, b ≠ r) → G1 b = some o := fun b o e ne => s1 _ _ (k1 b o e ne)
          have lmr : ∀ r ∈ da, lm ≠ r := fun r hr e => by
            obtain ⟨j, hj⟩ := List.mem_iff_getElem?.mp hr
            have := hds j r hj
            rw [← e, hlm] at this
            cases this
          refine ⟨_, rfl, _, rfl, _, rfl, _, _, rfl, rfl, lm, _, f0, rfl, by show V.int (max g.first (16 * (y : Int)) - 16 * (y : Int)) = _; rw [hf0], by omega, SqL.of hG1, ?_⟩
          refine for_enumS (K := K) (st := f0) (xs := ((List.range (min g.fin (16 * (y : Int) + 16) - max g.first (16 * (y : Int))).toNat).map fun i => lim g (max g.first (16 * (y : Int)) + (i : Nat))).map V.int) (fun m σ G2 => ∃ (v9 v10 v11 v12 : Option V), σ = [some (.ref l), some (.int y), some (.int left), some (.int right), some (.int (16 * (y : Int))), some (.ref D), some (.ref t), some (.int (max g.first (16 * (y : Int)))), some (.ref lm), v9, v10, v11, v12] ∧ (∀ b o, G1 b = some o → (∀ r ∈ da, b ≠ r) → G2 b = some o) ∧ DsAt G2 da (fun j => if j < f0 + m then updD g (16 * (y : Int) + j) left right (ds j) else ds j)) ⟨v9, v10, v11, v12, rfl, fun b o e _ => e, fun j r hj => ?_⟩ (fun m σ G2 _ h => by obtain ⟨_, _, _, _, _, k, _⟩ := h; exact SqL.of (k _ _ hG1 lmr)) ?_ ?_
          · dsimp only
            rw [show (if j < f0 + 0 then updD g (16 * (y : Int) + j) left right (ds j) else ds j) = ds j by
              split
              · exact updD_out (by omega)
              · rfl]
            exact s1 _ _ (hds j r hj)
          · rintro m x tt σ G2 hx ht2 ⟨w9, w10, w11, w12, rfl, k2, hds2⟩
            rw [List.getElem?_map, List.getElem?_map] at hx
            have hm : m < (min g.fin (16 * (y : Int) + 16) - max g.first (16 * (y : Int))).toNat := by
              by_cases z : m < (min g.fin (16 * (y : Int) + 16) - max g.first (16 * (y : Int))).toNat
              · exact z
              · rw [List.getElem?_eq_none (by rw [List.length_range]; omega)] at hx
                cases hx
            rw [List.getElem?_range hm] at hx
            have ex : V.int (lim g (max g.first (16 * (y : Int)) + (m : Nat))) = x := Option.some.inj hx
            subst ex
            have et : max g.first (16 * (y : Int)) + (m : Nat) = 16 * (y : Int) + ((f0 + m : Nat) : Int) := by omega
            rw [et]
            have hjl : f0 + m < da.length := by omega
            obtain ⟨r, hr'⟩ : ∃ r, da[f0 + m]? = some r := ⟨_, List.getElem?_eq_getElem hjl⟩
            have hrm := List.mem_of_getElem? hr'
            have s2 := same_new (o := .tup [.int ((f0 + m : Nat) : Int), .int (lim g (16 * (y : Int) + ((f0 + m : Nat) : Int)))]) ht2
            have hdr := s2 _ _ (hds2 _ r hr')
            dsimp only at hdr
            rw [if_neg (by omega)] at hdr
            have k2' : ∀ b o, G1 b = some o → (∀ r ∈ da, b ≠ r) → upd G2 tt (.tup [.int ((f0 + m : Nat) : Int), .int (lim g (16 * (y : Int) + ((f0 + m : Nat) : Int)))]) b = some o := fun b o e ne => s2 _ _ (k2 b o e ne)
            refine ⟨tt, _, rfl, SqT.of upd_same, rfl, _, _, rfl, _, _, rfl, rfl, ?_⟩
            refine ⟨_, rfl, _, rfl, _, _, rfl, rfl, _, rfl, ?_⟩
            obtain ⟨hL, hlen⟩ := hlim (f0 + m) (by omega)
            refine ite2 (fun e => ?_) (fun e => ?_)
            · have e' := of_decide_eq_true e
              refine ⟨_, rfl, _, rfl, D, da.map V.ref, _, V.ref r, rfl, rfl, SqL.of (k2' _ _ (s1 _ _ (k1 _ _ hG nDr)) nDr), at_of (j := f0 + m) rfl (by rw [List.getElem?_map, hr']; rfl), ?_⟩
              refine ⟨_, rfl, _, rfl, _, _, rfl, ?_⟩
              refine ⟨_, rfl, r, rfl, .inl ⟨_, .inl hdr⟩, _, rfl, _, DGet.k (k := Sum.inl (if right < lim g (16 * (y : Int) + ((f0 + m : Nat) : Int)) then right else lim g (16 * (y : Int) + ((f0 + m : Nat) : Int)))) hdr, _, rfl, t, _, dx, _, _, rfl, k2' _ _ (s1 _ _ hinsG) (nH _ _ hins), T.cl_Step, T.n_Step_turn, sf_turn, _, _, get0_dkv _ _, rfl, _, rfl, _, rfl, r, _, rfl, DPut.k (k := Sum.inl (if right < lim g (16 * (y : Int) + ((f0 + m : Nat) : Int)) then right else lim g (16 * (y : Int) + ((f0 + m : Nat) : Int)))) hdr ?_, ?_⟩
              · show (dkv (ds (f0 + m))).length < sizeLine
                unfold dkv
                rw [List.length_map]
                exact Nat.lt_of_le_of_lt (show (ds (f0 + m)).length ≤ 4096 by omega) (by decide)
              · refine ⟨_, _, _, _, rfl, fun b o e2 ne => ?_, fun j r2 hj => ?_⟩
                · rw [upd_ne (ne r hrm)]
                  exact k2' b o e2 ne
                · dsimp only
                  by_cases ej : j = f0 + m
                  · subst ej
                    have er : r2 = r := Option.some.inj (hj.symm.trans hr')
                    subst er
                    have eT : (if f0 + m < f0 + (m + 1) then updD g (16 * (y : Int) + ((f0 + m : Nat) : Int)) left right (ds (f0 + m)) else ds (f0 + m)) = bump (ds (f0 + m)) (if right < lim g (16 * (y : Int) + ((f0 + m : Nat) : Int)) then right else lim g (16 * (y : Int) + ((f0 + m : Nat) : Int))) g.turn := by
                      rw [if_pos (show f0 + m < f0 + (m + 1) by omega)]
                      unfold updD
                      exact if_pos ⟨by omega, by omega, e'⟩
                    rw [upd_same, putK_dkv hL.nd, eT]
                    rfl
                  · have ner : r2 ≠ r := fun z => ej (nodup_get nd hj (z ▸ hr'))
                    rw [upd_ne ner]
                    have e3 := s2 _ _ (hds2 j r2 hj)
                    dsimp only at e3
                    by_cases z : j < f0 + m
                    · rw [if_pos z] at e3
                      rw [if_pos (by omega)]
                      exact e3
                    · rw [if_neg z] at e3
                      rw [if_neg (by omega)]
                      exact e3
            · have e' : ¬ left < lim g (16 * (y : Int) + ((f0 + m : Nat) : Int)) := fun z => e (decide_eq_true z)
              refine ⟨_, _, _, _, rfl, k2', fun j r2 hj => ?_⟩
              dsimp only
              have e3 := s2 _ _ (hds2 j r2 hj)
              dsimp only at e3
              by_cases ej : j = f0 + m
              · subst ej
                rw [if_neg (by omega)] at e3
                rw [if_pos (by omega)]
                unfold updD
                rw [if_neg fun z => e' z.2.2]
                exact e3
              · by_cases z : j < f0 + m
                · rw [if_pos z] at e3
                  rw [if_pos (by omega)]
                  exact e3
                · rw [if_neg z] at e3
                  rw [if_neg (by omega)]
                  exact e3
          · rintro σ G2 ⟨w9, w10, w11, w12, rfl, k2, hds2⟩
            rw [List.length_map, List.length_map, List.length_range] at hds2
            refine ⟨_, _, _, _, _, _, _, fun j => updD g (16 * (y : Int) + j) left right (ds j), rfl, fun b o e ne => k2 _ _ (k1' b o e ne) ne, fun j r hj => ?_, fun j hj => ?_⟩
            · have e3 := hds2 j r hj
              dsimp only at e3 ⊢
              have hj16 : j < 16 := by
                have := (List.getElem?_eq_some_iff.mp hj).1
                omega
              by_cases z : j < f0 + (min g.fin (16 * (y : Int) + 16) - max g.first (16 * (y : Int))).toNat
              · rw [if_pos z] at e3
                exact e3
              · rw [if_neg z] at e3
                rw [updD_out (by omega)]
                exact e3
            · obtain ⟨hL, hlen⟩ := hlim j hj
              refine ⟨(hL.upd lr).congr fun s _ _ => ?_, Nat.le_trans updD_len (by omega)⟩
              rw [List.take_add_one, hg]
              exact (rnd_snoc _ _ _ _).symm
      · rintro σ G ⟨v6, v7, v8, v9, v10, v11, v12, ds, rfl, k1, hds, hlim⟩
        rw [List.length_map, paired_len hrs, List.take_length] at hlim
        refine ⟨_, rfl, q G D da ds hD (fun b o e => k1 _ _ (sm _ _ e) (nH _ _ e)) (k1 _ _ hG nDr) hn hds fun j hj => ⟨(hlim j hj).1, Nat.le_trans (hlim j hj).2 h4⟩⟩
end
end Of
set_option Elab.async false
set_option linter.all false
set_option maxRecDepth 100000
set_option maxHeartbeats 2000000
namespace Of
open PySem PySem.Spec PyProof.Rows L2
theorem and_all (x : Int) : Builtin.bitAnd x (-1) = x := by
  unfold Builtin.bitAnd
  have h1 : Builtin.bitNot (-1) = 0 := by decide
  by_cases h : 0 ≤ x
  · rw [decide_eq_true h, show decide ((0 : Int) ≤ -1) = false by decide]
    simp only [h1]
    simp
  · rw [decide_eq_false h, show decide ((0 : Int) ≤ -1) = false by decide]
    simp only [h1]
    unfold Builtin.bitNot
    simp
    omega
def bitsI (rule : Nat) : Int := if rule = 0 then -1 else 1
theorem inside_bits {rule : Nat} (h : rule ≤ 1) (x : Int) : (!decide (V.int (Builtin.bitAnd x (bitsI rule)) = V.int 0)) = Sw24.inside rule x := by
  have e : rule = 0 ∨ rule = 1 := by omega
  unfold bitsI Sw24.inside
  rcases e with e | e <;> subst e
  · rw [if_pos rfl, if_pos rfl, and_all, dec_int]
    rfl
  · rw [if_neg (by decide), if_neg (by decide), bitAnd_m1, dec_int]
    rfl
def SpAt (H : Hp) (t : Addr) (e : Int × Int) : Prop := H t = some (.tup [.int e.1, .int e.2])
theorem head_next {ks : List Int} {left : Int} {i : Nat} {k : Int} (h : ks[i]? = some k) : (ks.drop 1 ++ [left])[i]? = some ((ks.drop (i + 1)).headD left) := by
  have hi := (List.getElem?_eq_some_iff.mp h).1
  by_cases z : i + 1 < ks.length
  · rw [List.getElem?_append_left (by rw [List.length_drop]; omega), List.getElem?_drop, show 1 + i = i + 1 by omega, List.getElem?_eq_getElem z, List.drop_eq_getElem_cons z]
    rfl
  · have hn : ks.drop (i + 1) = [] := List.drop_eq_nil_of_le (by omega)
    rw [hn, List.getElem?_append_right (by rw [List.length_drop]; omega), show i - (ks.drop 1).length = 0 by rw [List.length_drop]; omega]
    rfl
section
variable {P : Program} {w : World} {K : PySem.W.Frag} {mg : Str → Option Value} {base : Heap} {a : Adr}
/-! ### spans_within -/
def spSpans : Sp := fun vs H Q _ => ∃ (d : Addr) (rule : Nat) (left right : Int) (t : List (Int × Int)) (W : Int → Int), vs = [.ref d, .int (rule : Nat), .int left] ∧ rule ≤ 1 ∧ H d = some (.dK (dkv t)) ∧ LimOk t left right W ∧ t.length ≤ 4096 ∧
  ∀ (H' : Hp) (p : Addr) (ts : List Addr) (sp : List (Int × Int)), H p = none → Same H H' → H' p = some (.lst (ts.map V.ref)) → Paired (SpAt H') ts sp → SpOk sp left right (fun s => ind (Sw24.inside rule (W s))) → sp.length ≤ 4096 → Q (.ref p) H'
theorem scSpans : FnScope ["turns", "rule", "left", "bits", "limits", "spans", "rounds", "start", "end"] ps_spans_within (defScope st_spans_within) := ⟨rfl, rfl, rfl, by decide +kernel, rfl, by decide +kernel, by decide +kernel⟩
theorem ok_spans (T : Txt K mg a) : FnOk P w K mg base CX0 1 a.a_spans_within a.d_spans_within ps_spans_within spSpans := by
  refine T.f_spans_within.ok scSpans (fun vs H Q E h => ?_) (fun cdv A outer s H vs Q E hr h => ?_)
  · obtain ⟨d, rule, left, right, t, W, rfl, _⟩ := h
    rfl
  · obtain ⟨d, rule, left, right, t, W, rfl, hrule, hd, hL, h4, q⟩ := h
    have hu := hu_of hr
    refine ⟨_, pss_cons (ps_set (i := 3) scSpans.nd rfl (Or.inl rfl) (pe_ix ix_tup (pe_glob (v := V.ref a.t_TELLING_BITS) rfl T.gt_TELLING_BITS rfl) (pv 1) (fun _ _ => rfl)))
      (pss_cons (ps_set (i := 4) scSpans.nd rfl (Or.inl rfl) (pe_sortR rfl rfl T.z_sorted (pv 0)))
      (pss_cons (ps_set (i := 5) scSpans.nd rfl (Or.inl rfl) (pe_lst pa_nil))
      (pss_cons (ps_set (i := 6) scSpans.nd rfl (Or.inl rfl) pe_int)
      (pss_cons (ps_for PassesOwn.never rfl (pi_zip rfl T.z_zip (pa_cons (pe_op op_cat (pe_slice sl_list (pv 4) (po_some pe_int) po_none) (pe_lst (pa_cons (pv 2) pa_nil))) (pa_cons (pv 4) pa_nil))) (pg_tup rfl (pgs_cons (pg_name (i := 7) scSpans.nd rfl (Or.inl rfl)) (pgs_cons (pg_name (i := 8) scSpans.nd rfl (Or.inl rfl)) pgs_nil)))
        (pss_cons (ps_aug (i := 6) scSpans.nd rfl (Or.inl rfl) (pe_dget hu (pv 0) (pv 8) (fun _ _ => rfl)) in_add)
        (pss_one (ps_if (pt_cmpR op_ne (pe_op op_and (pv 6) (pv 3)) pe_int (nomark _))
          (pss_one (ps_expr (pe_bm PySem.F.plainAttrs_list PySem.F.slot_list_append PySem.F.type_list_append mt_append (pv 5) (pa_cons (pe_tup (pa_cons (pv 7) (pa_cons (pv 8) pa_nil))) pa_nil)))) pss_nil))))
      (pss_one (ps_ret (pv 5))))))), ?_⟩
    refine ⟨_, rfl, a.t_TELLING_BITS, _, _, V.int (bitsI rule), rfl, rfl, T.t_TELLING_BITS H, ?_, ?_⟩
    · have e : rule = 0 ∨ rule = 1 := by omega
      rcases e with e | e <;> subst e <;> rfl
    · refine ⟨_, rfl, d, dkv t, keysI t, rfl, hd, dkv_keys t, fun ks pk hperm hord hpk => ?_⟩
      have lk : ks.length ≤ 4096 := by
        rw [hperm.length_eq, List.length_map]
        exact h4
      have hstr := strict_of hord (hperm.nodup_iff.mpr hL.nd)
      have s0 := same_new (o := .lst (ks.map V.int)) hpk
      refine ⟨Nat.zero_le _, fun p hp => ?_⟩
      have hp0 := s0.free hp
      have s1 := s0.trans (same_new (o := .lst []) hp)
      have hk1 : upd (upd H pk (.lst (ks.map V.int))) p (.lst []) pk = some (.lst (ks.map V.int)) := same_new hp _ _ upd_same
      generalize hG1 : upd (upd H pk (.lst (ks.map V.int))) p (.lst []) = G1 at *
      have hp1 : G1 p = some (.lst []) := by rw [← hG1, upd_same]
      have ec : cutV (ks.map V.int) (some 1) none = (ks.drop 1).map V.int := by
        by_cases z : 1 ≤ ks.length
        · rw [List.map_drop]
          exact cut_drop (x := 1) (by rw [List.length_map]; exact z)
        · have e0 : ks = [] := List.length_eq_zero_iff.mp (by omega)
          rw [e0]
          rfl
      refine ⟨_, rfl, _, rfl, pk, _, rfl, SqL.of hk1, fun u1 h1 => ?_⟩
      rw [ec]
      refine ⟨_, rfl, by show 1 ≤ sizeLine; decide, fun u2 h2 => ?_⟩
      have s2 : Same G1 (upd (upd G1 u1 (.lst ((ks.drop 1).map V.int))) u2 (.lst [.int left])) := (same_new h1).trans (same_new h2)
      refine ⟨u1, u2, _, _, rfl, rfl, same_new h2 _ _ upd_same, upd_same, ?_, fun u3 h3 => ?_⟩
      · rw [List.length_map, List.length_drop]
        exact Nat.le_trans (show ks.length - 1 + 1 ≤ 4097 by omega) (by decide)
      · rw [show (ks.drop 1).map V.int ++ [V.int left] = (ks.drop 1 ++ [left]).map V.int by rw [List.map_append]; rfl]
        generalize hG2 : upd (upd (upd G1 u1 _) u2 (.lst [.int left])) u3 (.lst ((ks.drop 1 ++ [left]).map V.int)) = G2
        have s3 : Same G1 G2 := by
          rw [← hG2]
          exact s2.trans (same_new h3)
        have hu3 : G2 u3 = some (.lst ((ks.drop 1 ++ [left]).map V.int)) := by rw [← hG2, upd_same]
        have npk3 : p ≠ pk := Ne.symm (ne_of_none upd_same hp)
        have npu3 : p ≠ u3 := fun e => by
          have hf := s2.free h3
          rw [← e, hp1] at hf
          cases hf
        refine ⟨_, rfl, u3, pk, _, _, rfl, SqL.of hu3, SqL.of (s3 _ _ hk1), ?_⟩
        have hmin : ks.length = min ((ks.drop 1 ++ [left]).map V.int).length (ks.map V.int).length := by
          rw [List.length_map, List.length_map, List.length_append, List.length_drop]
          simp
          omega
        refine for_zip (K := K) (n := ks.length) (xs := (ks.drop 1 ++ [left]).map V.int) (ys := ks.map V.int) (fun i σ G => ∃ (v7 v8 : Option V) (acc : Int) (ts : List Addr) (sp : List (Int × Int)), σ = [some (.ref d), some (.int rule), some (.int left), some (.int (bitsI rule)), some (.ref pk), some (.ref p), some (.int acc), v7, v8] ∧ (∀ b o, G2 b = some o → b ≠ p → G b = some o) ∧ G p = some (.lst (ts.map V.ref)) ∧ Paired (SpAt G) ts sp ∧ sp.length ≤ i ∧ sp ++ spansF rule left (vI t) (ks.drop i) acc = spansF rule left (vI t) ks 0) hmin ⟨none, none, 0, [], [], rfl, fun b o e _ => e, s3 _ _ hp1, .nil, Nat.le_refl _, rfl⟩ (fun i σ G _ h => by obtain ⟨_, _, _, _, _, _, k, _⟩ := h; exact ⟨SqL.of (k _ _ hu3 (Ne.symm npu3)), SqL.of (k _ _ (s3 _ _ hk1) (Ne.symm npk3))⟩) ?_ ?_
        · rintro i x z tt σ G hx hz htt ⟨v7, v8, acc, ts, sp, rfl, k1, hG, hts, hlen, heq⟩
          rw [List.getElem?_map] at hx hz
          cases hki : ks[i]? with
          | none => rw [hki] at hz; cases hz
          | some k =>
            rw [hki] at hz
            have ez : V.int k = z := Option.some.inj hz
            subst ez
            rw [head_next hki] at hx
            have ex : V.int ((ks.drop (i + 1)).headD left) = x := Option.some.inj hx
            subst ex
            have hi := (List.getElem?_eq_some_iff.mp hki).1
            have hdr : ks.drop i = k :: ks.drop (i + 1) := by
              rw [List.drop_eq_getElem_cons hi]
              congr 1
              rw [List.getElem?_eq_getElem hi] at hki
              exact Option.some.inj hki
            have s4 := same_new (o := .tup [.int ((ks.drop (i + 1)).headD left), .int k]) htt
            refine ⟨tt, _, rfl, SqT.of upd_same, rfl, _, _, rfl, _, _, rfl, rfl, ?_⟩
            have hdG := s4 _ _ (k1 _ _ (s3 _ _ (s1 _ _ hd)) (ne_of_none hd hp0))
            have hgk : getI t k = some (vI t k) := getI_some (hperm.mem_iff.mp (List.mem_of_getElem? hki)) hL.nd
            have hval : DGet (upd G tt (.tup [.int ((ks.drop (i + 1)).headD left), .int k])) d (V.int k) (some (V.int (vI t k))) := by
              have z := DGet.k (k := Sum.inl k) hdG
              rw [valV_dkv, hgk] at z
              exact z
            refine ⟨_, rfl, _, rfl, _, rfl, d, _, rfl, hval, _, _, rfl, rfl, ?_⟩
            refine ⟨_, rfl, _, rfl, _, _, rfl, rfl, rfl, _, rfl, ?_⟩
            rw [hdr] at heq
            have ef : spansF rule left (vI t) (k :: ks.drop (i + 1)) acc = if Sw24.inside rule (acc + vI t k) = true then ((ks.drop (i + 1)).headD left, k) :: spansF rule left (vI t) (ks.drop (i + 1)) (acc + vI t k) else spansF rule left (vI t) (ks.drop (i + 1)) (acc + vI t k) := rfl
            rw [ef] at heq
            have lts := paired_len hts
            have hG4 := s4 _ _ hG
            have hts4 : Paired (SpAt (upd G tt (.tup [.int ((ks.drop (i + 1)).headD left), .int k]))) ts sp := Paired.mapP hts fun r e z => s4 _ _ z
            have k4 : ∀ b o, G2 b = some o → b ≠ p → upd G tt (.tup [.int ((ks.drop (i + 1)).headD left), .int k]) b = some o := fun b o e ne => s4 _ _ (k1 b o e ne)
            generalize upd G tt (.tup [.int ((ks.drop (i + 1)).headD left), .int k]) = G4 at *
            refine ite2 (fun e => ?_) (fun e => ?_)
            · have e' : Sw24.inside rule (acc + vI t k) = true := (inside_bits hrule _) ▸ e
              rw [if_pos e'] at heq
              refine ⟨_, rfl, .inl ⟨rfl, _, SqL.of hG4⟩, _, rfl, _, rfl, by show 2 ≤ sizeLine; decide, fun u hu' => ?_⟩
              have npu : p ≠ u := ne_of_none hG4 hu'
              refine ⟨p, _, _, rfl, rfl, by rw [upd_ne npu]; exact hG4, ?_, _, _, _, ts ++ [u], sp ++ [((ks.drop (i + 1)).headD left, k)], rfl, fun b o e2 ne => ?_, by rw [upd_same, List.map_append]; rfl, ?_, ?_, ?_⟩
              · rw [List.length_map]
                exact Nat.lt_of_le_of_lt (show ts.length ≤ 4096 by omega) (by decide)
              · have z := k4 b o e2 ne
                rw [upd_ne ne, upd_ne (ne_of_none z hu')]
                exact z
              · refine paired_snoc (Paired.mapP hts4 fun r e z => ?_) ?_
                · show upd (upd G4 u _) p _ r = _
                  rw [upd_ne (ne_of z hG4 (by intro q; cases q)), upd_ne (ne_of_none z hu')]
                  exact z
                · show upd (upd G4 u _) p _ u = _
                  rw [upd_ne (Ne.symm npu), upd_same]
              · rw [List.length_append]
                simp
                omega
              · rw [List.append_assoc]
                exact heq
            · have e' : ¬ Sw24.inside rule (acc + vI t k) = true := (inside_bits hrule _) ▸ e
              rw [if_neg e'] at heq
              exact ⟨_, _, _, ts, sp, rfl, k4, hG4, hts4, by omega, heq⟩
        · rintro σ G ⟨v7, v8, acc, ts, sp, rfl, k1, hG, hts, hlen, heq⟩
          rw [List.drop_length] at heq
          have e2 : spansF rule left (vI t) [] acc = [] := rfl
          rw [e2, List.append_nil] at heq
          refine ⟨_, rfl, q G p ts sp hp0 (fun b o e => k1 _ _ (s3 _ _ (s1 _ _ e)) (ne_of_none e hp0)) hG hts ?_ (by omega)⟩
          rw [heq]
          exact ⟨fun e he => spansF_in hstr (fun k hk => hL.bd k (hperm.mem_iff.mp hk)) he, fun s h1 h2 => spansF_row hL hperm hstr h1 h2⟩
end
end Of
set_option Elab.async false
set_option linter.all false
set_option maxRecDepth 100000
set_option maxHeartbeats 2000000
namespace Of
open PySem PySem.Spec PyProof.Rows L2
theorem pg_tupK {X : Cx} {es : List Expr} {k : Nat} {t : TGs} {n : Nat} {pos : Pos} (K : PySem.W.Frag) (hc : X.calm = true) (h : PGs X es t) (e : X.K = K := by rfl) (hn : (assignEach es X.env).length = n := by rfl) (hst : (assignEach es X.env).findIdx? (·.1) = none := by rfl) : PG X (.Tuple es k pos) (gTup K n t) := e ▸ pg_tup hc h hn hst
section
variable {P : Program} {w : World} {K : PySem.W.Frag} {mg : Str → Option Value} {base : Heap} {a : Adr}
/-! ### spans_of_place_row -/
def spSpRow (a : Adr) : Sp := fun vs H Q _ => ∃ (l : Addr) (rule y : Nat) (left right : Int) (rs : List Addr) (gs : List Sg), vs = [.ref l, .int (rule : Nat), .int (y : Nat), .int left, .int right] ∧ rule ≤ 1 ∧ y ≤ 511 ∧ 0 ≤ left ∧ left < right ∧ right ≤ 8192 ∧ H l = some (.lst (rs.map V.ref)) ∧ Paired (SgAt a H) rs gs ∧ gs.length ≤ 4096 ∧ (∀ g ∈ gs, SgOk g ∧ acr (16 * (y : Int)) (16 * (y : Int) + 16) g = true) ∧
  ∀ (H' : Hp) (p : Addr) (ts : List Addr) (sp : List (Int × Int)), H p = none → Same H H' → H' p = some (.lst (ts.map V.ref)) → Paired (SpAt H') ts sp → SpOk sp left right (colN rule gs y) → sp.length ≤ 65536 → Q (.ref p) H'
theorem scSpRow : FnScope ["steps", "rule", "y", "left", "right", "spans", "turns"] ps_spans_of_place_row (defScope st_spans_of_place_row) := ⟨rfl, rfl, rfl, by decide +kernel, rfl, by decide +kernel, by decide +kernel⟩
theorem ok_sprow (T : Txt K mg a) : FnOk P w K mg base CX0 3 a.a_spans_of_place_row a.d_spans_of_place_row ps_spans_of_place_row (spSpRow a) := by
  have GT := ok_turns (P := P) (w := w) (base := base) T
  have GS := ok_spans (P := P) (w := w) (base := base) T
  refine T.f_spans_of_place_row.ok scSpRow (fun vs H Q E h => ?_) (fun cdv A outer s H vs Q E hr h => ?_)
  · obtain ⟨l, rule, y, left, right, rs, gs, rfl, _⟩ := h
    rfl
  · obtain ⟨l, rule, y, left, right, rs, gs, rfl, hrule, hy, l0, lr, r8, hl, hrs, h4, hgs, q⟩ := h
    have hr1 : Room 1 _ := hr.mono (show 1 ≤ 2 by decide)
    refine ⟨_, pss_cons (ps_set (i := 5) scSpRow.nd rfl (Or.inl rfl) (pe_lst pa_nil))
      (pss_cons (ps_for PassesOwn.never rfl (pi_list (pe_call GT hr rfl T.g_turns_of_place_row T.f_turns_of_place_row.kp T.b_turns_of_place_row .nil pass0 (pa_cons (pv 0) (pa_cons (pv 2) (pa_cons (pv 3) (pa_cons (pv 4) pa_nil)))))) (pg_name (i := 6) scSpRow.nd rfl (Or.inl rfl))
        (pss_one (ps_expr (pe_bm PySem.F.plainAttrs_list PySem.F.slot_list_extend PySem.F.type_list_extend mt_extend (pv 5) (pa_cons (pe_call GS hr1 rfl T.g_spans_within T.f_spans_within.kp T.b_spans_within .nil pass0 (pa_cons (pv 6) (pa_cons (pv 1) (pa_cons (pv 3) pa_nil)))) pa_nil)))))
      (pss_one (ps_ret (pv 5)))), ?_⟩
    refine ⟨Nat.zero_le _, fun p hp => ?_⟩
    have s0 : Same H (upd H p (.lst [])) := same_new hp
    have hp1 : upd H p (.lst []) p = some (.lst []) := upd_same
    generalize upd H p (.lst []) = H1 at *
    refine ⟨_, rfl, _, rfl, _, rfl, _, rfl, l, y, left, right, rs, gs, rfl, hy, l0, lr, r8, s0 _ _ hl, Paired.mapP hrs fun r g e => e.same s0, h4, hgs, fun G0 pd da ds hpd s1 hd hdl hds hlim => ?_⟩
    have npd : p ≠ pd := ne_of_none hp1 hpd
    have npr : ∀ j r, da[j]? = some r → r ≠ p := fun j r hj => ne_of (hds j r hj) (s1 _ _ hp1) (by intro z; cases z)
    refine ⟨pd, rfl, ⟨_, SqL.of hd⟩, ?_⟩
    refine for_list (K := K) (xs := da.map V.ref) (fun i σ G => ∃ (v6 : Option V) (ts : List Addr) (sp : List (Int × Int)), σ = [some (.ref l), some (.int rule), some (.int y), some (.int left), some (.int right), some (.ref p), v6] ∧ (∀ b o, G0 b = some o → b ≠ p → G b = some o) ∧ G p = some (.lst (ts.map V.ref)) ∧ Paired (SpAt G) ts sp ∧ sp.length ≤ 4096 * i ∧ SpOk sp left right (fun s => sumN i fun j => ind (Sw24.inside rule (rnd gs (16 * (y : Int) + j) s)))) ⟨none, [], [], rfl, fun b o e _ => e, s1 _ _ hp1, .nil, Nat.le_refl _, ⟨fun e he => by simp at he, fun s _ _ => rfl⟩⟩ (fun i σ G _ h => by obtain ⟨_, _, _, _, k, _⟩ := h; exact SqL.of (k _ _ hd (Ne.symm npd))) ?_ ?_
    · rintro i x σ G hx ⟨v6, ts, sp, rfl, k1, hG, hts, hlen, hsp⟩
      rw [List.getElem?_map] at hx
      cases ht : da[i]? with
      | none => rw [ht] at hx; cases hx
      | some t =>
        rw [ht] at hx
        have ex : V.ref t = x := Option.some.inj hx
        subst ex
        have hi : i < 16 := by
          have := (List.getElem?_eq_some_iff.mp ht).1
          omega
        obtain ⟨hL, hln⟩ := hlim i hi
        have htG := k1 _ _ (hds i t ht) (npr i t ht)
        refine ⟨_, rfl, .inl ⟨rfl, _, SqL.of hG⟩, _, rfl, _, rfl, _, rfl, t, rule, left, right, ds i, _, rfl, hrule, htG, hL, hln, fun G1 p1 ts1 sp1 hp1' s2 e1 e2 e3 e4 => ?_⟩
        have lts := paired_len hts
        have lts1 := paired_len e2
        have hG1 := s2 _ _ hG
        refine ⟨p, p1, _, _, rfl, rfl, hG1, e1, ?_, _, ts ++ ts1, sp ++ sp1, rfl, fun b o e ne => ?_, by rw [upd_same, List.map_append], ?_, ?_, ?_⟩
        · rw [List.length_map, List.length_map]
          exact Nat.le_trans (show ts.length + ts1.length ≤ 131072 by omega) (by decide)
        · rw [upd_ne ne]
          exact s2 _ _ (k1 b o e ne)
        · have st : ∀ r e, SpAt G1 r e → SpAt (upd G1 p (.lst (ts.map V.ref ++ ts1.map V.ref))) r e := fun r e z => by
            show upd G1 p _ r = _
            rw [upd_ne (ne_of z hG1 (by intro q; cases q))]
            exact z
          exact paired_app (Paired.mapP hts fun r e z => st r e (s2 _ _ z)) (Paired.mapP e2 st)
        · rw [List.length_append]
          omega
        · have z := hsp.app e3
          refine ⟨z.bd, fun s h1 h2 => ?_⟩
          rw [z.cv s h1 h2, sumN_succ]
    · rintro σ G ⟨v6, ts, sp, rfl, k1, hG, hts, hlen, hsp⟩
      rw [List.length_map, hdl] at hlen hsp
      exact ⟨_, rfl, q G p ts sp hp (fun b o e => k1 _ _ (s1 _ _ (s0 _ _ e)) (ne_of_none e hp)) hG hts hsp (by omega)⟩
/-! ### add_columns -/
def spAddC : Sp := fun vs H Q _ => ∃ (d : Addr) (col sign : Int) (c : List (Int × Int)), vs = [.ref d, .int col, .int sign] ∧ H d = some (.dK (dkv c)) ∧ (keysI c).Nodup ∧ (sign = 1 ∨ sign = -1) ∧ c.length ≤ 1000000 ∧ Q .non (upd H d (.dK (dkv (addC c col sign))))
theorem scAddC : FnScope ["changes", "column", "sign", "x", "missing"] ps_add_columns (defScope st_add_columns) := ⟨rfl, rfl, rfl, by decide +kernel, rfl, by decide +kernel, by decide +kernel⟩
theorem ok_addc (T : Txt K mg a) : FnOk P w K mg base CX0 1 a.a_add_columns a.d_add_columns ps_add_columns spAddC := by
  refine T.f_add_columns.ok scAddC (fun vs H Q E h => ?_) (fun cdv A outer s H vs Q E hr h => ?_)
  · obtain ⟨d, col, sign, c, rfl, _⟩ := h
    rfl
  · obtain ⟨d, col, sign, c, rfl, hd, nd, hs, hlen, q⟩ := h
    have hu := hu_of hr
    refine ⟨_, pss_cons (ps_set (i := 3) scAddC.nd rfl (Or.inl rfl) (pe_op op_fdiv (pv 1) (pe_gint T.k_SAMPLES)))
      (pss_cons (ps_set (i := 4) scAddC.nd rfl (Or.inl rfl) (pe_op op_mod (pv 1) (pe_gint T.k_SAMPLES)))
      (pss_cons (ps_dput hu (pv 0) (pv 3) (pe_op op_add (pe_dget2 hu (pv 0) (pv 3) pe_int ⟨rfl, rfl, rfl, rfl⟩) (pe_op op_mul (pv 2) (pe_op op_sub (pe_gint T.k_SAMPLES) (pv 4)))) rfl)
      (pss_one (ps_dput hu (pv 0) (pe_op op_add (pv 3) pe_int) (pe_op op_add (pe_dget2 hu (pv 0) (pe_op op_add (pv 3) pe_int) pe_int ⟨rfl, rfl, rfl, rfl⟩) (pe_op op_mul (pv 2) (pv 4))) rfl)))), ?_⟩
    have sb : -(2 ^ 64) < sign ∧ sign < 2 ^ 64 := by omega
    refine ⟨_, rfl, _, _, rfl, rfl, ⟨by decide, by decide⟩, ?_⟩
    refine ⟨_, rfl, _, _, rfl, rfl, by show (0 : Int) < 16; decide, ?_⟩
    refine ⟨_, rfl, d, rfl, .inl ⟨_, .inl hd⟩, _, rfl, _, DGet.k (k := Sum.inl (col / 16)) hd, _, rfl, _, rfl, _, _, rfl, rfl, _, _, rfl, rfl, .inl sb, _, _, get0_dkv _ _, rfl, _, rfl, _, rfl, d, _, rfl, DPut.k (k := Sum.inl (col / 16)) hd ?_, ?_⟩
    · unfold dkv
      rw [List.length_map]
      exact Nat.lt_of_le_of_lt hlen (by decide)
    · rw [putK_dkv nd]
      have nd1 : (keysI (putI c (col / 16) (vI c (col / 16) + sign * (16 - col % 16)))).Nodup := putI_nodup nd
      have ln1 : (putI c (col / 16) (vI c (col / 16) + sign * (16 - col % 16))).length ≤ c.length + 1 := putI_len
      have hd1 : upd H d (.dK (dkv (putI c (col / 16) (vI c (col / 16) + sign * (16 - col % 16))))) d = some (.dK (dkv (putI c (col / 16) (vI c (col / 16) + sign * (16 - col % 16))))) := upd_same
      refine ⟨_, rfl, d, rfl, .inl ⟨_, .inl hd1⟩, _, rfl, _, _, rfl, rfl, _, DGet.k (k := Sum.inl (col / 16 + 1)) hd1, _, rfl, _, rfl, _, _, rfl, rfl, .inl sb, _, _, get0_dkv _ _, rfl, _, rfl, _, rfl, _, _, rfl, rfl, d, _, rfl, DPut.k (k := Sum.inl (col / 16 + 1)) hd1 ?_, ?_⟩
      · unfold dkv
        rw [List.length_map]
        exact Nat.lt_of_le_of_lt (Nat.le_trans ln1 (Nat.add_le_add_right hlen 1)) (by decide)
      · rw [putK_dkv nd1, upd_upd]
        exact q
end
end Of
set_option Elab.async false
set_option linter.all false
set_option maxRecDepth 100000
set_option maxHeartbeats 2000000
namespace Of
open PySem PySem.Spec PyProof.Rows L2
theorem runsF_two (f : Int → Int) (x y : Int) (r : List Int) (n : Int) : runsF f (x :: y :: r) n = if 0 < n + f x then (x, y, n + f x) :: runsF f (y :: r) (n + f x) else runsF f (y :: r) (n + f x) := rfl
theorem runsF_one (f : Int → Int) {l : List Int} (n : Int) (h : l.length ≤ 1) : runsF f l n = [] := by
  match l, h with
  | [], _ => rfl
  | [_], _ => rfl
theorem cut1 (ks : List Int) : cutV (ks.map V.int) (some 1) none = (ks.drop 1).map V.int := by
  by_cases z : 1 ≤ ks.length
  · rw [List.map_drop]
    exact cut_drop (x := 1) (by rw [List.length_map]; exact z)
  · have e0 : ks = [] := List.length_eq_zero_iff.mp (by omega)
    rw [e0]
    rfl
section
variable {P : Program} {w : World} {K : PySem.W.Frag} {mg : Str → Option Value} {base : Heap} {a : Adr}
/-! ### runs_of_place_row -/
def spRuns (a : Adr) : Sp := fun vs H Q _ => ∃ (l : Addr) (rule y wd : Nat) (rs : List Addr) (gs : List Sg), vs = [.ref l, .int (rule : Nat), .int (y : Nat), .int (wd : Nat)] ∧ rule ≤ 1 ∧ y ≤ 511 ∧ 1 ≤ wd ∧ wd ≤ 512 ∧ H l = some (.lst (rs.map V.ref)) ∧ Paired (SgAt a H) rs gs ∧ gs.length ≤ 4096 ∧ (∀ g ∈ gs, SgOk g ∧ acr (16 * (y : Int)) (16 * (y : Int) + 16) g = true) ∧
  ∀ (H' : Hp) (p : Addr) (ts : List Addr) (ru : List (Int × Int × Int)), H p = none → Same H H' → H' p = some (.lst (ts.map V.ref)) → Paired (RunAt H') ts ru → RunsOf (fun x => cvN rule gs y x) wd 0 ru → Q (.ref p) H'
theorem scRuns : FnScope ["steps", "rule", "y", "width", "changes", "start", "end", "places", "runs", "n"] ps_runs_of_place_row (defScope st_runs_of_place_row) := ⟨rfl, rfl, rfl, by decide +kernel, rfl, by decide +kernel, by decide +kernel⟩
theorem ok_runs (T : Txt K mg a) : FnOk P w K mg base CX0 4 a.a_runs_of_place_row a.d_runs_of_place_row ps_runs_of_place_row (spRuns a) := by
  have GS := ok_sprow (P := P) (w := w) (base := base) T
  have GA := ok_addc (P := P) (w := w) (base := base) T
  refine T.f_runs_of_place_row.ok scRuns (fun vs H Q E h => ?_) (fun cdv A outer s H vs Q E hr h => ?_)
  · obtain ⟨l, rule, y, wd, rs, gs, rfl, _⟩ := h
    rfl
  · obtain ⟨l, rule, y, wd, rs, gs, rfl, hrule, hy, w1, w5, hl, hrs, h4, hgs, q⟩ := h
    have hu := hu_of hr
    have hr1 : Room 1 _ := hr.mono (show 1 ≤ 3 by decide)
    refine ⟨_, pss_cons (ps_set (i := 4) scRuns.nd rfl (Or.inl rfl) pe_dnewK)
      (pss_cons (ps_for PassesOwn.never rfl (pi_list (pe_call GS hr rfl T.g_spans_of_place_row T.f_spans_of_place_row.kp T.b_spans_of_place_row .nil pass0 (pa_cons (pv 0) (pa_cons (pv 1) (pa_cons (pv 2) (pa_cons pe_int (pa_cons (pe_op op_mul (pe_gint T.k_SAMPLES) (pv 3)) pa_nil))))))) (pg_tup rfl (pgs_cons (pg_name (i := 5) scRuns.nd rfl (Or.inl rfl)) (pgs_cons (pg_name (i := 6) scRuns.nd rfl (Or.inl rfl)) pgs_nil)))
        (pss_cons (ps_expr (pe_call GA hr1 rfl T.g_add_columns T.f_add_columns.kp T.b_add_columns .nil pass0 (pa_cons (pv 4) (pa_cons (pv 5) (pa_cons pe_int pa_nil)))))
        (pss_one (ps_expr (pe_call GA hr1 rfl T.g_add_columns T.f_add_columns.kp T.b_add_columns .nil pass0 (pa_cons (pv 4) (pa_cons (pv 6) (pa_cons (pe_un un_neg pe_int) pa_nil))))))))
      (pss_cons (ps_set (i := 7) scRuns.nd rfl (Or.inl rfl) (pe_callB (cr_sortD rfl) (by rfl) T.z_sorted (by decide +kernel) (pa_cons (pv 4) pa_nil)))
      (pss_cons (ps_set (i := 8) scRuns.nd rfl (Or.inl rfl) (pe_lst pa_nil))
      (pss_cons (ps_set (i := 9) scRuns.nd rfl (Or.inl rfl) pe_int)
      (pss_cons (ps_for PassesOwn.never rfl (pi_zip rfl T.z_zip (pa_cons (pv 7) (pa_cons (pe_slice sl_list (pv 7) (po_some pe_int) po_none) pa_nil))) (pg_tup rfl (pgs_cons (pg_name (i := 5) scRuns.nd rfl (Or.inl rfl)) (pgs_cons (pg_name (i := 6) scRuns.nd rfl (Or.inl rfl)) pgs_nil)))
        (pss_cons (ps_aug (i := 9) scRuns.nd rfl (Or.inl rfl) (pe_dget hu (pv 4) (pv 5) (fun _ _ => rfl)) in_add)
        (pss_one (ps_if (pt_cmpR op_gt (pv 9) pe_int (nomark _))
          (pss_one (ps_expr (pe_bm PySem.F.plainAttrs_list PySem.F.slot_list_append PySem.F.type_list_append mt_append (pv 8) (pa_cons (pe_tup (pa_cons (pv 5) (pa_cons (pv 6) (pa_cons (pv 9) pa_nil)))) pa_nil)))) pss_nil))))
      (pss_one (ps_ret (pv 8)))))))), ?_⟩
    intro d hd
    have s0 : Same H (upd H d (.dK [])) := same_new hd
    have hd1 : upd H d (.dK []) d = some (.dK (dkv [])) := upd_same
    generalize upd H d (.dK []) = H1 at *
    refine ⟨_, rfl, _, rfl, _, rfl, _, rfl, _, _, rfl, rfl, .inl ⟨by decide, by decide⟩, l, rule, y, 0, 16 * (wd : Int), rs, gs, rfl, hrule, hy, by omega, by omega, by omega, s0 _ _ hl, Paired.mapP hrs fun r g e => e.same s0, h4, hgs, fun G0 ps ts sp hps s1 hG0 hts hsp hlen => ?_⟩
    have ndp : d ≠ ps := ne_of_none hd1 hps
    have hdG0 := s1 _ _ hd1
    have ltl := paired_len hts
    refine ⟨ps, rfl, ⟨_, SqL.of hG0⟩, ?_⟩
    refine for_list (K := K) (xs := ts.map V.ref) (fun i σ G => ∃ (v5 v6 : Option V) (c : List (Int × Int)), σ = [some (.ref l), some (.int rule), some (.int y), some (.int wd), some (.ref d), v5, v6, none, none, none] ∧ (∀ b o, G0 b = some o → b ≠ d → G b = some o) ∧ G d = some (.dK (dkv c)) ∧ c.length ≤ 4 * i ∧ ChOk c (sp.take i) wd) ⟨none, none, [], rfl, fun b o e _ => e, hdG0, Nat.le_refl _, .nil⟩ (fun i σ G _ h => by obtain ⟨_, _, _, _, k, _⟩ := h; exact SqL.of (k _ _ hG0 (Ne.symm ndp))) ?_ ?_
    · rintro i x σ G hx ⟨v5, v6, c, rfl, k1, hG, hcl, hch⟩
      rw [List.getElem?_map] at hx
      cases ht : ts[i]? with
      | none => rw [ht] at hx; cases hx
      | some t =>
        rw [ht] at hx
        have ex : V.ref t = x := Option.some.inj hx
        subst ex
        obtain ⟨e, he, htt⟩ := paired_getL hts ht
        obtain ⟨st, en⟩ := e
        have hi := (List.getElem?_eq_some_iff.mp he).1
        obtain ⟨b1, b2, b3⟩ := hsp.bd _ (List.mem_of_getElem? he)
        dsimp only at b1 b2 b3
        have nt : t ≠ d := ne_of htt hdG0 (by intro z; cases z)
        have htG := k1 _ _ htt nt
        refine ⟨t, _, rfl, SqT.of htG, rfl, _, _, rfl, _, _, rfl, rfl, ?_⟩
        refine ⟨_, rfl, _, rfl, d, st, 1, c, rfl, hG, hch.nd, .inl rfl, by omega, ?_⟩
        have l2 : (addC c st 1).length ≤ c.length + 2 := addC_len
        have l3 : (addC (addC c st 1) en (-1)).length ≤ (addC c st 1).length + 2 := addC_len
        refine ⟨_, rfl, _, rfl, _, rfl, d, en, -1, addC c st 1, rfl, upd_same, addC_nodup hch.nd, .inr rfl, by omega, ?_⟩
        rw [upd_upd]
        refine ⟨_, _, addC (addC c st 1) en (-1), rfl, fun b o e2 ne => ?_, upd_same, by omega, ?_⟩
        · rw [upd_ne ne]
          exact k1 b o e2 ne
        · rw [List.take_add_one, he]
          exact hch.add b1 b2 b3
    · rintro σ G ⟨v5, v6, c, rfl, k1, hG, hcl, hch⟩
      rw [List.length_map, ltl] at hcl hch
      rw [List.take_length] at hch
      refine ⟨_, rfl, d, dkv c, keysI c, rfl, hG, dkv_keys c, fun pl pp hperm hord hpp => ?_⟩
      have hstr := strict_up hord (hperm.nodup_iff.mpr hch.nd)
      have lpl : pl.length ≤ 262144 := by
        rw [hperm.length_eq, List.length_map]
        omega
      have sH : Same H G := fun b o e => k1 _ _ (s1 _ _ (s0 _ _ e)) (ne_of_none e hd)
      have s2 := same_new (o := .lst (pl.map V.int)) hpp
      have hpl2 : upd G pp (.lst (pl.map V.int)) pp = some (.lst (pl.map V.int)) := upd_same
      have hd2 := s2 _ _ hG
      have sH2 := sH.trans s2
      generalize upd G pp (.lst (pl.map V.int)) = G2 at *
      refine ⟨Nat.zero_le _, fun p hp => ?_⟩
      have hp0 := sH2.free hp
      have s3 := same_new (o := .lst []) hp
      have hp3 : upd G2 p (.lst []) p = some (.lst []) := upd_same
      have npp : p ≠ pp := Ne.symm (ne_of_none hpl2 hp)
      have npd : p ≠ d := Ne.symm (ne_of_none hd2 hp)
      have hpl3 := s3 _ _ hpl2
      have hd3 := s3 _ _ hd2
      have sH3 := sH2.trans s3
      generalize upd G2 p (.lst []) = G3 at *
      refine ⟨_, rfl, _, rfl, _, rfl, pp, _, rfl, SqL.of hpl3, fun u hu4 => ?_⟩
      rw [cut1]
      have s4 := same_new (o := .lst ((pl.drop 1).map V.int)) hu4
      have hu5 : upd G3 u (.lst ((pl.drop 1).map V.int)) u = some (.lst ((pl.drop 1).map V.int)) := upd_same
      have npu : p ≠ u := ne_of_none hp3 hu4
      have hp4 := s4 _ _ hp3
      have hpl4 := s4 _ _ hpl3
      have hd4 := s4 _ _ hd3
      have sH4 := sH3.trans s4
      generalize upd G3 u (.lst ((pl.drop 1).map V.int)) = G4 at *
      refine ⟨pp, u, _, _, rfl, SqL.of hpl4, SqL.of hu5, ?_⟩
      have hmin : pl.length - 1 = min (pl.map V.int).length ((pl.drop 1).map V.int).length := by
        rw [List.length_map, List.length_map, List.length_drop]
        omega
      refine for_zip (K := K) (n := pl.length - 1) (xs := pl.map V.int) (ys := (pl.drop 1).map V.int) (fun i σ G => ∃ (v5 v6 : Option V) (n : Int) (us : List Addr) (ru : List (Int × Int × Int)), σ = [some (.ref l), some (.int rule), some (.int y), some (.int wd), some (.ref d), v5, v6, some (.ref pp), some (.ref p), some (.int n)] ∧ (∀ b o, G4 b = some o → b ≠ p → G b = some o) ∧ G p = some (.lst (us.map V.ref)) ∧ Paired (RunAt G) us ru ∧ ru.length ≤ i ∧ ru ++ runsF (vI c) (pl.drop i) n = runsF (vI c) pl 0) hmin ⟨_, _, 0, [], [], rfl, fun b o e _ => e, hp4, .nil, Nat.le_refl _, rfl⟩ (fun i σ G _ h => by obtain ⟨_, _, _, _, _, _, k, _⟩ := h; exact ⟨SqL.of (k _ _ hpl4 (Ne.symm npp)), SqL.of (k _ _ hu5 (Ne.symm npu))⟩) ?_ ?_
      · rintro i x z tt σ G5 hx hz htt ⟨v5, v6, n, us, ru, rfl, k5, hG5, hus, hln, heq⟩
        rw [List.getElem?_map] at hx hz
        rw [List.getElem?_drop, show 1 + i = i + 1 by omega] at hz
        cases hxi : pl[i]? with
        | none => rw [hxi] at hx; cases hx
        | some k =>
          cases hzi : pl[i + 1]? with
          | none => rw [hzi] at hz; cases hz
          | some k' =>
            rw [hxi] at hx
            rw [hzi] at hz
            have ex : V.int k = x := Option.some.inj hx
            have ez : V.int k' = z := Option.some.inj hz
            subst ex ez
            have hi := (List.getElem?_eq_some_iff.mp hxi).1
            have hi2 := (List.getElem?_eq_some_iff.mp hzi).1
            have hdr2 : pl.drop (i + 1) = k' :: pl.drop (i + 2) := by
              rw [List.drop_eq_getElem_cons hi2]
              congr 1
              rw [List.getElem?_eq_getElem hi2] at hzi
              exact Option.some.inj hzi
            have hdr : pl.drop i = k :: pl.drop (i + 1) := by
              rw [List.drop_eq_getElem_cons hi]
              congr 1
              rw [List.getElem?_eq_getElem hi] at hxi
              exact Option.some.inj hxi
            have s6 := same_new (o := .tup [.int k, .int k']) htt
            refine ⟨tt, _, rfl, SqT.of upd_same, rfl, _, _, rfl, _, _, rfl, rfl, ?_⟩
            have hdG := s6 _ _ (k5 _ _ hd4 (Ne.symm npd))
            have hgk : getI c k = some (vI c k) := getI_some (hperm.mem_iff.mp (List.mem_of_getElem? hxi)) hch.nd
            have hval : DGet (upd G5 tt (.tup [.int k, .int k'])) d (V.int k) (some (V.int (vI c k))) := by
              have z := DGet.k (k := Sum.inl k) hdG
              rw [valV_dkv, hgk] at z
              exact z
            refine ⟨_, rfl, _, rfl, _, rfl, d, _, rfl, hval, _, _, rfl, rfl, ?_⟩
            refine ⟨_, rfl, _, _, rfl, rfl, _, rfl, ?_⟩
            rw [hdr, hdr2, runsF_two, ← hdr2] at heq
            have lus := paired_len hus
            have hG6 := s6 _ _ hG5
            have hus6 : Paired (RunAt (upd G5 tt (.tup [.int k, .int k']))) us ru := Paired.mapP hus fun r e z => s6 _ _ z
            have k6 : ∀ b o, G4 b = some o → b ≠ p → upd G5 tt (.tup [.int k, .int k']) b = some o := fun b o e ne => s6 _ _ (k5 b o e ne)
            generalize upd G5 tt (.tup [.int k, .int k']) = G6 at *
            refine ite2 (fun e => ?_) (fun e => ?_)
            · have e' := of_decide_eq_true e
              rw [if_pos e'] at heq
              refine ⟨_, rfl, .inl ⟨rfl, _, SqL.of hG6⟩, _, rfl, _, rfl, _, rfl, by show 3 ≤ sizeLine; decide, fun u' hu' => ?_⟩
              have npu' : p ≠ u' := ne_of_none hG6 hu'
              refine ⟨p, _, _, rfl, rfl, by rw [upd_ne npu']; exact hG6, ?_, _, _, _, us ++ [u'], ru ++ [(k, k', n + vI c k)], rfl, fun b o e2 ne => ?_, by rw [upd_same, List.map_append]; rfl, ?_, ?_, ?_⟩
              · rw [List.length_map]
                exact Nat.lt_of_le_of_lt (show us.length ≤ 262144 by omega) (by decide)
              · have z := k6 b o e2 ne
                rw [upd_ne ne, upd_ne (ne_of_none z hu')]
                exact z
              · refine paired_snoc (Paired.mapP hus6 fun r e z => ?_) ?_
                · show upd (upd G6 u' _) p _ r = _
                  rw [upd_ne (ne_of z hG6 (by intro q; cases q)), upd_ne (ne_of_none z hu')]
                  exact z
                · show upd (upd G6 u' _) p _ u' = _
                  rw [upd_ne (Ne.symm npu'), upd_same]
              · rw [List.length_append]
                simp
                omega
              · rw [List.append_assoc]
                exact heq
            · have e' : ¬ 0 < n + vI c k := fun z => e (decide_eq_true z)
              rw [if_neg e'] at heq
              exact ⟨_, _, _, us, ru, rfl, k6, hG6, hus6, by omega, heq⟩
      · rintro σ G5 ⟨v5, v6, n, us, ru, rfl, k5, hG5, hus, hln, heq⟩
        rw [runsF_one _ _ (by rw [List.length_drop]; omega), List.append_nil] at heq
        refine ⟨_, rfl, q G5 p us ru hp0 (fun b o e => k5 _ _ (sH4 _ _ e) (ne_of_none e hp0)) hG5 hus ?_⟩
        rw [heq]
        exact (runs_row hch hsp hperm hstr).congr (Int.le_refl 0) fun x h1 h2 => row_cvN hsp h1 h2
/-! ### samples_within -/
def spSamp (a : Adr) : Sp := fun vs H Q _ => ∃ (l : Addr) (rule x y : Nat) (ts : List Addr) (ls : List (Sw24.P × Sw24.P)), vs = [.ref l, .int (rule : Nat), .int (x : Nat), .int (y : Nat)] ∧ rule ≤ 1 ∧ x ≤ 511 ∧ y ≤ 511 ∧ H l = some (.lst (ts.map V.ref)) ∧ Paired (LnAt H) ts ls ∧ ls.length ≤ 4096 ∧ (∀ c ∈ ls, SmallL c) ∧
  ∀ H' : Hp, Same H H' → Q (.int (cvN rule (ls.map mkS) y x)) H'
theorem scSamp : FnScope ["lines", "rule", "x", "y", "steps", "spans", "start", "end"] ps_samples_within (defScope st_samples_within) := ⟨rfl, rfl, rfl, by decide +kernel, rfl, by decide +kernel, by decide +kernel⟩
theorem ok_samp (T : Txt K mg a) : FnOk P w K mg base CX0 5 a.a_samples_within a.d_samples_within ps_samples_within (spSamp a) := by
  have GA := ok_acr (P := P) (w := w) (base := base) T
  have GS := ok_sprow (P := P) (w := w) (base := base) T
  refine T.f_samples_within.ok scSamp (fun vs H Q E h => ?_) (fun cdv A outer s H vs Q E hr h => ?_)
  · obtain ⟨l, rule, x, y, ts, ls, rfl, _⟩ := h
    rfl
  · obtain ⟨l, rule, x, y, ts, ls, rfl, hrule, hx, hy, hl, hts, h4, hsm, q⟩ := h
    have hr3 : Room 3 _ := hr.mono (show 3 ≤ 4 by decide)
    refine ⟨_, pss_cons (ps_set (i := 4) scSamp.nd rfl (Or.inl rfl) (pe_call GA hr rfl T.g_steps_across T.f_steps_across.kp T.b_steps_across .nil pass0 (pa_cons (pv 0) (pa_cons (pe_op op_mul (pe_gint T.k_SAMPLES) (pv 3)) (pa_cons (pe_op op_add (pe_op op_mul (pe_gint T.k_SAMPLES) (pv 3)) (pe_gint T.k_SAMPLES)) pa_nil)))))
      (pss_cons (ps_set (i := 5) scSamp.nd rfl (Or.inl rfl) (pe_call GS hr3 rfl T.g_spans_of_place_row T.f_spans_of_place_row.kp T.b_spans_of_place_row .nil pass0 (pa_cons (pv 4) (pa_cons (pv 1) (pa_cons (pv 3) (pa_cons (pe_op op_mul (pe_gint T.k_SAMPLES) (pv 2)) (pa_cons (pe_op op_add (pe_op op_mul (pe_gint T.k_SAMPLES) (pv 2)) (pe_gint T.k_SAMPLES)) pa_nil)))))))
      (pss_one (ps_ret (pe_callB (cr_sum rfl) rfl T.z_sum (by decide +kernel) (pa_cons (pe_lc (own := [("start", 6), ("end", 7)]) rfl scSamp.nd (pi_list (pv 5)) (blkOk_by (by change blkC ["lines", "rule", "x", "y", "steps", "spans", "start", "end"] (defScope st_samples_within) _ _ = true; decide +kernel)) (fun _ _ _ _ _ => pg_tupK (n := 2) K rfl (pgs_cons (pg_name (i := 6) scSamp.nd rfl (Or.inl rfl)) (pgs_cons (pg_name (i := 7) scSamp.nd rfl (Or.inl rfl)) pgs_nil))) (fun _ _ _ _ _ => pts_nil)
        (fun _ _ _ _ _ => pe_op op_sub (pv 7) (pv 6))) pa_nil))))), ?_⟩
    refine ⟨_, rfl, _, rfl, _, _, rfl, rfl, .inl ⟨by decide, by decide⟩, _, rfl, _, _, rfl, rfl, .inl ⟨by decide, by decide⟩, _, _, rfl, rfl, l, 16 * (y : Int), 16 * (y : Int) + 16, ts, ls, rfl, hl, hts, h4, hsm, fun G0 ps rs hps s0 hG0 hrs => ?_⟩
    have lgs : ((ls.map mkS).filter (acr (16 * (y : Int)) (16 * (y : Int) + 16))).length ≤ 4096 := by
      refine Nat.le_trans (List.length_filter_le _ _) ?_
      rw [List.length_map]
      exact h4
    refine ⟨_, rfl, _, rfl, _, rfl, _, rfl, _, _, rfl, rfl, .inl ⟨by decide, by decide⟩, _, rfl, _, _, rfl, rfl, .inl ⟨by decide, by decide⟩, _, _, rfl, rfl, ps, rule, y, 16 * (x : Int), 16 * (x : Int) + 16, rs, _, rfl, hrule, hy, by omega, by omega, by omega, hG0, Paired.mapP hrs fun _ _ e => e.2, lgs, fun g hg => ?_, fun G1 p us sp hp s1 hG1 hus hsp hlen => ?_⟩
    · obtain ⟨h1, h2⟩ := List.mem_filter.mp hg
      obtain ⟨c, hc, e⟩ := List.mem_map.mp h1
      exact ⟨e ▸ mkS_ok (hsm c hc), h2⟩
    · have lus := paired_len hus
      refine ⟨_, rfl, p, rfl, ⟨_, SqL.of hG1⟩, fun D hD => ?_⟩
      refine lc_list (K := K) (xs := us.map V.ref) (fun i G => Same G1 G ∧ G D = some (.lst (((sp.take i).map fun e => e.2 - e.1).map V.int))) ⟨same_new hD, upd_same⟩ (fun i G _ ⟨sm, _⟩ => SqL.of (sm _ _ hG1)) (fun i x' G hx' ⟨sm, hd⟩ => ?_) (fun G ⟨sm, hd⟩ => ?_)
      · rw [List.getElem?_map] at hx'
        cases ht : us[i]? with
        | none => rw [ht] at hx'; cases hx'
        | some t =>
          rw [ht] at hx'
          have ex : V.ref t = x' := Option.some.inj hx'
          subst ex
          obtain ⟨e, he, htt⟩ := paired_getL hus ht
          have hi := (List.getElem?_eq_some_iff.mp he).1
          refine ⟨t, _, rfl, SqT.of (sm _ _ htt), rfl, _, _, rfl, _, _, rfl, rfl, rfl, ?_⟩
          unfold tYes
          refine iteT ?_
          refine ⟨_, rfl, _, rfl, _, _, rfl, rfl, _, hd, ?_, fun b o e2 => ?_, ?_⟩
          · rw [List.length_map, List.length_map, List.length_take]
            exact Nat.lt_of_le_of_lt (show min i sp.length ≤ 65536 by omega) (by decide)
          · rw [upd_ne (ne_of_none e2 hD)]
            exact sm _ _ e2
          · rw [upd_same, List.take_add_one, he]
            simp
      · rw [List.length_map, lus, List.take_length] at hd
        refine ⟨D, _, rfl, SqL.of hd, ?_⟩
        have e1 : (sp.map fun e => e.2 - e.1).sum = cvN rule (ls.map mkS) y x := by
          rw [← sumN_cov (left := 16 * (x : Int)) (right := 16 * (x : Int) + 16) (n := 16) (by omega) hsp.bd]
          refine (sumN_congr fun i hi => ?_).trans (cvN_congr (gs := (ls.map mkS).filter (acr (16 * (y : Int)) (16 * (y : Int) + 16))) fun j s hj => rnd_across hj)
          exact hsp.cv _ (by omega) (by omega)
        rw [e1]
        exact q G ((s0.trans s1).trans sm)
end
end Of
set_option Elab.async false
set_option linter.all false
set_option maxRecDepth 100000
set_option maxHeartbeats 2000000
namespace Of
open PySem PySem.Spec PyProof.Rows L2
abbrev oLt : R2 := rI0 fun i j => .bl (decide (i < j))
/-- lo <= x < hi -/
theorem chain_lt {ta tb tc : TE} {σ : L2.St} {H : Hp} {Q : VK} {i j k : Int} (ha : ∀ R : VK, R (.int i) H → ta σ H R) (hb : ∀ R : VK, R (.int j) H → tb σ H R) (hc : ∀ R : VK, R (.int k) H → tc σ H R)
    (h : Q (.bl (decide (i ≤ j) && decide (j < k))) H) : tChain oLe oLt ta tb tc σ H Q := by
  refine ha _ (hb _ ⟨i, j, rfl, rfl, _, rfl, ?_⟩)
  by_cases e : i ≤ j
  · rw [if_pos (decide_eq_true e)]
    refine hc _ ⟨j, k, rfl, rfl, ?_⟩
    rw [decide_eq_true e, Bool.true_and] at h
    exact h
  · rw [if_neg (by rw [decide_eq_false e]; exact Bool.false_ne_true)]
    rw [decide_eq_false e, Bool.false_and] at h
    exact h
theorem within_lt (x : Int) (n : Nat) : Sw24.within x 0 ((n : Int) - 1) = (decide (0 ≤ x) && decide (x < (n : Int))) := by
  unfold Sw24.within
  congr 1
  by_cases h : x < (n : Int)
  · rw [decide_eq_true h, decide_eq_true (by omega)]
  · rw [decide_eq_false h, decide_eq_false (by omega)]
theorem steps_mem {g : List Sw24.P} {c : Sw24.P × Sw24.P} (h : c ∈ Sw24.steps g) : c.1 ∈ g ∧ c.2 ∈ g := by
  rw [steps_cut] at h
  obtain ⟨h1, h2⟩ := List.of_mem_zip (show (c.1, c.2) ∈ _ from h)
  refine ⟨h1, ?_⟩
  rcases List.mem_append.mp h2 with z | z
  · exact List.mem_of_mem_drop z
  · exact List.mem_of_mem_take z
theorem OutAt.smallL {a : Adr} {H : Hp} {own : Lab} {o l : Addr} {rs : List Addr} {ol : Sw24.Outline} (h : OutAt a H own o l rs ol) : ∀ c ∈ ol.flatMap Sw24.steps, SmallL c := fun c hc => by
  obtain ⟨g, hg, hc'⟩ := List.mem_flatMap.mp hc
  obtain ⟨h1, h2⟩ := steps_mem hc'
  exact ⟨h.small g hg _ h1, h.small g hg _ h2⟩
/-- what a call on the picture at p is to reach, where it gives a list -/
def DoesL (a : Adr) (H : Hp) (p : Addr) (call : Sw24.Call) (Q : VK) : Prop := ∃ (own : Lab) (c : Sw24.Picture), LabOk H own ∧ Pic a H own p c ∧
  ∀ (H' : Hp) (own' : Lab) (q : Addr), Stp isAny H own H' own' → Pic a H' own' p (Sw24.step c call).1 → H' q = some (.lst (((Sw24.step c call).2.code :: (Sw24.step c call).2.nums).map V.int)) → own' q = none → H q = none → Q (.ref q) H'
theorem Pic.same {a : Adr} {H H' : Hp} {own : Lab} {p : Addr} {c : Sw24.Picture} (h : Pic a H own p c) (lab : LabOk H own) (s : Same H H') : Pic a H' own p c := by
  obtain ⟨rl, o, l, rows, rws, rs, hA⟩ := h
  exact ⟨rl, o, l, rows, rws, rs, hA.same lab s⟩
section
variable {P : Program} {w : World} {K : PySem.W.Frag} {mg : Str → Option Value} {base : Heap} {a : Adr}
theorem scRule : FnScope ["number"] ps_is_rule (defScope st_is_rule) := ⟨rfl, rfl, rfl, by decide +kernel, rfl, by decide +kernel, by decide +kernel⟩
theorem ok_rule (T : Txt K mg a) : FnOk P w K mg base CX0 1 a.a_is_rule a.d_is_rule ps_is_rule (spIn 0 1) := by
  refine T.f_is_rule.ok scRule (fun vs H Q E h => ?_) (fun cdv A outer s H vs Q E hr h => ?_)
  · obtain ⟨n, rfl, _⟩ := h
    rfl
  · obtain ⟨n, rfl, q⟩ := h
    refine ⟨_, pss_one (ps_ret (pe_chain op_le op_le pe_int (pv 0) pe_int)), ?_⟩
    exact chain_le rd_c (rd_var rfl) rd_c q
/-! ### Picture.within -/
def spWithin (a : Adr) : Sp := fun vs H Q _ => ∃ (p : Addr) (r x y : Int), vs = [.ref p, .int r, .int x, .int y] ∧ Does a H p (.within r x y) Q
theorem scWithin : FnScope ["self", "rule", "x", "y"] ps_Picture_within (defScope st_Picture_within) := ⟨rfl, rfl, rfl, by decide +kernel, rfl, by decide +kernel, by decide +kernel⟩
theorem ok_within (T : Txt K mg a) : FnOk P w K mg base CX0 6 a.a_Picture_within a.d_Picture_within ps_Picture_within (spWithin a) := by
  have GR := ok_rule (P := P) (w := w) (base := base) T
  have GL := ok_lns (P := P) (w := w) (base := base) T
  have GS := ok_samp (P := P) (w := w) (base := base) T
  refine T.f_Picture_within.ok scWithin (fun vs H Q E h => ?_) (fun cdv A outer s H vs Q E hr h => ?_)
  · obtain ⟨p, r, x, y, rfl, _⟩ := h
    rfl
  · obtain ⟨p, r, x, y, rfl, own, c, lab, hP, q⟩ := h
    have hr1 : Room 1 _ := hr.mono (show 1 ≤ 5 by decide)
    refine ⟨_, pss_cons (ps_if (pt_not (PW.pt (pw_and (pt_val (pe_call GR hr1 rfl T.g_is_rule T.f_is_rule.kp T.b_is_rule .nil pass0 (pa_cons (pv 1) pa_nil))) (pw_and (pt_chain op_le op_lt pe_int (pv 2) (pe_fld (pv 0) rfl)) (pw_and1 (pt_chain op_le op_lt pe_int (pv 3) (pe_fld (pv 0) rfl))))))) (pss_one (ps_ret (pe_gint T.k_OUT_OF_RANGE))) pss_nil)
      (pss_one (ps_ret (pe_call GS hr rfl T.g_samples_within T.f_samples_within.kp T.b_samples_within .nil pass0 (pa_cons (pe_meth0 (pe_fld (pv 0) rfl) T.cl_Outline T.m_Outline_lines GL hr1 T.b_Outline_lines .nil pass0) (pa_cons (pv 1) (pa_cons (pv 2) (pa_cons (pv 3) pa_nil))))))), ?_⟩
    obtain ⟨rl, o, l, rows, rws, rs, hA⟩ := id hP
    obtain ⟨dx, hi⟩ := hA.ins
    refine and_read (b := inB 0 1 r) (c := (decide (0 ≤ x) && decide (x < (c.width : Int))) && (decide (0 ≤ y) && decide (y < (c.height : Int)))) (fun R r' => ⟨_, rfl, r, rfl, _, rfl, r'⟩) (fun R r' => and_read (b := decide (0 ≤ x) && decide (x < (c.width : Int))) (c := decide (0 ≤ y) && decide (y < (c.height : Int)))
      (fun R r' => chain_lt rd_c (rd_var rfl) (fun S s => ⟨_, rfl, p, _, dx, _, _, rfl, hi, T.cl_Picture, T.n_Picture_width, picF_w, s⟩) ⟨_, rfl, r'⟩) (fun R r' => chain_lt rd_c (rd_var rfl) (fun S s => ⟨_, rfl, p, _, dx, _, _, rfl, hi, T.cl_Picture, T.n_Picture_height, picF_h, s⟩) ⟨_, rfl, r'⟩) r') ?_
    have ec : (Sw24.within r 0 1 && (Sw24.within x 0 ((c.width : Int) - 1) && Sw24.within y 0 ((c.height : Int) - 1))) = (inB 0 1 r && ((decide (0 ≤ x) && decide (x < (c.width : Int))) && (decide (0 ≤ y) && decide (y < (c.height : Int))))) := by
      rw [within_lt, within_lt]
      rfl
    refine ite2 (fun e => ?_) (fun e => ?_)
    · rw [Bool.not_eq_true'] at e
      have es : Sw24.step c (.within r x y) = (c, Sw24.says (-2)) := by
        show (if (Sw24.within r 0 1 && (Sw24.within x 0 ((c.width : Int) - 1) && Sw24.within y 0 ((c.height : Int) - 1))) = false then _ else _) = _
        rw [ec, if_pos e]
      have q' := q H own (Stp.refl lab)
      rw [es] at q'
      exact q' hP
    · rw [Bool.not_eq_true', Bool.not_eq_false] at e
      have es : Sw24.step c (.within r x y) = (c, Sw24.says (Sw24.covered r.toNat c.outline x.toNat y.toNat)) := by
        show (if (Sw24.within r 0 1 && (Sw24.within x 0 ((c.width : Int) - 1) && Sw24.within y 0 ((c.height : Int) - 1))) = false then _ else _) = _
        rw [ec, e, if_neg (by decide)]
      rw [es] at q
      rw [Bool.and_eq_true, Bool.and_eq_true, Bool.and_eq_true, Bool.and_eq_true, inB_iff, decide_eq_true_eq, decide_eq_true_eq, decide_eq_true_eq, decide_eq_true_eq] at e
      obtain ⟨⟨r0, r1⟩, ⟨x0, x1⟩, y0, y1⟩ := e
      obtain ⟨r, rfl⟩ : ∃ n : Nat, r = n := ⟨r.toNat, by omega⟩
      obtain ⟨x, rfl⟩ : ∃ n : Nat, x = n := ⟨x.toNat, by omega⟩
      obtain ⟨y, rfl⟩ : ∃ n : Nat, y = n := ⟨y.toNat, by omega⟩
      simp only [Int.toNat_natCast] at q
      have szw := hA.szw
      have szh := hA.szh
      obtain ⟨ox, ho⟩ := hA.out.ins
      refine ⟨_, rfl, p, _, dx, _, _, rfl, hi, T.cl_Picture, T.n_Picture_outline, picF_o, o, ox, _, rfl, ho, outF_no (by decide +kernel) (by decide +kernel), o, l, own, rs, c.outline, rfl, hA.out, fun G0 pl ts hpl s0 hG0 hts => ?_⟩
      refine ⟨_, rfl, _, rfl, _, rfl, pl, r, x, y, ts, c.outline.flatMap Sw24.steps, rfl, by omega, by omega, by omega, hG0, hts, by rw [lines_len]; exact hA.out.few, hA.out.smallL, fun G1 s1 => ?_⟩
      have e1 : cvN r ((c.outline.flatMap Sw24.steps).map mkS) y x = ((Sw24.covered r c.outline x y : Nat) : Int) := (covered_eq r c.outline x y).symm
      rw [e1]
      have sm := s0.trans s1
      exact q G1 own (Stp.same sm lab) (hP.same lab sm)
/-! ### Picture.row -/
def spRow (a : Adr) : Sp := fun vs H Q _ => ∃ (p : Addr) (y : Int), vs = [.ref p, .int y] ∧ DoesL a H p (.row y) Q
theorem scRow : FnScope ["self", "y"] ps_Picture_row (defScope st_Picture_row) := ⟨rfl, rfl, rfl, by decide +kernel, rfl, by decide +kernel, by decide +kernel⟩
theorem row_flat {w : Nat} : ∀ {rws : List (List Nat)} {y : Nat} {r : List Nat}, (∀ r ∈ rws, r.length = w) → rws[y]? = some r → (rws.flatten.drop (y * w)).take w = r
  | [], _, _, _, e => by simp at e
  | r0 :: rws, 0, r, hw, h => by
    have e : r0 = r := Option.some.inj h
    subst e
    have l := hw r0 (by simp)
    rw [Nat.zero_mul, List.drop_zero, List.flatten_cons, ← l, List.take_left']
    rfl
  | r0 :: rws, y + 1, r, hw, h => by
    have l := hw r0 (by simp)
    have ih := row_flat (w := w) (rws := rws) (y := y) (r := r) (fun r hr => hw r (by simp [hr])) h
    rw [List.flatten_cons, Nat.succ_mul, Nat.add_comm, ← List.drop_drop, show (r0 ++ rws.flatten).drop w = rws.flatten by rw [← l]; exact List.drop_left' rfl]
    exact ih
theorem ok_row (T : Txt K mg a) : FnOk P w K mg base CX0 1 a.a_Picture_row a.d_Picture_row ps_Picture_row (spRow a) := by
  refine T.f_Picture_row.ok scRow (fun vs H Q E h => ?_) (fun cdv A outer s H vs Q E hr h => ?_)
  · obtain ⟨p, y, rfl, _⟩ := h
    rfl
  · obtain ⟨p, y, rfl, own, c, lab, hP, q⟩ := h
    refine ⟨_, pss_cons (ps_if (pt_not (pt_chain op_le op_lt pe_int (pv 1) (pe_fld (pv 0) rfl))) (pss_one (ps_ret (pe_lst (pa_cons (pe_gint T.k_OUT_OF_RANGE) pa_nil)))) pss_nil)
      (pss_one (ps_ret (pe_op op_cat (pe_lst (pa_cons pe_int pa_nil)) (pe_ix ix_list (pe_fld (pv 0) rfl) (pv 1) (fun _ _ => rfl))))), ?_⟩
    obtain ⟨rl, o, l, rows, rws, rs, hA⟩ := id hP
    obtain ⟨dx, hi⟩ := hA.ins
    refine chain_lt (i := 0) (j := y) (k := (c.height : Int)) rd_c (rd_var rfl) (fun S s => ⟨_, rfl, p, _, dx, _, _, rfl, hi, T.cl_Picture, T.n_Picture_height, picF_h, s⟩) ⟨_, rfl, ?_⟩
    have ec := within_lt y c.height
    refine ite2 (fun e => ?_) (fun e => ?_)
    · rw [Bool.not_eq_true', ← ec] at e
      have es : Sw24.step c (.row y) = (c, Sw24.says (-2)) := by
        show (if Sw24.within y 0 ((c.height : Int) - 1) = false then _ else _) = _
        rw [if_pos e]
      refine ⟨by show 1 ≤ sizeLine; decide, fun u hu => ?_⟩
      have q' := q (upd H u (.lst [.int (-2)])) own u (Stp.same (same_new hu) lab)
      rw [es] at q'
      exact q' (hP.same lab (same_new hu)) upd_same (lab.free hu) hu
    · rw [Bool.not_eq_true', Bool.not_eq_false, ← ec] at e
      have es : Sw24.step c (.row y) = (c, ⟨0, ((c.colours.drop (y.toNat * c.width)).take c.width).map fun (c : Nat) => (c : Int)⟩) := by
        show (if Sw24.within y 0 ((c.height : Int) - 1) = false then _ else _) = _
        rw [e, if_neg (by decide)]
      rw [es] at q
      rw [ec, Bool.and_eq_true, decide_eq_true_eq, decide_eq_true_eq] at e
      obtain ⟨y0, y1⟩ := e
      obtain ⟨y, rfl⟩ : ∃ n : Nat, y = n := ⟨y.toNat, by omega⟩
      rw [Int.toNat_natCast] at q
      have hyr : y < rws.length := by
        rw [hA.ht]
        omega
      obtain ⟨r0, hr0⟩ : ∃ r0, rws[y]? = some r0 := ⟨_, List.getElem?_eq_getElem hyr⟩
      obtain ⟨r, hr', lr, hrow⟩ := paired_get hA.row hr0
      have l0 := hA.wd r0 (List.mem_of_getElem? hr0)
      have szw := hA.szw
      refine ⟨by show 1 ≤ sizeLine; decide, fun u hu => ?_⟩
      have s1 := same_new (o := .lst [.int 0]) hu
      refine ⟨_, rfl, p, _, dx, _, _, rfl, s1 _ _ hi, T.cl_Picture, T.n_Picture_rows, picF_r, _, rfl, rl, rows.map V.ref, _, V.ref r, rfl, rfl, SqL.of (s1 _ _ hA.lst), atI_nat (by rw [List.getElem?_map, hr']; rfl), u, r, _, _, rfl, rfl, upd_same, s1 _ _ hrow, ?_, fun v hv => ?_⟩
      · rw [List.length_map, l0]
        exact Nat.le_trans (show 1 + c.width ≤ 513 by omega) (by decide)
      · have s2 := s1.trans (same_new (o := .lst ([.int 0] ++ cells r0)) hv)
        have hv0 := s1.free hv
        refine q _ own v (Stp.same s2 lab) (hP.same lab s2) ?_ (lab.free hv0) hv0
        rw [upd_same, hA.cols, row_flat hA.wd hr0]
        show some (HO.lst ([V.int 0] ++ cells r0)) = some (.lst (((0 : Int) :: r0.map fun (c : Nat) => (c : Int)).map V.int))
        rw [List.map_cons, List.map_map]
        rfl
/-! ### Picture.box -/
def spBox (a : Adr) : Sp := fun vs H Q _ => ∃ (p : Addr), vs = [.ref p] ∧ DoesL a H p .box Q
theorem scBox : FnScope ["self", "points", "xs", "ys", "x", "y"] ps_Picture_box (defScope st_Picture_box) := ⟨rfl, rfl, rfl, by decide +kernel, rfl, by decide +kernel, by decide +kernel⟩
theorem ok_box (T : Txt K mg a) : FnOk P w K mg base CX0 2 a.a_Picture_box a.d_Picture_box ps_Picture_box (spBox a) := by
  have GP := ok_pts (P := P) (w := w) (base := base) T
  refine T.f_Picture_box.ok scBox (fun vs H Q E h => ?_) (fun cdv A outer s H vs Q E hr h => ?_)
  · obtain ⟨p, rfl, _⟩ := h
    rfl
  · obtain ⟨p, rfl, own, c, lab, hP, q⟩ := h
    refine ⟨_, pss_cons (ps_set (i := 1) scBox.nd rfl (Or.inl rfl) (pe_meth0 (pe_fld (pv 0) rfl) T.cl_Outline T.m_Outline_points GP hr T.b_Outline_points .nil pass0))
      (pss_cons (ps_if (pt_cmpR op_eq (pe_callB call_len_seq (by rfl) T.z_len PySem.boot_len (pa_cons (pv 1) pa_nil)) pe_int (nomark _)) (pss_one (ps_ret (pe_lst (pa_cons (pe_gint T.k_REFUSED) pa_nil)))) pss_nil)
      (pss_cons (ps_setLc (i := 2) (own := [("x", 4), ("y", 5)]) rfl scBox.nd rfl rfl (sw_true rfl rfl rfl rfl) (pi_list (pv 1)) (blkOk_by (by change blkC ["self", "points", "xs", "ys", "x", "y"] (defScope st_Picture_box) _ _ = true; decide +kernel)) (fun _ _ _ _ _ => pg_tupK (n := 2) K rfl (pgs_cons (pg_name (i := 4) scBox.nd rfl (Or.inl rfl)) (pgs_cons (pg_name (i := 5) scBox.nd rfl (Or.inl rfl)) pgs_nil))) (fun _ _ _ _ _ => pts_nil) (fun _ _ _ _ _ => pv 4))
      (pss_cons (ps_setLc (i := 3) (own := [("x", 4), ("y", 5)]) rfl scBox.nd rfl rfl (sw_true rfl rfl rfl rfl) (pi_list (pv 1)) (blkOk_by (by change blkC ["self", "points", "xs", "ys", "x", "y"] (defScope st_Picture_box) _ _ = true; decide +kernel)) (fun _ _ _ _ _ => pg_tupK (n := 2) K rfl (pgs_cons (pg_name (i := 4) scBox.nd rfl (Or.inl rfl)) (pgs_cons (pg_name (i := 5) scBox.nd rfl (Or.inl rfl)) pgs_nil))) (fun _ _ _ _ _ => pts_nil) (fun _ _ _ _ _ => pv 5))
      (pss_one (ps_ret (pe_lst (pa_cons pe_int (pa_cons (pe_callB (cr_min rfl) rfl T.z_min (by decide +kernel) (pa_cons (pv 2) pa_nil)) (pa_cons (pe_callB (cr_min rfl) rfl T.z_min (by decide +kernel) (pa_cons (pv 3) pa_nil)) (pa_cons (pe_callB (cr_max rfl) rfl T.z_max (by decide +kernel) (pa_cons (pv 2) pa_nil)) (pa_cons (pe_callB (cr_max rfl) rfl T.z_max (by decide +kernel) (pa_cons (pv 3) pa_nil)) pa_nil))))))))))), ?_⟩
    obtain ⟨rl, o, l, rows, rws, rs, hA⟩ := id hP
    obtain ⟨dx, hi⟩ := hA.ins
    obtain ⟨ox, ho⟩ := hA.out.ins
    refine ⟨_, rfl, p, _, dx, _, _, rfl, hi, T.cl_Picture, T.n_Picture_outline, picF_o, o, ox, _, rfl, ho, outF_no (by decide +kernel) (by decide +kernel), o, l, own, rs, c.outline, rfl, hA.out, fun G0 pl ts hpl s0 hG0 hts => ?_⟩
    have lts := paired_len hts
    have few := hA.out.few
    have fl := flat_len c.outline
    have nil_iff : c.outline.flatten.length = 0 ↔ c.outline = [] := by
      constructor
      · intro z
        have := few_rings hA.out.nonempty
        exact List.length_eq_zero_iff.mp (by omega)
      · intro z
        rw [z]
        rfl
    refine ⟨_, rfl, pl, _, rfl, .inl (SqL.of hG0), rfl, _, rfl, ?_⟩
    rw [List.length_map]
    refine ite2 (fun e => ?_) (fun e => ?_)
    · have e' := of_decide_eq_true e
      have e2 : (ts.length : Int) = 0 := V.int.inj e'
      have en : c.outline = [] := nil_iff.mp (by omega)
      have es : Sw24.step c .box = (c, Sw24.says (-1)) := by
        show (if c.outline = [] then _ else _) = _
        rw [if_pos en]
      refine ⟨by show 1 ≤ sizeLine; decide, fun u hu => ?_⟩
      have hu0 := s0.free hu
      have sm := s0.trans (same_new (o := .lst [.int (-1)]) hu)
      have q' := q _ own u (Stp.same sm lab)
      rw [es] at q'
      exact q' (hP.same lab sm) upd_same (lab.free hu0) hu0
    · have en : ¬ c.outline = [] := fun z => e (decide_eq_true (by have := nil_iff.mpr z; show V.int (ts.length : Int) = V.int 0; congr 1; omega))
      have hpos : 0 < c.outline.flatten.length := by
        have : ¬ c.outline.flatten.length = 0 := fun z => en (nil_iff.mp z)
        omega
      have es : Sw24.step c .box = (c, ⟨0, [Sw24.least (c.outline.flatten.map fun a => a.x), Sw24.least (c.outline.flatten.map fun a => a.y), Sw24.most (c.outline.flatten.map fun a => a.x), Sw24.most (c.outline.flatten.map fun a => a.y)]⟩) := by
        show (if c.outline = [] then _ else _) = _
        rw [if_neg en]
      rw [es] at q
      generalize hF : c.outline.flatten = F at *
      refine ⟨_, rfl, pl, rfl, ⟨_, SqL.of hG0⟩, fun D hD => ?_⟩
      refine lc_list (K := K) (xs := ts.map V.ref) (fun i G => Same G0 G ∧ G D = some (.lst (((F.take i).map fun a => a.x).map V.int))) ⟨same_new hD, upd_same⟩ (fun i G _ ⟨sm, _⟩ => SqL.of (sm _ _ hG0)) (fun i x' G hx' ⟨sm, hd⟩ => ?_) (fun G1 ⟨sm1, hd1⟩ => ?_)
      · rw [List.getElem?_map] at hx'
        cases ht : ts[i]? with
        | none => rw [ht] at hx'; cases hx'
        | some t =>
          rw [ht] at hx'
          have ex : V.ref t = x' := Option.some.inj hx'
          subst ex
          obtain ⟨e', he, htt⟩ := paired_getL hts ht
          refine ⟨t, _, rfl, SqT.of (sm _ _ htt), rfl, _, _, rfl, _, _, rfl, rfl, rfl, ?_⟩
          unfold tYes
          refine iteT ?_
          refine ⟨_, rfl, _, hd, ?_, fun b ob e2 => ?_, ?_⟩
          · rw [List.length_map, List.length_map, List.length_take]
            exact Nat.lt_of_le_of_lt (show min i F.length ≤ 4096 by omega) (by decide)
          · rw [upd_ne (ne_of_none e2 hD)]
            exact sm _ _ e2
          · rw [upd_same, List.take_add_one, he]
            simp
      · rw [List.length_map, lts, List.take_length] at hd1
        have hG1 := sm1 _ _ hG0
        refine ⟨_, rfl, pl, rfl, ⟨_, SqL.of hG1⟩, fun D2 hD2 => ?_⟩
        refine lc_list (K := K) (xs := ts.map V.ref) (fun i G => Same G1 G ∧ G D2 = some (.lst (((F.take i).map fun a => a.y).map V.int))) ⟨same_new hD2, upd_same⟩ (fun i G _ ⟨sm, _⟩ => SqL.of (sm _ _ hG1)) (fun i x' G hx' ⟨sm, hd⟩ => ?_) (fun G2 ⟨sm2, hd2⟩ => ?_)
        · rw [List.getElem?_map] at hx'
          cases ht : ts[i]? with
          | none => rw [ht] at hx'; cases hx'
          | some t =>
            rw [ht] at hx'
            have ex : V.ref t = x' := Option.some.inj hx'
            subst ex
            obtain ⟨e', he, htt⟩ := paired_getL hts ht
            refine ⟨t, _, rfl, SqT.of (sm _ _ (sm1 _ _ htt)), rfl, _, _, rfl, _, _, rfl, rfl, rfl, ?_⟩
            unfold tYes
            refine iteT ?_
            refine ⟨_, rfl, _, hd, ?_, fun b ob e2 => ?_, ?_⟩
            · rw [List.length_map, List.length_map, List.length_take]
              exact Nat.lt_of_le_of_lt (show min i F.length ≤ 4096 by omega) (by decide)
            · rw [upd_ne (ne_of_none e2 hD2)]
              exact sm _ _ e2
            · rw [upd_same, List.take_add_one, he]
              simp
        · rw [List.length_map, lts, List.take_length] at hd2
          have hd1' := sm2 _ _ hd1
          refine ⟨_, rfl, D, _, rfl, SqL.of hd1', by rw [List.length_map]; exact hpos, fun m1 a1 a2 => ?_⟩
          refine ⟨_, rfl, D2, _, rfl, SqL.of hd2, by rw [List.length_map]; exact hpos, fun m2 a3 a4 => ?_⟩
          refine ⟨_, rfl, D, _, rfl, SqL.of hd1', by rw [List.length_map]; exact hpos, fun m3 a5 a6 => ?_⟩
          refine ⟨_, rfl, D2, _, rfl, SqL.of hd2, by rw [List.length_map]; exact hpos, fun m4 a7 a8 => ?_⟩
          refine ⟨by show 5 ≤ sizeLine; decide, fun u hu => ?_⟩
          have sm := (s0.trans sm1).trans sm2
          have hu0 := sm.free hu
          have sm3 := sm.trans (same_new (o := .lst [.int 0, .int m1, .int m2, .int m3, .int m4]) hu)
          refine q _ own u (Stp.same sm3 lab) (hP.same lab sm3) ?_ (lab.free hu0) hu0
          rw [least_eq a1 a2, least_eq a3 a4, most_eq a5 a6, most_eq a7 a8]
          exact upd_same
end
end Of
set_option Elab.async false
set_option linter.all false
set_option maxRecDepth 100000
set_option maxHeartbeats 2000000
namespace Of
open PySem PySem.Spec PyProof.Rows L2
def isRow : Role → Prop := fun r => r = .rows ∨ r = .row
theorem isRow_out : ∀ r, isOut r → ¬ isRow r := fun r h z => by rcases z with z | z <;> (subst z; exact h)
section
variable {P : Program} {w : World} {K : PySem.W.Frag} {mg : Str → Option Value} {base : Heap} {a : Adr}
/-! ### Picture.fill -/
def spFill (a : Adr) : Sp := fun vs H Q _ => ∃ (p : Addr) (r : Int) (k : Nat), vs = [.ref p, .int r, .int (k : Nat)] ∧ k < 4294967296 ∧ Does a H p (.fill r k) Q
theorem scFill : FnScope ["self", "rule", "colour", "place_count", "y", "steps", "runs", "start", "end", "n"] ps_Picture_fill (defScope st_Picture_fill) := ⟨rfl, rfl, rfl, by decide +kernel, rfl, by decide +kernel, by decide +kernel⟩
theorem ok_fill (T : Txt K mg a) : FnOk P w K mg base CX0 6 a.a_Picture_fill a.d_Picture_fill ps_Picture_fill (spFill a) := by
  have GR := ok_rule (P := P) (w := w) (base := base) T
  have GC := ok_colour (P := P) (w := w) (base := base) T
  have GL := ok_lns (P := P) (w := w) (base := base) T
  have GY := ok_byrow (P := P) (w := w) (base := base) T
  have GU := ok_runs (P := P) (w := w) (base := base) T
  have GB := ok_brow (P := P) (w := w) (base := base) T
  have GO := ok_oinit (P := P) (w := w) (base := base) T
  refine T.f_Picture_fill.ok scFill (fun vs H Q E h => ?_) (fun cdv A outer s H vs Q E hr h => ?_)
  · obtain ⟨p, r, k, rfl, _⟩ := h
    rfl
  · obtain ⟨p, r, k, rfl, hk, own, c, lab, hP, q⟩ := h
    have hr1 : Room 1 _ := hr.mono (show 1 ≤ 5 by decide)
    have hr2 : Room 2 _ := hr.mono (show 2 ≤ 5 by decide)
    have hr3 : Room 3 _ := hr.mono (show 3 ≤ 5 by decide)
    have hr4 : Room 4 _ := hr.mono (show 4 ≤ 5 by decide)
    refine ⟨_, pss_cons (ps_if (pt_not (PW.pt (pw_and (pt_val (pe_call GR hr1 rfl T.g_is_rule T.f_is_rule.kp T.b_is_rule .nil pass0 (pa_cons (pv 1) pa_nil))) (pw_and1 (pt_val (pe_call GC hr1 rfl T.g_is_colour T.f_is_colour.kp T.b_is_colour .nil pass0 (pa_cons (pv 2) pa_nil))))))) (pss_one (ps_ret (pe_gint T.k_OUT_OF_RANGE))) pss_nil)
      (pss_cons (ps_set (i := 3) scFill.nd rfl (Or.inl rfl) pe_int)
      (pss_cons (ps_for PassesOwn.never rfl (pi_enum rfl T.z_enumerate (pa_cons (pe_call GY hr rfl T.g_steps_by_place_row T.f_steps_by_place_row.kp T.b_steps_by_place_row .nil pass0 (pa_cons (pe_meth0 (pe_fld (pv 0) rfl) T.cl_Outline T.m_Outline_lines GL hr1 T.b_Outline_lines .nil pass0) (pa_cons (pe_fld (pv 0) rfl) pa_nil))) pa_nil)) (pg_tup rfl (pgs_cons (pg_name (i := 4) scFill.nd rfl (Or.inl rfl)) (pgs_cons (pg_name (i := 5) scFill.nd rfl (Or.inl rfl)) pgs_nil)))
        (pss_one (ps_if (pt_cmpR op_gt (pe_callB call_len_seq (by rfl) T.z_len PySem.boot_len (pa_cons (pv 5) pa_nil)) pe_int (nomark _))
          (pss_cons (ps_set (i := 6) scFill.nd rfl (Or.inl rfl) (pe_call GU hr4 rfl T.g_runs_of_place_row T.f_runs_of_place_row.kp T.b_runs_of_place_row .nil pass0 (pa_cons (pv 5) (pa_cons (pv 1) (pa_cons (pv 4) (pa_cons (pe_fld (pv 0) rfl) pa_nil))))))
          (pss_cons (ps_asg (pe_call GB hr3 rfl T.g_blended_row T.f_blended_row.kp T.b_blended_row .nil pass0 (pa_cons (pe_ix ix_list (pe_fld (pv 0) rfl) (pv 4) (fun _ _ => rfl)) (pa_cons (pv 6) (pa_cons (pv 2) pa_nil)))) (pg_sub (pe_fld (pv 0) rfl) (pv 4) set_list))
          (pss_one (ps_aug (i := 3) scFill.nd rfl (Or.inl rfl) (pe_callB (cr_sum rfl) rfl T.z_sum (by decide +kernel) (pa_cons (pe_lc (own := [("start", 7), ("end", 8), ("n", 9)]) rfl scFill.nd (pi_list (pv 6)) (blkOk_by (by change blkC ["self", "rule", "colour", "place_count", "y", "steps", "runs", "start", "end", "n"] (defScope st_Picture_fill) _ _ = true; decide +kernel)) (fun _ _ _ _ _ => pg_tupK (n := 3) K rfl (pgs_cons (pg_name (i := 7) scFill.nd rfl (Or.inl rfl)) (pgs_cons (pg_name (i := 8) scFill.nd rfl (Or.inl rfl)) (pgs_cons (pg_name (i := 9) scFill.nd rfl (Or.inl rfl)) pgs_nil)))) (fun _ _ _ _ _ => pts_nil) (fun _ _ _ _ _ => pe_op op_sub (pv 8) (pv 7))) pa_nil)) in_add)))) pss_nil)))
      (pss_cons (ps_fld (pv 0) (pe_make0 T.mk_Outline GO hr2 rfl T.g_Outline T.b_Outline_init .nil pass0) rfl)
      (pss_one (ps_ret (pv 3)))))), ?_⟩
    obtain ⟨rl, o, l, rows, rws, rs, hA⟩ := id hP
    obtain ⟨dx, hi⟩ := hA.ins
    have ek : inB 0 4294967295 (k : Int) = true := inB_iff.mpr ⟨by omega, by omega⟩
    refine and_read (b := inB 0 1 r) (c := inB 0 4294967295 (k : Int)) (fun R r' => ⟨_, rfl, r, rfl, _, rfl, r'⟩) (fun R r' => ⟨_, rfl, _, rfl, _, rfl, r'⟩) ?_
    rw [ek, Bool.and_true]
    refine ite2 (fun e => ?_) (fun e => ?_)
    · rw [Bool.not_eq_true'] at e
      have es : Sw24.step c (.fill r k) = (c, Sw24.says (-2)) := by
        show (if inB 0 1 r = false then _ else _) = _
        rw [if_pos e]
      have q' := q H own (Stp.refl lab)
      rw [es] at q'
      exact q' hP
    · rw [Bool.not_eq_true', Bool.not_eq_false] at e
      have es : Sw24.step c (.fill r k) = (Sw24.filled c r.toNat k, Sw24.says (Sw24.touched c r.toNat)) := by
        show (if inB 0 1 r = false then _ else _) = _
        rw [e, if_neg (by decide)]
      rw [es] at q
      rw [inB_iff] at e
      obtain ⟨r0, r1⟩ := e
      obtain ⟨r, rfl⟩ : ∃ n : Nat, r = n := ⟨r.toNat, by omega⟩
      rw [Int.toNat_natCast] at q
      have szw := hA.szw
      have szh := hA.szh
      obtain ⟨ox, ho⟩ := hA.out.ins
      refine ⟨_, rfl, p, _, dx, _, _, rfl, hi, T.cl_Picture, T.n_Picture_outline, picF_o, o, ox, _, rfl, ho, outF_no (by decide +kernel) (by decide +kernel), o, l, own, rs, c.outline, rfl, hA.out, fun G0 pl ts hpl s0 hG0 hts => ?_⟩
      have hll : (c.outline.flatMap Sw24.steps).length ≤ 4096 := by rw [lines_len]; exact hA.out.few
      refine ⟨_, rfl, p, _, dx, _, _, rfl, s0 _ _ hi, T.cl_Picture, T.n_Picture_height, picF_h, pl, c.height, ts, c.outline.flatMap Sw24.steps, rfl, szh, hG0, hts, hll, hA.out.smallL, fun G1 p0 ra0 hp0 s1 hG1 hn0 hfr hRG => ?_⟩
      have s01 := s0.trans s1
      have hgso : (c.outline.flatMap Sw24.steps).map mkS = gsOf c.outline := rfl
      rw [hgso] at hRG
      have lab1 := same_lab s01 lab
      have nl : ∀ b, G0 b = none → own b = none := fun b e => lab.free (s0.free e)
      have hp0n := nl p0 hp0
      have hgl : (gsOf c.outline).length ≤ 4096 := by
        unfold gsOf
        rw [List.length_map]
        exact hll
      refine ⟨p0, _, rfl, SqL.of hG1, ?_⟩
      refine for_enum0 (K := K) (xs := ra0.map V.ref) (fun i σ G => ∃ (v4 v5 v6 v7 v8 v9 : Option V) (own' : Lab) (ra : List Addr) (cnt : Int), σ = [some (.ref p), some (.int r), some (.int k), some (.int cnt), v4, v5, v6, v7, v8, v9] ∧ Stp isRow G1 own G own' ∧
        PicAt a G own' p rl o l ra (toRows (flRow r k c.outline) i rws) rs { c with colours := (toRows (flRow r k c.outline) i rws).flatten } ∧ cnt = sumN i (fun y => tchRow r c.outline c.width y)) ⟨none, none, none, none, none, none, own, rows, 0, rfl, Stp.refl lab1, ?_, rfl⟩ (fun i σ G _ h => ?_) ?_ ?_
      · rw [toRows_0, ← hA.cols]
        exact hA.same lab s01
      · obtain ⟨_, _, _, _, _, _, _, _, _, _, st, _⟩ := h
        exact SqL.of (st.un hG1 hp0n)
      · rintro i x tt σ G hx htt ⟨v4, v5, v6, v7, v8, v9, own', ra, cnt, rfl, st, hG, hcnt⟩
        rw [List.getElem?_map] at hx
        cases hrr : ra0[i]? with
        | none => rw [hrr] at hx; cases hx
        | some r0' =>
          rw [hrr] at hx
          have ex : V.ref r0' = x := Option.some.inj hx
          subst ex
          have hih : i < c.height := by
            have := (List.getElem?_eq_some_iff.mp hrr).1
            omega
          obtain ⟨us, hus, hpu⟩ := hRG i r0' hrr
          dsimp only at hpu
          have hr0n := nl r0' (hfr r0' (List.mem_of_getElem? hrr))
          have s2 := same_new (o := .tup [.int ((i : Nat) : Int), .ref r0']) htt
          have lab' := st.ok
          have stG : Stp isRow G1 own (upd G tt (.tup [.int ((i : Nat) : Int), .ref r0'])) own' := st.trans lab1 (Stp.same s2 lab')
          have hG' := hG.same lab' s2
          have htup : upd G tt (.tup [.int ((i : Nat) : Int), .ref r0']) tt = some (.tup [.int ((i : Nat) : Int), .ref r0']) := upd_same
          clear hG st s2
          generalize upd G tt (.tup [.int ((i : Nat) : Int), .ref r0']) = G2 at *
          have lab2 := stG.ok
          refine ⟨tt, _, rfl, SqT.of htup, rfl, _, _, rfl, _, _, rfl, rfl, ?_⟩
          refine nx_abs fun D' hD' => ?_
          have husG := stG.un hus hr0n
          have hyr : i < rws.length := by
            rw [hA.ht]
            exact hih
          obtain ⟨row0, hrow0⟩ : ∃ row0, rws[i]? = some row0 := ⟨_, List.getElem?_eq_getElem hyr⟩
          have hrm := List.mem_of_getElem? hrow0
          have lrow := hA.wd row0 hrm
          have hcov : ∀ x : Nat, ((Sw24.covered r c.outline x i : Nat) : Int) = cvN r (((gsOf c.outline).filter (acr 0 (16 * (c.height : Int)))).filter (inRow (i : Int))) i x := fun x => by
            rw [covered_eq]
            exact (cvN_congr fun j s hj => rnd_row (by omega) (by omega) hj).symm
          refine ⟨_, rfl, r0', _, rfl, .inl (SqL.of husG), _, _, rfl, rfl, _, rfl, ?_⟩
          rw [List.length_map]
          have lpu := paired_len hpu
          refine ite2 (fun e => ?_) (fun e => ?_)
          · obtain ⟨dx2, hi2⟩ := hG'.ins
            have hsg : Paired (SgAt a G2) us (((gsOf c.outline).filter (acr 0 (16 * (c.height : Int)))).filter (inRow (i : Int))) := Paired.mapP hpu fun u g ⟨n0, d0, e0⟩ => ⟨d0, stG.un e0 (nl u n0)⟩
            refine seq_abs fun N1 hN1 => ?_
            refine ⟨_, rfl, _, rfl, _, rfl, _, rfl, p, _, dx2, _, _, rfl, hi2, T.cl_Picture, T.n_Picture_width, picF_w, r0', r, i, c.width, us, _, rfl, by omega, by omega, hA.ww (by omega), szw, husG, hsg, ?_, fun g hg => ?_, fun G3 p2 ks ru hp2 s3 hG3 hks hru => ?_⟩
            · exact Nat.le_trans (List.length_filter_le _ _) (Nat.le_trans (List.length_filter_le _ _) hgl)
            · obtain ⟨h1, h2⟩ := List.mem_filter.mp hg
              obtain ⟨h3, h4⟩ := List.mem_filter.mp h1
              obtain ⟨cc', hc1, hc2⟩ := List.mem_map.mp h3
              refine ⟨hc2 ▸ mkS_ok (hA.out.smallL cc' hc1), inRow_acr h2 ?_⟩
              have := of_decide_eq_true h4
              omega
            · have hru' : RunsOf (fun x => ((Sw24.covered r c.outline x.toNat i : Nat) : Int)) (row0.length : Int) 0 ru := by
                rw [lrow]
                refine hru.congr (Int.le_refl 0) fun x h1 h2 => ?_
                rw [hcov, Int.toNat_of_nonneg h1]
              have lru := paired_len hks
              have hrufew := hru.few (by omega)
              have hpicrow : (toRows (flRow r k c.outline) i rws)[i]? = some row0 := by
                rw [toRows_get, hrow0]
                simp only [Option.map_some]
                rw [if_neg (by omega)]
              have hG3' := hG'.same lab2 s3
              have lab3 := same_lab s3 lab2
              have st3 : Stp isRow G1 own G3 own' := stG.trans lab1 (Stp.same s3 lab2)
              obtain ⟨rr, hrr', lrr, hrrow⟩ := paired_get hG3'.row hpicrow
              obtain ⟨dx3, hi3⟩ := hG3'.ins
              have lra : ra.length ≤ 512 := by
                rw [paired_len hG3'.row, hG3'.ht]
                exact szh
              refine hN1 _ _ (seq_abs fun N2 hN2 => ?_)
              refine ⟨_, rfl, p, _, dx3, _, _, rfl, hi3, T.cl_Picture, T.n_Picture_rows, picF_r, _, rfl, rl, ra.map V.ref, _, V.ref rr, rfl, rfl, SqL.of hG3'.lst, atI_nat (by rw [List.getElem?_map, hrr']; rfl), _, rfl, _, rfl, ?_⟩
              refine ⟨rr, p2, row0, ks, ru, k, fun x => Sw24.covered r c.outline x i, rfl, hrrow, by omega, hA.sm row0 hrm, hk, fun x => covered_le _ _ _ _, hG3, hks, hru', fun G4 p3 hp3 s4 hp3r => ?_⟩
              have hG4' := hG3'.same lab3 s4
              have lab4 := same_lab s4 lab3
              have st4 : Stp isRow G1 own G4 own' := st3.trans lab1 (Stp.same s4 lab3)
              obtain ⟨dx4, hi4⟩ := hG4'.ins
              have hp3row : G4 p3 = some (.lst (cells (flRow r k c.outline i row0))) := hp3r
              have hrli : (ra.map V.ref).length = c.height := by
                rw [List.length_map, paired_len hG4'.row, hG4'.ht]
              refine ⟨_, rfl, p, _, dx4, _, _, rfl, hi4, T.cl_Picture, T.n_Picture_rows, picF_r, _, rfl, rl, ra.map V.ref, _, i, rfl, rfl, hG4'.lst, ?_, ?_⟩
              · rw [hrli]
                unfold ixN
                rw [if_pos (by omega), if_pos (by omega)]
                congr 1
              · have n3l : p3 ≠ rl := Ne.symm (ne_of_none hG3'.lst hp3)
                have n3p : p3 ≠ p := Ne.symm (ne_of_none hi3 hp3)
                have npl : p ≠ rl := lab_ne hG4'.lp hG4'.lr (by decide)
                have u2 : Stp isRow G3 own' G4 (lay own' p3 .row) := (Stp.same s4 lab3).name (a := p3) (r := .row) hp3 hp3row (.inr rfl) trivial
                have u3 : Stp isRow G3 own' (upd G4 rl (.lst ((ra.map V.ref).set i (.ref p3)))) (lay own' p3 .row) := u2.trans lab3 (Stp.put (a := rl) (o := .lst ((ra.map V.ref).set i (.ref p3))) (r := .rows) u2.ok (by rw [lay_ne (Ne.symm n3l)]; exact hG4'.lr) (.inl rfl) trivial)
                have t3 := st3.trans lab1 u3
                have hrl4 := hG4'.lst
                generalize hG5 : upd G4 rl (.lst ((ra.map V.ref).set i (.ref p3))) = G5 at *
                have rowsNe : ∀ b ns, RowAt G4 own' b ns → RowAt G5 (lay own' p3 .row) b ns := fun b ns ⟨z1, z2⟩ => by
                  refine ⟨?_, ?_⟩
                  · by_cases zb : b = p3
                    · rw [zb]
                      exact lay_same
                    · rw [lay_ne zb]
                      exact z1
                  · rw [← hG5, upd_ne (lab_ne z1 hG4'.lr (by decide))]
                    exact z2
                have hPic5 : PicAt a G5 (lay own' p3 .row) p rl o l (ra.set i p3) (toRows (flRow r k c.outline) (i + 1) rws) rs { c with colours := (toRows (flRow r k c.outline) (i + 1) rws).flatten } := by
                  refine ⟨⟨dx4, ?_⟩, ?_, ?_, ?_, ?_, rfl, ?_, fun r' hr' => ?_, szw, szh, hA.ww, fun r' hr' n hn => ?_, ?_⟩
                  · rw [← hG5, upd_ne npl]
                    exact hi4
                  · rw [lay_ne (Ne.symm n3p)]
                    exact hG4'.lp
                  · rw [lay_ne (Ne.symm n3l)]
                    exact hG4'.lr
                  · rw [← hG5, upd_same, List.map_set]
                  · rw [← toRows_s hrow0]
                    refine paired_set ?_ _ (Paired.mapP hG4'.row rowsNe)
                    refine ⟨lay_same, ?_⟩
                    rw [← hG5, upd_ne n3l]
                    exact hp3row
                  · rw [toRows_len]
                    exact hA.ht
                  · obtain ⟨r1', m1, j', z⟩ := toRows_mem hr'
                    have lr1 := hA.wd r1' m1
                    rcases z with z | z
                    · rw [z]
                      exact lr1
                    · rw [z]
                      unfold flRow
                      rw [mapRow_len]
                      exact lr1
                  · obtain ⟨r1', m1, j', z⟩ := toRows_mem hr'
                    rcases z with z | z
                    · rw [z] at hn
                      exact hA.sm r1' m1 n hn
                    · rw [z] at hn
                      exact flRow_lt hn
                  · exact hG3'.out.keep lab3 u3 isRow_out
                have n2l : p2 ≠ rl := Ne.symm (ne_of_none hG'.lst hp2)
                have hp25 : G5 p2 = some (.lst (ks.map V.ref)) := by
                  rw [← hG5, upd_ne n2l]
                  exact s4 _ _ hG3
                have hks5 : Paired (RunAt G5) ks ru := Paired.mapP hks fun t e z => by
                  show G5 t = _
                  rw [← hG5, upd_ne (ne_of (s4 _ _ z) hrl4 (by intro q; cases q))]
                  exact s4 _ _ z
                refine hN2 _ _ ?_
                refine ⟨_, rfl, _, rfl, p2, rfl, ⟨_, SqL.of hp25⟩, fun D hD => ?_⟩
                refine lc_list (K := K) (xs := ks.map V.ref) (fun i G => Same G5 G ∧ G D = some (.lst (((ru.take i).map fun e => e.2.1 - e.1).map V.int))) ⟨same_new hD, upd_same⟩ (fun i G _ ⟨sm, _⟩ => SqL.of (sm _ _ hp25)) (fun i x' G hx' ⟨sm, hd⟩ => ?_) (fun G6 ⟨sm, hd⟩ => ?_)
                · rw [List.getElem?_map] at hx'
                  cases ht : ks[i]? with
                  | none => rw [ht] at hx'; cases hx'
                  | some t =>
                    rw [ht] at hx'
                    have ex : V.ref t = x' := Option.some.inj hx'
                    subst ex
                    obtain ⟨e', he, htt'⟩ := paired_getL hks5 ht
                    refine ⟨t, _, rfl, SqT.of (sm _ _ htt'), rfl, _, _, rfl, _, _, rfl, _, _, rfl, rfl, rfl, ?_⟩
                    unfold tYes
                    refine iteT ?_
                    refine ⟨_, rfl, _, rfl, _, _, rfl, rfl, _, hd, ?_, fun b ob e2 => ?_, ?_⟩
                    · rw [List.length_map, List.length_map, List.length_take]
                      exact Nat.lt_of_le_of_lt (show min i ru.length ≤ 512 by omega) (by decide)
                    · rw [upd_ne (ne_of_none e2 hD)]
                      exact sm _ _ e2
                    · rw [upd_same, List.take_add_one, he]
                      simp
                · rw [List.length_map, lru, List.take_length] at hd
                  refine ⟨D, _, rfl, SqL.of hd, _, _, rfl, rfl, hD' _ _ ?_⟩
                  refine ⟨_, _, _, _, _, _, lay own' p3 .row, ra.set i p3, _, rfl, t3.trans lab1 (Stp.same sm t3.ok), hPic5.same t3.ok sm, ?_⟩
                  have e1 : (ru.map fun e => e.2.1 - e.1).sum = tchRow r c.outline c.width i := by
                    rw [hru.sum (by omega)]
                    have e2 : ((c.width : Int) - 0).toNat = c.width := by omega
                    rw [e2]
                    exact tch_pos fun x _ => (hcov x).symm
                  rw [e1, hcnt, sumN_succ]
          · have h0 : us.length = 0 := by
              have : ¬ ((0 : Int) < us.length) := fun z => e (decide_eq_true z)
              omega
            have hL0 : ((gsOf c.outline).filter (acr 0 (16 * (c.height : Int)))).filter (inRow (i : Int)) = [] := List.length_eq_zero_iff.mp (by omega)
            have hc0 : ∀ x : Nat, Sw24.covered r c.outline x i = 0 := fun x => by
              have z := hcov x
              rw [hL0, cvN_nil] at z
              omega
            have hsk : flRow r k c.outline i row0 = row0 := mapRow_id fun x b hb => by
              show Sw24.blend b k (Sw24.covered r c.outline x i) = b
              rw [hc0 x]
              exact blend_0 (hA.sm row0 hrm b (List.mem_of_getElem? hb))
            rw [toRows_skip hrow0 hsk] at hG'
            refine hD' _ _ ?_
            refine ⟨_, _, _, _, _, _, own', ra, cnt, rfl, stG, hG', ?_⟩
            rw [hcnt, sumN_succ, tch_0 fun x _ => hc0 x, Int.add_zero]
      · rintro σ G ⟨v4, v5, v6, v7, v8, v9, own', ra, cnt, rfl, st, hG, hcnt⟩
        rw [List.length_map, hn0] at hG hcnt
        have lab' := st.ok
        obtain ⟨dx5, p5⟩ := hG.ins
        intro x d hx hd ndx
        refine ⟨x, d, rfl, upd_same, fun H6 m nm h1 h2 h3 => ⟨rfl, ?_⟩⟩
        have sm6 : Same G H6 := fun b ob eb => h3 b ob (by rw [upd_ne (ne_of_none eb hx), upd_ne (ne_of_none eb hd)]; exact eb) (ne_of_none eb hx)
        have p6 := sm6 _ _ p5
        refine ⟨_, rfl, p, _, dx5, _, rfl, p6, T.cl_Picture, T.n_Picture_outline, by show 4 < 1000; decide, ?_⟩
        rw [picF_po]
        have nm' : G m = none := by
          by_cases z : m = x
          · rw [z]
            exact hx
          · by_cases z2 : m = d
            · rw [z2]
              exact hd
            · rw [upd_ne z, upd_ne z2] at nm
              exact nm
        have nmx : m ≠ x := fun z => by
          rw [z, upd_same] at nm
          cases nm
        have nxp : x ≠ p := Ne.symm (ne_of_none p5 hx)
        have nmp : m ≠ p := Ne.symm (ne_of_none p5 nm')
        have nxr : x ≠ rl := Ne.symm (ne_of_none hG.lst hx)
        have nmr : m ≠ rl := Ne.symm (ne_of_none hG.lst nm')
        have npr : p ≠ rl := lab_ne hG.lp hG.lr (by decide)
        have st6 : Stp isAny G own' H6 own' := Stp.same sm6 lab'
        have st7 := st6.trans lab' (Stp.put (a := p) (o := .ins a.c_Picture dx5 (picF c.width c.height rl x)) (r := .pic) st6.ok hG.lp trivial trivial)
        have x7 : upd H6 p (.ins a.c_Picture dx5 (picF c.width c.height rl x)) x = some (.ins a.c_Outline d (outF m 0)) := by
          rw [upd_ne nxp]
          exact h1
        have m7 : upd H6 p (.ins a.c_Picture dx5 (picF c.width c.height rl x)) m = some (.lst []) := by
          rw [upd_ne nmp]
          exact h2
        have st8 := st7.name (a := x) (r := .out) hx x7 trivial trivial
        have st9 := st8.name (a := m) (r := .rings) nm' m7 trivial trivial
        have stA : Stp isAny H own G own' := (Stp.same (S := isAny) s01 lab).trans lab (st.mono fun _ _ => trivial)
        have ecol : Sw24.filled c r k = { c with colours := (toRows (flRow r k c.outline) c.height rws).flatten, outline := [] } := by
          have z := filled_rows (rule := r) (new := k) hA.cols hA.ht hA.wd
          rw [← z]
          rfl
        have etch : (Sw24.touched c r : Int) = cnt := by rw [touched_eq, hcnt]
        rw [ecol, etch] at q
        refine ⟨_, rfl, q _ _ (stA.trans lab st9) ⟨rl, x, m, ra, toRows (flRow r k c.outline) c.height rws, [], ⟨dx5, upd_same⟩, ?_, ?_, ?_, ?_, rfl, hG.ht, hG.wd, szw, szh, hA.ww, hG.sm, OutAt.new (dx := d) x7 m7 ?_ ?_⟩⟩
        · rw [lay_ne (Ne.symm nmp), lay_ne (Ne.symm nxp)]
          exact hG.lp
        · rw [lay_ne (Ne.symm nmr), lay_ne (Ne.symm nxr)]
          exact hG.lr
        · rw [upd_ne (Ne.symm npr)]
          exact sm6 _ _ hG.lst
        · refine Paired.mapP hG.row fun b ns ⟨z1, z2⟩ => ⟨?_, ?_⟩
          · rw [lay_ne (ne_of_none z2 nm'), lay_ne (ne_of_none z2 hx)]
            exact z1
          · rw [upd_ne (lab_ne z1 hG.lp (by decide))]
            exact sm6 _ _ z2
        · rw [lay_ne (Ne.symm nmx), lay_same]
        · exact lay_same
end
end Of
set_option Elab.async false
set_option linter.all false
set_option maxRecDepth 100000
set_option maxHeartbeats 2000000
namespace Of
open PySem PySem.Spec PyProof.Rows L2
theorem Stp.free {S : Role → Prop} {H H' : Hp} {own own' : Lab} (s : Stp S H own H' own') (h : LabOk H own) {b : Addr} (e : H' b = Option.none) : H b = Option.none := by
  cases z : H b with
  | none => rfl
  | some o =>
    cases z2 : own b with
    | none =>
      rw [s.un z z2] at e
      cases e
    | some r =>
      obtain ⟨o', e', _⟩ := s.ok b r (s.lab z2 h)
      rw [e] at e'
      cases e'
theorem go_no {b : Bool} {A B : Prop} (h : b = false) (k : B) : if b = true then A else B := by
  subst h
  exact k
theorem go_yes {b : Bool} {A B : Prop} (h : b = true) (k : A) : if b = true then A else B := by
  subst h
  exact k
def noNums : Sw24.Call → Prop
  | .row _ => False
  | .box => False
  | _ => True
theorem nums_nil (c : Sw24.Picture) {x : Sw24.Call} (h : noNums x) : (Sw24.step c x).2.nums = [] := by
  cases x with
  | open_ w h => unfold Sw24.step; dsimp only; split <;> rfl
  | colour x y w h k => unfold Sw24.step; dsimp only; split <;> rfl
  | move x y => unfold Sw24.step; dsimp only; split; rfl; split <;> rfl
  | line x y => unfold Sw24.step; dsimp only; split; rfl; split <;> rfl
  | curve u v x y => unfold Sw24.step; dsimp only; split; rfl; split; rfl; split <;> rfl
  | fill r k => unfold Sw24.step; dsimp only; split <;> rfl
  | within r x y => unfold Sw24.step; dsimp only; split <;> rfl
  | row y => exact h.elim
  | box => exact h.elim
theorem fin_code {a : Adr} {H H' : Hp} {own own' : Lab} {p u : Addr} {s1 : Sw24.Picture} {code : Int} {ans : List Int} {Q : VK} (lab : LabOk H own) (st : Stp isAny H own H' own') (hP' : Pic a H' own' p s1) (hu : H' u = none)
    (q : ∀ (H' : Hp) (own' : Lab) (q : Addr), Stp isAny H own H' own' → Pic a H' own' p s1 → H' q = some (.lst (ans.map V.int)) → own' q = none → H q = none → Q (.ref q) H') (e : ans = [code]) : Q (.ref u) (upd H' u (.lst [.int code])) := by
  subst e
  have s := same_new (o := .lst [.int code]) hu
  exact q _ own' u (st.trans lab (Stp.same s st.ok)) (hP'.same st.ok s) upd_same (st.ok.free hu) (st.free lab hu)
theorem neutral_of {c : Sw24.Picture} {l : List Int} {x : Sw24.Call} (h : Sw24Neutral.callOf [l] = some x) : Sw24Neutral.step c [l] = ((Sw24.step c x).1, (Sw24.step c x).2.code :: (Sw24.step c x).2.nums) := by
  unfold Sw24Neutral.step
  rw [h]
theorem nat32 {k : Int} (hk : Sw24Neutral.natural k 32 = true) : ∃ m : Nat, k = m ∧ m < 4294967296 := by
  unfold Sw24Neutral.natural at hk
  rw [Bool.and_eq_true, decide_eq_true_eq, decide_eq_true_eq] at hk
  obtain ⟨h1, h2⟩ := hk
  have h3 : k < 4294967296 := h2
  exact ⟨k.toNat, by omega, by omega⟩
theorem no_way {X : Prop} (h : false = true) : X := absurd h (by decide)
theorem asked_cases {n : Int} {args : List Int} (n1 : 1 ≤ n) (n9 : n ≤ 9) (h : Sw24Neutral.asked1 [n :: args] = true) :
    (∃ w h, n = 1 ∧ args = [w, h]) ∨ (∃ x y w h, ∃ k : Nat, n = 2 ∧ args = [x, y, w, h, (k : Int)] ∧ k < 4294967296) ∨ (∃ x y, n = 3 ∧ args = [x, y]) ∨ (∃ x y, n = 4 ∧ args = [x, y]) ∨ (∃ u v x y, n = 5 ∧ args = [u, v, x, y]) ∨
    (∃ r, ∃ k : Nat, n = 6 ∧ args = [r, (k : Int)] ∧ k < 4294967296) ∨ (∃ r x y, n = 7 ∧ args = [r, x, y]) ∨ (∃ y, n = 8 ∧ args = [y]) ∨ (n = 9 ∧ args = []) := by
  have e : n = 1 ∨ n = 2 ∨ n = 3 ∨ n = 4 ∨ n = 5 ∨ n = 6 ∨ n = 7 ∨ n = 8 ∨ n = 9 := by omega
  rcases e with e | e | e | e | e | e | e | e | e <;> subst e
  · match args, h with
    | [], h => exact no_way h
    | [_], h => exact no_way h
    | [x0, x1], h => exact .inl ⟨x0, x1, rfl, rfl⟩
    | _ :: _ :: _ :: _, h => exact no_way h
  · match args, h with
    | [], h => exact no_way h
    | [_], h => exact no_way h
    | [_, _], h => exact no_way h
    | [_, _, _], h => exact no_way h
    | [_, _, _, _], h => exact no_way h
    | [x0, x1, x2, x3, x4], h =>
      have h' : (Sw24Neutral.whole32 x0 && (Sw24Neutral.whole32 x1 && (Sw24Neutral.whole32 x2 && (Sw24Neutral.whole32 x3 && (Sw24Neutral.natural x4 32))))) = true := h
      simp only [Bool.and_eq_true_iff] at h'
      obtain ⟨m, rfl, hm⟩ := nat32 h'.2.2.2.2
      exact .inr (.inl ⟨x0, x1, x2, x3, m, rfl, rfl, hm⟩)
    | _ :: _ :: _ :: _ :: _ :: _ :: _, h => exact no_way h
  · match args, h with
    | [], h => exact no_way h
    | [_], h => exact no_way h
    | [x0, x1], h => exact .inr (.inr (.inl ⟨x0, x1, rfl, rfl⟩))
    | _ :: _ :: _ :: _, h => exact no_way h
  · match args, h with
    | [], h => exact no_way h
    | [_], h => exact no_way h
    | [x0, x1], h => exact .inr (.inr (.inr (.inl ⟨x0, x1, rfl, rfl⟩)))
    | _ :: _ :: _ :: _, h => exact no_way h
  · match args, h with
    | [], h => exact no_way h
    | [_], h => exact no_way h
    | [_, _], h => exact no_way h
    | [_, _, _], h => exact no_way h
    | [x0, x1, x2, x3], h => exact .inr (.inr (.inr (.inr (.inl ⟨x0, x1, x2, x3, rfl, rfl⟩))))
    | _ :: _ :: _ :: _ :: _ :: _, h => exact no_way h
  · match args, h with
    | [], h => exact no_way h
    | [_], h => exact no_way h
    | [x0, x1], h =>
      have h' : (Sw24Neutral.whole32 x0 && (Sw24Neutral.natural x1 32)) = true := h
      obtain ⟨m, rfl, hm⟩ := nat32 (Bool.and_eq_true_iff.mp h').2
      exact .inr (.inr (.inr (.inr (.inr (.inl ⟨x0, m, rfl, rfl, hm⟩)))))
    | _ :: _ :: _ :: _, h => exact no_way h
  · match args, h with
    | [], h => exact no_way h
    | [_], h => exact no_way h
    | [_, _], h => exact no_way h
    | [x0, x1, x2], h => exact .inr (.inr (.inr (.inr (.inr (.inr (.inl ⟨x0, x1, x2, rfl, rfl⟩))))))
    | _ :: _ :: _ :: _ :: _, h => exact no_way h
  · match args, h with
    | [], h => exact no_way h
    | [x0], h => exact .inr (.inr (.inr (.inr (.inr (.inr (.inr (.inl ⟨x0, rfl, rfl⟩)))))))
    | _ :: _ :: _, h => exact no_way h
  · match args, h with
    | [], h => exact .inr (.inr (.inr (.inr (.inr (.inr (.inr (.inr (⟨rfl, rfl⟩))))))))
    | _ :: _, h => exact no_way h
section
variable {P : Program} {w : World} {K : PySem.W.Frag} {mg : Str → Option Value} {base : Heap} {a : Adr}
theorem scCall : FnScope ["picture", "call", "numbers"] ps_answer_call (defScope st_answer_call) := ⟨rfl, rfl, rfl, by decide +kernel, rfl, by decide +kernel, by decide +kernel⟩
theorem ok_call (T : Txt K mg a) : FnOk P w K mg base CX0 7 a.a_answer_call a.d_answer_call ps_answer_call (spCallOne a) := by
  have G1 := ok_open (P := P) (w := w) (base := base) T
  have G2 := ok_paint (P := P) (w := w) (base := base) T
  have G3 := ok_move (P := P) (w := w) (base := base) T
  have G4 := ok_line (P := P) (w := w) (base := base) T
  have G5 := ok_curve (P := P) (w := w) (base := base) T
  have G6 := ok_fill (P := P) (w := w) (base := base) T
  have G7 := ok_within (P := P) (w := w) (base := base) T
  have G8 := ok_row (P := P) (w := w) (base := base) T
  have G9 := ok_box (P := P) (w := w) (base := base) T
  refine T.f_answer_call.ok scCall (fun vs H Q E h => ?_) (fun cdv A outer s H vs Q E hr h => ?_)
  · obtain ⟨p, b, n, args, own, c, rfl, _⟩ := h
    rfl
  · obtain ⟨p, b, n, args, own, c, rfl, lab, hP, hb, nb, hask, n1, n9, q⟩ := h
    have hr1 : Room 1 _ := hr.mono (show 1 ≤ 6 by decide)
    have hr2 : Room 2 _ := hr.mono (show 2 ≤ 6 by decide)
    have hr3 : Room 3 _ := hr.mono (show 3 ≤ 6 by decide)
    refine ⟨_, pss_cons (ps_if (pt_cmpR op_eq (pv 1) (pe_gint T.k_OPEN_CALL) (nomark _)) (pss_one (ps_ret (pe_lst (pa_cons (pe_meth (pv 0) T.cl_Picture T.m_Picture_begin G1 hr3 T.b_Picture_begin .nil pass0 (pa_cons (pe_ix ix_list (pv 2) pe_int (fun _ _ => rfl)) (pa_cons (pe_ix ix_list (pv 2) pe_int (fun _ _ => rfl)) pa_nil))) pa_nil)))) pss_nil)
      (pss_cons (ps_if (pt_cmpR op_eq (pv 1) (pe_gint T.k_COLOUR_CALL) (nomark _)) (pss_one (ps_ret (pe_lst (pa_cons (pe_meth (pv 0) T.cl_Picture T.m_Picture_paint G2 hr2 T.b_Picture_paint .nil pass0 (pa_cons (pe_ix ix_list (pv 2) pe_int (fun _ _ => rfl)) (pa_cons (pe_ix ix_list (pv 2) pe_int (fun _ _ => rfl)) (pa_cons (pe_ix ix_list (pv 2) pe_int (fun _ _ => rfl)) (pa_cons (pe_ix ix_list (pv 2) pe_int (fun _ _ => rfl)) (pa_cons (pe_ix ix_list (pv 2) pe_int (fun _ _ => rfl)) pa_nil)))))) pa_nil)))) pss_nil)
      (pss_cons (ps_if (pt_cmpR op_eq (pv 1) (pe_gint T.k_MOVE_CALL) (nomark _)) (pss_one (ps_ret (pe_lst (pa_cons (pe_meth (pv 0) T.cl_Picture T.m_Picture_move G3 hr2 T.b_Picture_move .nil pass0 (pa_cons (pe_ix ix_list (pv 2) pe_int (fun _ _ => rfl)) (pa_cons (pe_ix ix_list (pv 2) pe_int (fun _ _ => rfl)) pa_nil))) pa_nil)))) pss_nil)
      (pss_cons (ps_if (pt_cmpR op_eq (pv 1) (pe_gint T.k_LINE_CALL) (nomark _)) (pss_one (ps_ret (pe_lst (pa_cons (pe_meth (pv 0) T.cl_Picture T.m_Picture_line G4 hr3 T.b_Picture_line .nil pass0 (pa_cons (pe_ix ix_list (pv 2) pe_int (fun _ _ => rfl)) (pa_cons (pe_ix ix_list (pv 2) pe_int (fun _ _ => rfl)) pa_nil))) pa_nil)))) pss_nil)
      (pss_cons (ps_if (pt_cmpR op_eq (pv 1) (pe_gint T.k_CURVE_CALL) (nomark _)) (pss_one (ps_ret (pe_lst (pa_cons (pe_meth (pv 0) T.cl_Picture T.m_Picture_curve G5 hr3 T.b_Picture_curve .nil pass0 (pa_cons (pe_ix ix_list (pv 2) pe_int (fun _ _ => rfl)) (pa_cons (pe_ix ix_list (pv 2) pe_int (fun _ _ => rfl)) (pa_cons (pe_ix ix_list (pv 2) pe_int (fun _ _ => rfl)) (pa_cons (pe_ix ix_list (pv 2) pe_int (fun _ _ => rfl)) pa_nil))))) pa_nil)))) pss_nil)
      (pss_cons (ps_if (pt_cmpR op_eq (pv 1) (pe_gint T.k_FILL_CALL) (nomark _)) (pss_one (ps_ret (pe_lst (pa_cons (pe_meth (pv 0) T.cl_Picture T.m_Picture_fill G6 hr T.b_Picture_fill .nil pass0 (pa_cons (pe_ix ix_list (pv 2) pe_int (fun _ _ => rfl)) (pa_cons (pe_ix ix_list (pv 2) pe_int (fun _ _ => rfl)) pa_nil))) pa_nil)))) pss_nil)
      (pss_cons (ps_if (pt_cmpR op_eq (pv 1) (pe_gint T.k_WITHIN_CALL) (nomark _)) (pss_one (ps_ret (pe_lst (pa_cons (pe_meth (pv 0) T.cl_Picture T.m_Picture_within G7 hr T.b_Picture_within .nil pass0 (pa_cons (pe_ix ix_list (pv 2) pe_int (fun _ _ => rfl)) (pa_cons (pe_ix ix_list (pv 2) pe_int (fun _ _ => rfl)) (pa_cons (pe_ix ix_list (pv 2) pe_int (fun _ _ => rfl)) pa_nil)))) pa_nil)))) pss_nil)
      (pss_cons (ps_if (pt_cmpR op_eq (pv 1) (pe_gint T.k_ROW_CALL) (nomark _)) (pss_one (ps_ret (pe_meth (pv 0) T.cl_Picture T.m_Picture_row G8 hr1 T.b_Picture_row .nil pass0 (pa_cons (pe_ix ix_list (pv 2) pe_int (fun _ _ => rfl)) pa_nil)))) pss_nil)
      (pss_one (ps_ret (pe_meth0 (pv 0) T.cl_Picture T.m_Picture_box G9 hr2 T.b_Picture_box .nil pass0)))))))))), ?_⟩
    obtain ⟨rl, o, l, rows, rws, rs, hA⟩ := id hP
    obtain ⟨dx, hi⟩ := hA.ins
    rcases asked_cases n1 n9 hask with ⟨w', h', rfl, rfl⟩ | ⟨x, y, w', h', k, rfl, rfl, hk⟩ | ⟨x, y, rfl, rfl⟩ | ⟨x, y, rfl, rfl⟩ | ⟨u, v, x, y, rfl, rfl⟩ | ⟨r, k, rfl, rfl, hk⟩ | ⟨r, x, y, rfl, rfl⟩ | ⟨y, rfl, rfl⟩ | ⟨rfl, rfl⟩
    · rw [neutral_of (x := .open_ w' h') rfl, nums_nil c (x := .open_ w' h') trivial] at q
      refine seq_abs fun N hN => ⟨_, rfl, rfl, _, rfl, go_yes (by decide) ?_⟩
      refine ⟨_, rfl, p, dx, _, rfl, hi, picF_no (by decide +kernel) (by decide +kernel) (by decide +kernel) (by decide +kernel), _, rfl, b, _, 0, _, rfl, rfl, SqL.of hb, rfl, _, rfl, b, _, 1, _, rfl, rfl, SqL.of hb, rfl, p, w', h', rfl, own, c, lab, hP, fun H' own' st hP' => ⟨by show 1 ≤ sizeLine; decide, fun u hu => fin_code lab st hP' hu q rfl⟩⟩
    · rw [neutral_of (x := .colour x y w' h' k) (by show some (Sw24.Call.colour x y w' h' (k : Int).toNat) = _; rw [Int.toNat_natCast]), nums_nil c (x := .colour x y w' h' k) trivial] at q
      refine seq_abs fun N hN => ⟨_, rfl, rfl, _, rfl, go_no (by decide) (hN _ _ ?_)⟩
      refine seq_abs fun N hN => ⟨_, rfl, rfl, _, rfl, go_yes (by decide) ?_⟩
      refine ⟨_, rfl, p, dx, _, rfl, hi, picF_no (by decide +kernel) (by decide +kernel) (by decide +kernel) (by decide +kernel), _, rfl, b, _, 0, _, rfl, rfl, SqL.of hb, rfl, _, rfl, b, _, 1, _, rfl, rfl, SqL.of hb, rfl, _, rfl, b, _, 2, _, rfl, rfl, SqL.of hb, rfl, _, rfl, b, _, 3, _, rfl, rfl, SqL.of hb, rfl, _, rfl, b, _, 4, _, rfl, rfl, SqL.of hb, rfl, p, x, y, w', h', k, rfl, hk, own, c, lab, hP, fun H' own' st hP' => ⟨by show 1 ≤ sizeLine; decide, fun u hu => fin_code lab st hP' hu q rfl⟩⟩
    · rw [neutral_of (x := .move x y) rfl, nums_nil c (x := .move x y) trivial] at q
      refine seq_abs fun N hN => ⟨_, rfl, rfl, _, rfl, go_no (by decide) (hN _ _ ?_)⟩
      refine seq_abs fun N hN => ⟨_, rfl, rfl, _, rfl, go_no (by decide) (hN _ _ ?_)⟩
      refine seq_abs fun N hN => ⟨_, rfl, rfl, _, rfl, go_yes (by decide) ?_⟩
      refine ⟨_, rfl, p, dx, _, rfl, hi, picF_no (by decide +kernel) (by decide +kernel) (by decide +kernel) (by decide +kernel), _, rfl, b, _, 0, _, rfl, rfl, SqL.of hb, rfl, _, rfl, b, _, 1, _, rfl, rfl, SqL.of hb, rfl, p, x, y, rfl, own, c, lab, hP, fun H' own' st hP' => ⟨by show 1 ≤ sizeLine; decide, fun u hu => fin_code lab st hP' hu q rfl⟩⟩
    · rw [neutral_of (x := .line x y) rfl, nums_nil c (x := .line x y) trivial] at q
      refine seq_abs fun N hN => ⟨_, rfl, rfl, _, rfl, go_no (by decide) (hN _ _ ?_)⟩
      refine seq_abs fun N hN => ⟨_, rfl, rfl, _, rfl, go_no (by decide) (hN _ _ ?_)⟩
      refine seq_abs fun N hN => ⟨_, rfl, rfl, _, rfl, go_no (by decide) (hN _ _ ?_)⟩
      refine seq_abs fun N hN => ⟨_, rfl, rfl, _, rfl, go_yes (by decide) ?_⟩
      refine ⟨_, rfl, p, dx, _, rfl, hi, picF_no (by decide +kernel) (by decide +kernel) (by decide +kernel) (by decide +kernel), _, rfl, b, _, 0, _, rfl, rfl, SqL.of hb, rfl, _, rfl, b, _, 1, _, rfl, rfl, SqL.of hb, rfl, p, x, y, rfl, own, c, lab, hP, fun H' own' st hP' => ⟨by show 1 ≤ sizeLine; decide, fun u hu => fin_code lab st hP' hu q rfl⟩⟩
    · rw [neutral_of (x := .curve u v x y) rfl, nums_nil c (x := .curve u v x y) trivial] at q
      refine seq_abs fun N hN => ⟨_, rfl, rfl, _, rfl, go_no (by decide) (hN _ _ ?_)⟩
      refine seq_abs fun N hN => ⟨_, rfl, rfl, _, rfl, go_no (by decide) (hN _ _ ?_)⟩
      refine seq_abs fun N hN => ⟨_, rfl, rfl, _, rfl, go_no (by decide) (hN _ _ ?_)⟩
      refine seq_abs fun N hN => ⟨_, rfl, rfl, _, rfl, go_no (by decide) (hN _ _ ?_)⟩
      refine seq_abs fun N hN => ⟨_, rfl, rfl, _, rfl, go_yes (by decide) ?_⟩
      refine ⟨_, rfl, p, dx, _, rfl, hi, picF_no (by decide +kernel) (by decide +kernel) (by decide +kernel) (by decide +kernel), _, rfl, b, _, 0, _, rfl, rfl, SqL.of hb, rfl, _, rfl, b, _, 1, _, rfl, rfl, SqL.of hb, rfl, _, rfl, b, _, 2, _, rfl, rfl, SqL.of hb, rfl, _, rfl, b, _, 3, _, rfl, rfl, SqL.of hb, rfl, p, u, v, x, y, rfl, own, c, lab, hP, fun H' own' st hP' => ⟨by show 1 ≤ sizeLine; decide, fun u hu => fin_code lab st hP' hu q rfl⟩⟩
    · rw [neutral_of (x := .fill r k) (by show some (Sw24.Call.fill r (k : Int).toNat) = _; rw [Int.toNat_natCast]), nums_nil c (x := .fill r k) trivial] at q
      refine seq_abs fun N hN => ⟨_, rfl, rfl, _, rfl, go_no (by decide) (hN _ _ ?_)⟩
      refine seq_abs fun N hN => ⟨_, rfl, rfl, _, rfl, go_no (by decide) (hN _ _ ?_)⟩
      refine seq_abs fun N hN => ⟨_, rfl, rfl, _, rfl, go_no (by decide) (hN _ _ ?_)⟩
      refine seq_abs fun N hN => ⟨_, rfl, rfl, _, rfl, go_no (by decide) (hN _ _ ?_)⟩
      refine seq_abs fun N hN => ⟨_, rfl, rfl, _, rfl, go_no (by decide) (hN _ _ ?_)⟩
      refine seq_abs fun N hN => ⟨_, rfl, rfl, _, rfl, go_yes (by decide) ?_⟩
      refine ⟨_, rfl, p, dx, _, rfl, hi, picF_no (by decide +kernel) (by decide +kernel) (by decide +kernel) (by decide +kernel), _, rfl, b, _, 0, _, rfl, rfl, SqL.of hb, rfl, _, rfl, b, _, 1, _, rfl, rfl, SqL.of hb, rfl, p, r, k, rfl, hk, own, c, lab, hP, fun H' own' st hP' => ⟨by show 1 ≤ sizeLine; decide, fun u hu => fin_code lab st hP' hu q rfl⟩⟩
    · rw [neutral_of (x := .within r x y) rfl, nums_nil c (x := .within r x y) trivial] at q
      refine seq_abs fun N hN => ⟨_, rfl, rfl, _, rfl, go_no (by decide) (hN _ _ ?_)⟩
      refine seq_abs fun N hN => ⟨_, rfl, rfl, _, rfl, go_no (by decide) (hN _ _ ?_)⟩
      refine seq_abs fun N hN => ⟨_, rfl, rfl, _, rfl, go_no (by decide) (hN _ _ ?_)⟩
      refine seq_abs fun N hN => ⟨_, rfl, rfl, _, rfl, go_no (by decide) (hN _ _ ?_)⟩
      refine seq_abs fun N hN => ⟨_, rfl, rfl, _, rfl, go_no (by decide) (hN _ _ ?_)⟩
      refine seq_abs fun N hN => ⟨_, rfl, rfl, _, rfl, go_no (by decide) (hN _ _ ?_)⟩
      refine seq_abs fun N hN => ⟨_, rfl, rfl, _, rfl, go_yes (by decide) ?_⟩
      refine ⟨_, rfl, p, dx, _, rfl, hi, picF_no (by decide +kernel) (by decide +kernel) (by decide +kernel) (by decide +kernel), _, rfl, b, _, 0, _, rfl, rfl, SqL.of hb, rfl, _, rfl, b, _, 1, _, rfl, rfl, SqL.of hb, rfl, _, rfl, b, _, 2, _, rfl, rfl, SqL.of hb, rfl, p, r, x, y, rfl, own, c, lab, hP, fun H' own' st hP' => ⟨by show 1 ≤ sizeLine; decide, fun u hu => fin_code lab st hP' hu q rfl⟩⟩
    · rw [neutral_of (x := .row y) rfl] at q
      refine seq_abs fun N hN => ⟨_, rfl, rfl, _, rfl, go_no (by decide) (hN _ _ ?_)⟩
      refine seq_abs fun N hN => ⟨_, rfl, rfl, _, rfl, go_no (by decide) (hN _ _ ?_)⟩
      refine seq_abs fun N hN => ⟨_, rfl, rfl, _, rfl, go_no (by decide) (hN _ _ ?_)⟩
      refine seq_abs fun N hN => ⟨_, rfl, rfl, _, rfl, go_no (by decide) (hN _ _ ?_)⟩
      refine seq_abs fun N hN => ⟨_, rfl, rfl, _, rfl, go_no (by decide) (hN _ _ ?_)⟩
      refine seq_abs fun N hN => ⟨_, rfl, rfl, _, rfl, go_no (by decide) (hN _ _ ?_)⟩
      refine seq_abs fun N hN => ⟨_, rfl, rfl, _, rfl, go_no (by decide) (hN _ _ ?_)⟩
      refine seq_abs fun N hN => ⟨_, rfl, rfl, _, rfl, go_yes (by decide) ?_⟩
      exact ⟨_, rfl, p, dx, _, rfl, hi, picF_no (by decide +kernel) (by decide +kernel) (by decide +kernel) (by decide +kernel), _, rfl, b, _, 0, _, rfl, rfl, SqL.of hb, rfl, p, y, rfl, own, c, lab, hP, q⟩
    · rw [neutral_of (x := .box) rfl] at q
      refine seq_abs fun N hN => ⟨_, rfl, rfl, _, rfl, go_no (by decide) (hN _ _ ?_)⟩
      refine seq_abs fun N hN => ⟨_, rfl, rfl, _, rfl, go_no (by decide) (hN _ _ ?_)⟩
      refine seq_abs fun N hN => ⟨_, rfl, rfl, _, rfl, go_no (by decide) (hN _ _ ?_)⟩
      refine seq_abs fun N hN => ⟨_, rfl, rfl, _, rfl, go_no (by decide) (hN _ _ ?_)⟩
      refine seq_abs fun N hN => ⟨_, rfl, rfl, _, rfl, go_no (by decide) (hN _ _ ?_)⟩
      refine seq_abs fun N hN => ⟨_, rfl, rfl, _, rfl, go_no (by decide) (hN _ _ ?_)⟩
      refine seq_abs fun N hN => ⟨_, rfl, rfl, _, rfl, go_no (by decide) (hN _ _ ?_)⟩
      refine seq_abs fun N hN => ⟨_, rfl, rfl, _, rfl, go_no (by decide) (hN _ _ ?_)⟩
      exact ⟨_, rfl, p, dx, _, rfl, hi, picF_no (by decide +kernel) (by decide +kernel) (by decide +kernel) (by decide +kernel), p, rfl, own, c, lab, hP, q⟩
theorem ac_at (T : Txt K mg a) (H : Hp) (p : Int) (h1 : 1 ≤ p) (h9 : p ≤ 9) : ∃ xs, SqT K H a.t_ARGUMENT_COUNTS xs ∧ atI xs p = some (.int (argN p)) := by
  refine ⟨_, T.t_ARGUMENT_COUNTS H, ?_⟩
  have e : p = 1 ∨ p = 2 ∨ p = 3 ∨ p = 4 ∨ p = 5 ∨ p = 6 ∨ p = 7 ∨ p = 8 ∨ p = 9 := by omega
  rcases e with e | e | e | e | e | e | e | e | e <;> subst e <;> rfl
theorem ok_all (T : Txt K mg a) : FnOk P w K mg base CX0 8 a.a_answers a.d_answers ps_answers (spAns K) := ok_answers (by decide) T (ok_call T) (ac_at T)
end
end Of
open PySem PySem.W PyProof.Rows
set_option Elab.async false
namespace Of
open L2
theorem fin_mk {P : Program} {w : World} {K : PySem.W.Frag} {mg : Str → Option Value} {fa : Addr} {a : Adr} (T : Txt K mg a) (e : mg "answers" = some (.ref fa)) (ok : ∀ base : Heap, FnOk P w K mg base CX0 30 a.a_answers a.d_answers ["calls"] (spAns K)) :
    ∃ fd : FuncData, (∀ (s : Shared) (us : List Value), us.length = (["calls"] : List Str).length → BindsTo s fd ⟨us, []⟩ ((["calls"] : List Str).zip us)) ∧ ∀ base : Heap, K.In base → base.Ns mainGlobals mg → FnOk P w K mg base CX0 30 fa fd ["calls"] (spAns K) := by
  have e2 := e.symm.trans T.g_answers
  cases e2
  exact ⟨a.d_answers, T.bd_answers, fun base _ _ => ok base⟩
end Of
/-! The step k_headS can lay a second form of each of this program's own big constants, for speed, and a proof that both forms are one. It needs neither.
Where the second form's name is taken it goes on with the constant itself. The names below are taken so that the compiled text stays small. Nothing rests on them. -/
def PySem.W.Fast.tw6698999739332049112 : Unit := ()
def PySem.W.Fast.tw16697175620512024878 : Unit := ()
def PySem.W.Fast.tw6783561464210979851 : Unit := ()
def PySem.W.Fast.tw13727059671414054842 : Unit := ()
def PySem.W.Fast.tw13081971729268402289 : Unit := ()
def PySem.W.Fast.tw16446676194202435677 : Unit := ()
def PySem.W.Fast.tw7619192227559052501 : Unit := ()
def PySem.W.Fast.tw16294119850682580296 : Unit := ()
def PySem.W.Fast.tw18257592823785025036 : Unit := ()
def PySem.W.Fast.tw2325237289023883745 : Unit := ()
def PySem.W.Fast.tw6072074202298199483 : Unit := ()
def PySem.W.Fast.tw14836846686065765961 : Unit := ()
def PySem.W.Fast.tw11257521282147606857 : Unit := ()
def PySem.W.Fast.tw842295166224458511 : Unit := ()
def PySem.W.Fast.tw16393573683298455539 : Unit := ()
def PySem.W.Fast.tw17503205658263241803 : Unit := ()
def PySem.W.Fast.tw1773017033786182392 : Unit := ()
def PySem.W.Fast.tw6456880100762524437 : Unit := ()
def PySem.W.Fast.tw13481502282346053386 : Unit := ()
def PySem.W.Fast.tw12575897081661186915 : Unit := ()
set_option maxRecDepth 100000 in
set_option maxHeartbeats 0 in
theorem PySem.Challenge.cw_outlinefill_s01_answers_holds : PySem.Challenge.rw_outlinefill_s01_answers.Holds := by
  w_on; k_headS; (case hw => exact ⟨[.list [.int 1, .int 1, .int 1]], by decide +kernel, by decide +kernel⟩)
  k_fillS
  refine L2.walk_specK (r := PySem.Challenge.rw_outlinefill_s01_answers) (k := 30) (CX := L2.CX0) (ps := ["calls"]) (sp := Of.spAns) (by decide +kernel) rfl rfl ⟨rfl, by decide, by decide⟩ (fun w h Y => PySem.W.kIn_of Y) ?F ?S (fun _ _ _ _ z => z)
  case F =>
    intro w mg fa h Y KX G hmg
    have T : ∃ a, Of.Txt (L2.KOf KX) mg a := by
      dsimp only [L2.KOf]
      refine' Of.txt_mk KX G ?aC_Step ?aC_Outline ?aC_Picture ?a_blended ?l_blended ?e_blended ?k_blended ?a_blended_run ?l_blended_run ?e_blended_run ?k_blended_run ?a_blended_row ?l_blended_row ?e_blended_row ?k_blended_row ?a_row_below ?l_row_below ?e_row_below ?k_row_below ?a_Step_init ?i_Step_init ?l_Step_init ?e_Step_init ?k_Step_init ?a_Step_limits ?i_Step_limits ?l_Step_limits ?e_Step_limits ?k_Step_limits ?a_steps_across ?l_steps_across ?e_steps_across ?k_steps_across ?a_steps_by_place_row ?l_steps_by_place_row ?e_steps_by_place_row ?k_steps_by_place_row ?a_turns_of_place_row ?l_turns_of_place_row ?e_turns_of_place_row ?k_turns_of_place_row ?a_spans_within ?l_spans_within ?e_spans_within ?k_spans_within ?a_spans_of_place_row ?l_spans_of_place_row ?e_spans_of_place_row ?k_spans_of_place_row ?a_add_columns ?l_add_columns ?e_add_columns ?k_add_columns ?a_runs_of_place_row ?l_runs_of_place_row ?e_runs_of_place_row ?k_runs_of_place_row ?a_samples_within ?l_samples_within ?e_samples_within ?k_samples_within ?a_curve_coordinate ?l_curve_coordinate ?e_curve_coordinate ?k_curve_coordinate ?a_curve_points ?l_curve_points ?e_curve_points ?k_curve_points ?a_Outline_init ?i_Outline_init ?l_Outline_init ?e_Outline_init ?k_Outline_init ?a_Outline_has_room ?i_Outline_has_room ?l_Outline_has_room ?e_Outline_has_room ?k_Outline_has_room ?a_Outline_can_lead_on ?i_Outline_can_lead_on ?l_Outline_can_lead_on ?e_Outline_can_lead_on ?k_Outline_can_lead_on ?a_Outline_last_point ?i_Outline_last_point ?l_Outline_last_point ?e_Outline_last_point ?k_Outline_last_point ?a_Outline_begin_ring ?i_Outline_begin_ring ?l_Outline_begin_ring ?e_Outline_begin_ring ?k_Outline_begin_ring ?a_Outline_lead_on ?i_Outline_lead_on ?l_Outline_lead_on ?e_Outline_lead_on ?k_Outline_lead_on ?a_Outline_points ?i_Outline_points ?l_Outline_points ?e_Outline_points ?k_Outline_points ?a_Outline_lines ?i_Outline_lines ?l_Outline_lines ?e_Outline_lines ?k_Outline_lines ?a_is_side ?l_is_side ?e_is_side ?k_is_side ?a_is_colour ?l_is_colour ?e_is_colour ?k_is_colour ?a_is_rule ?l_is_rule ?e_is_rule ?k_is_rule ?a_are_coordinates ?l_are_coordinates ?e_are_coordinates ?k_are_coordinates ?a_Picture_init ?i_Picture_init ?l_Picture_init ?e_Picture_init ?k_Picture_init ?a_Picture_begin ?i_Picture_begin ?l_Picture_begin ?e_Picture_begin ?k_Picture_begin ?a_Picture_holds_box ?i_Picture_holds_box ?l_Picture_holds_box ?e_Picture_holds_box ?k_Picture_holds_box ?a_Picture_paint ?i_Picture_paint ?l_Picture_paint ?e_Picture_paint ?k_Picture_paint ?a_Picture_move ?i_Picture_move ?l_Picture_move ?e_Picture_move ?k_Picture_move ?a_Picture_line ?i_Picture_line ?l_Picture_line ?e_Picture_line ?k_Picture_line ?a_Picture_curve ?i_Picture_curve ?l_Picture_curve ?e_Picture_curve ?k_Picture_curve ?a_Picture_fill ?i_Picture_fill ?l_Picture_fill ?e_Picture_fill ?k_Picture_fill ?a_Picture_within ?i_Picture_within ?l_Picture_within ?e_Picture_within ?k_Picture_within ?a_Picture_row ?i_Picture_row ?l_Picture_row ?e_Picture_row ?k_Picture_row ?a_Picture_box ?i_Picture_box ?l_Picture_box ?e_Picture_box ?k_Picture_box ?a_answer_call ?l_answer_call ?e_answer_call ?k_answer_call ?a_answers ?l_answers ?e_answers ?k_answers ?pg_Step ?hd_Step ?po_Step ?sa_Step ?mk_Step ?kc_Step ?n_Step_first ?n_Step_end ?n_Step_turn ?n_Step_scale ?n_Step_slope ?n_Step_base ?pg_Outline ?hd_Outline ?po_Outline ?sa_Outline ?mk_Outline ?kc_Outline ?n_Outline_rings ?n_Outline_point_count ?pg_Picture ?hd_Picture ?po_Picture ?sa_Picture ?mk_Picture ?kc_Picture ?n_Picture_width ?n_Picture_height ?n_Picture_rows ?n_Picture_outline ?c_ALL_SAMPLES ?c_SAMPLES ?c_MOST_POINTS ?c_CURVE_STEPS ?c_OUT_OF_RANGE ?c_REFUSED ?c_LARGEST_SIDE ?c_FARTHEST ?c_LARGEST_COLOUR ?c_OPEN_CALL ?c_COLOUR_CALL ?c_MOVE_CALL ?c_LINE_CALL ?c_CURVE_CALL ?c_FILL_CALL ?c_WITHIN_CALL ?c_ROW_CALL ?c_PART_SHIFTS ?l_PART_SHIFTS ?c_TELLING_BITS ?l_TELLING_BITS ?c_ARGUMENT_COUNTS ?l_ARGUMENT_COUNTS ?z_range ?z_len ?z_all ?z_sorted ?z_min ?z_max ?z_sum ?z_enumerate ?z_zip ?z_list
      (case aC_Step => k_is)
      (case aC_Outline => k_is)
      (case aC_Picture => k_is)
      (case a_blended => k_is)
      (case l_blended => k_is)
      (case e_blended => k_is)
      (case k_blended => k_is)
      (case a_blended_run => k_is)
      (case l_blended_run => k_is)
      (case e_blended_run => k_is)
      (case k_blended_run => k_is)
      (case a_blended_row => k_is)
      (case l_blended_row => k_is)
      (case e_blended_row => k_is)
      (case k_blended_row => k_is)
      (case a_row_below => k_is)
      (case l_row_below => k_is)
      (case e_row_below => k_is)
      (case k_row_below => k_is)
      (case a_Step_init => k_is)
      (case i_Step_init => k_is)
      (case l_Step_init => k_is)
      (case e_Step_init => k_is)
      (case k_Step_init => k_is)
      (case a_Step_limits => k_is)
      (case i_Step_limits => k_is)
      (case l_Step_limits => k_is)
      (case e_Step_limits => k_is)
      (case k_Step_limits => k_is)
      (case a_steps_across => k_is)
      (case l_steps_across => k_is)
      (case e_steps_across => k_is)
      (case k_steps_across => k_is)
      (case a_steps_by_place_row => k_is)
      (case l_steps_by_place_row => k_is)
      (case e_steps_by_place_row => k_is)
      (case k_steps_by_place_row => k_is)
      (case a_turns_of_place_row => k_is)
      (case l_turns_of_place_row => k_is)
      (case e_turns_of_place_row => k_is)
      (case k_turns_of_place_row => k_is)
      (case a_spans_within => k_is)
      (case l_spans_within => k_is)
      (case e_spans_within => k_is)
      (case k_spans_within => k_is)
      (case a_spans_of_place_row => k_is)
      (case l_spans_of_place_row => k_is)
      (case e_spans_of_place_row => k_is)
      (case k_spans_of_place_row => k_is)
      (case a_add_columns => k_is)
      (case l_add_columns => k_is)
      (case e_add_columns => k_is)
      (case k_add_columns => k_is)
      (case a_runs_of_place_row => k_is)
      (case l_runs_of_place_row => k_is)
      (case e_runs_of_place_row => k_is)
      (case k_runs_of_place_row => k_is)
      (case a_samples_within => k_is)
      (case l_samples_within => k_is)
      (case e_samples_within => k_is)
      (case k_samples_within => k_is)
      (case a_curve_coordinate => k_is)
      (case l_curve_coordinate => k_is)
      (case e_curve_coordinate => k_is)
      (case k_curve_coordinate => k_is)
      (case a_curve_points => k_is)
      (case l_curve_points => k_is)
      (case e_curve_points => k_is)
      (case k_curve_points => k_is)
      (case a_Outline_init => k_is)
      (case i_Outline_init => k_is)
      (case l_Outline_init => k_is)
      (case e_Outline_init => k_is)
      (case k_Outline_init => k_is)
      (case a_Outline_has_room => k_is)
      (case i_Outline_has_room => k_is)
      (case l_Outline_has_room => k_is)
      (case e_Outline_has_room => k_is)
      (case k_Outline_has_room => k_is)
      (case a_Outline_can_lead_on => k_is)
      (case i_Outline_can_lead_on => k_is)
      (case l_Outline_can_lead_on => k_is)
      (case e_Outline_can_lead_on => k_is)
      (case k_Outline_can_lead_on => k_is)
      (case a_Outline_last_point => k_is)
      (case i_Outline_last_point => k_is)
      (case l_Outline_last_point => k_is)
      (case e_Outline_last_point => k_is)
      (case k_Outline_last_point => k_is)
      (case a_Outline_begin_ring => k_is)
      (case i_Outline_begin_ring => k_is)
      (case l_Outline_begin_ring => k_is)
      (case e_Outline_begin_ring => k_is)
      (case k_Outline_begin_ring => k_is)
      (case a_Outline_lead_on => k_is)
      (case i_Outline_lead_on => k_is)
      (case l_Outline_lead_on => k_is)
      (case e_Outline_lead_on => k_is)
      (case k_Outline_lead_on => k_is)
      (case a_Outline_points => k_is)
      (case i_Outline_points => k_is)
      (case l_Outline_points => k_is)
      (case e_Outline_points => k_is)
      (case k_Outline_points => k_is)
      (case a_Outline_lines => k_is)
      (case i_Outline_lines => k_is)
      (case l_Outline_lines => k_is)
      (case e_Outline_lines => k_is)
      (case k_Outline_lines => k_is)
      (case a_is_side => k_is)
      (case l_is_side => k_is)
      (case e_is_side => k_is)
      (case k_is_side => k_is)
      (case a_is_colour => k_is)
      (case l_is_colour => k_is)
      (case e_is_colour => k_is)
      (case k_is_colour => k_is)
      (case a_is_rule => k_is)
      (case l_is_rule => k_is)
      (case e_is_rule => k_is)
      (case k_is_rule => k_is)
      (case a_are_coordinates => k_is)
      (case l_are_coordinates => k_is)
      (case e_are_coordinates => k_is)
      (case k_are_coordinates => k_is)
      (case a_Picture_init => k_is)
      (case i_Picture_init => k_is)
      (case l_Picture_init => k_is)
      (case e_Picture_init => k_is)
      (case k_Picture_init => k_is)
      (case a_Picture_begin => k_is)
      (case i_Picture_begin => k_is)
      (case l_Picture_begin => k_is)
      (case e_Picture_begin => k_is)
      (case k_Picture_begin => k_is)
      (case a_Picture_holds_box => k_is)
      (case i_Picture_holds_box => k_is)
      (case l_Picture_holds_box => k_is)
      (case e_Picture_holds_box => k_is)
      (case k_Picture_holds_box => k_is)
      (case a_Picture_paint => k_is)
      (case i_Picture_paint => k_is)
      (case l_Picture_paint => k_is)
      (case e_Picture_paint => k_is)
      (case k_Picture_paint => k_is)
      (case a_Picture_move => k_is)
      (case i_Picture_move => k_is)
      (case l_Picture_move => k_is)
      (case e_Picture_move => k_is)
      (case k_Picture_move => k_is)
      (case a_Picture_line => k_is)
      (case i_Picture_line => k_is)
      (case l_Picture_line => k_is)
      (case e_Picture_line => k_is)
      (case k_Picture_line => k_is)
      (case a_Picture_curve => k_is)
      (case i_Picture_curve => k_is)
      (case l_Picture_curve => k_is)
      (case e_Picture_curve => k_is)
      (case k_Picture_curve => k_is)
      (case a_Picture_fill => k_is)
      (case i_Picture_fill => k_is)
      (case l_Picture_fill => k_is)
      (case e_Picture_fill => k_is)
      (case k_Picture_fill => k_is)
      (case a_Picture_within => k_is)
      (case i_Picture_within => k_is)
      (case l_Picture_within => k_is)
      (case e_Picture_within => k_is)
      (case k_Picture_within => k_is)
      (case a_Picture_row => k_is)
      (case i_Picture_row => k_is)
      (case l_Picture_row => k_is)
      (case e_Picture_row => k_is)
      (case k_Picture_row => k_is)
      (case a_Picture_box => k_is)
      (case i_Picture_box => k_is)
      (case l_Picture_box => k_is)
      (case e_Picture_box => k_is)
      (case k_Picture_box => k_is)
      (case a_answer_call => k_is)
      (case l_answer_call => k_is)
      (case e_answer_call => k_is)
      (case k_answer_call => k_is)
      (case a_answers => k_is)
      (case l_answers => k_is)
      (case e_answers => k_is)
      (case k_answers => k_is)
      (case pg_Step => k_is)
      (case hd_Step => k_is)
      (case po_Step => k_is)
      (case sa_Step => k_is)
      (case mk_Step => k_is)
      (case kc_Step => k_is)
      (case n_Step_first => k_is)
      (case n_Step_end => k_is)
      (case n_Step_turn => k_is)
      (case n_Step_scale => k_is)
      (case n_Step_slope => k_is)
      (case n_Step_base => k_is)
      (case pg_Outline => k_is)
      (case hd_Outline => k_is)
      (case po_Outline => k_is)
      (case sa_Outline => k_is)
      (case mk_Outline => k_is)
      (case kc_Outline => k_is)
      (case n_Outline_rings => k_is)
      (case n_Outline_point_count => k_is)
      (case pg_Picture => k_is)
      (case hd_Picture => k_is)
      (case po_Picture => k_is)
      (case sa_Picture => k_is)
      (case mk_Picture => k_is)
      (case kc_Picture => k_is)
      (case n_Picture_width => k_is)
      (case n_Picture_height => k_is)
      (case n_Picture_rows => k_is)
      (case n_Picture_outline => k_is)
      (case c_ALL_SAMPLES => k_is)
      (case c_SAMPLES => k_is)
      (case c_MOST_POINTS => k_is)
      (case c_CURVE_STEPS => k_is)
      (case c_OUT_OF_RANGE => k_is)
      (case c_REFUSED => k_is)
      (case c_LARGEST_SIDE => k_is)
      (case c_FARTHEST => k_is)
      (case c_LARGEST_COLOUR => k_is)
      (case c_OPEN_CALL => k_is)
      (case c_COLOUR_CALL => k_is)
      (case c_MOVE_CALL => k_is)
      (case c_LINE_CALL => k_is)
      (case c_CURVE_CALL => k_is)
      (case c_FILL_CALL => k_is)
      (case c_WITHIN_CALL => k_is)
      (case c_ROW_CALL => k_is)
      (case c_PART_SHIFTS => k_is)
      (case l_PART_SHIFTS => k_is)
      (case c_TELLING_BITS => k_is)
      (case l_TELLING_BITS => k_is)
      (case c_ARGUMENT_COUNTS => k_is)
      (case l_ARGUMENT_COUNTS => k_is)
      (case z_range => k_is)
      (case z_len => k_is)
      (case z_all => k_is)
      (case z_sorted => k_is)
      (case z_min => k_is)
      (case z_max => k_is)
      (case z_sum => k_is)
      (case z_enumerate => k_is)
      (case z_zip => k_is)
      (case z_list => k_is)

    obtain ⟨a, T⟩ := T
    exact Of.fin_mk T hmg fun base => (Of.ok_all T).mono (by decide)
  case S =>
    intro K H xs a hO hwi hask hx
    cases hx with
    | cons h1 h2 =>
      cases h2
      cases h1 with
      | lst hs ha =>
        have e := L2.ints_dw a.1 _ ha
        subst e
        exact ⟨_, a.1, rfl, hs, hO, hask, fun H' p hp => .lst (L2.SqL.of hp) (L2.dw_ints _)⟩
