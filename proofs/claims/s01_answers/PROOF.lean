import PyProof.Rows.All
import Wide.All
import OpenK.AllK
import Wide.FinOn
import PyProof.EqAt
import PyProof.EqKinds
import PyProof.TupleCall
import KE.BitLaws
import PyFlatLaws
import KE.OsGo
import KE.OsArgs
import PySem.Challenge.RW_strikesquare_s01_answers
set_option Elab.async false
set_option linter.all false
set_option maxRecDepth 100000
set_option maxHeartbeats 4000000
namespace L2
open PySem PySem.Spec PyProof.Rows
abbrev Key := Sum Int Str
def keyIs : Key → Value → Bool
  | .inl k, v => Value.isInt k v
  | .inr x, v => Value.isStrOf x v
def keyH (w : World) : Key → Int
  | .inl k => hashInt k
  | .inr x => hashStr w x
theorem keyIs_shape : ∀ {k : Key} {v : Value}, keyIs k v = true → (∃ i t, k = Sum.inl i ∧ v = Value.int i t) ∨ (∃ x t, k = Sum.inr x ∧ v = Value.str x t)
  | .inl i, v, h => by
    obtain ⟨t, e⟩ := Value.isInt_shape (k := i) (v := v) h
    exact .inl ⟨i, t, rfl, e⟩
  | .inr x, v, h => by
    obtain ⟨t, e⟩ := Value.isStrOf_shape (x := x) (v := v) h
    exact .inr ⟨x, t, rfl, e⟩
theorem keyIs_int (i : Int) (t : Tok) : keyIs (.inl i) (.int i t) = true := by simp [keyIs, Value.isInt]
theorem keyIs_str (x : Str) (t : Tok) : keyIs (.inr x) (.str x t) = true := by simp [keyIs, Value.isStrOf]
theorem key_ll (a b : Int) : decide ((Sum.inl a : Key) = Sum.inl b) = (a == b) := by
  by_cases e : a = b
  · subst e; simp
  · have h : ¬ (Sum.inl a : Key) = Sum.inl b := fun q => e (Sum.inl.inj q)
    rw [decide_eq_false h]
    exact (beq_eq_false_iff_ne.mpr e).symm
theorem key_rr (a b : Str) : decide ((Sum.inr a : Key) = Sum.inr b) = decide (a = b) := by
  by_cases e : a = b
  · subst e; simp
  · have h : ¬ (Sum.inr a : Key) = Sum.inr b := fun q => e (Sum.inr.inj q)
    rw [decide_eq_false h, decide_eq_false e]
theorem key_lr (a : Int) (b : Str) : decide ((Sum.inl a : Key) = Sum.inr b) = false := decide_eq_false (fun q => nomatch q)
theorem key_rl (a : Str) (b : Int) : decide ((Sum.inr a : Key) = Sum.inl b) = false := decide_eq_false (fun q => nomatch q)
def mixKind (prog : Program) (w : World) : PySem.KeyKind prog w Key where
  is := keyIs
  hash := keyH w
  inj := fun v a b ha hb => by
    rcases keyIs_shape ha with ⟨i, t, rfl, rfl⟩ | ⟨x, t, rfl, rfl⟩
    · rcases keyIs_shape hb with ⟨j, u, rfl, e⟩ | ⟨y, u, rfl, e⟩
      · injection e with e1 _; rw [e1]
      · exact nomatch e
    · rcases keyIs_shape hb with ⟨j, u, rfl, e⟩ | ⟨y, u, rfl, e⟩
      · exact nomatch e
      · injection e with e1 _; rw [e1]
  byValue := fun k v h => by
    rcases keyIs_shape h with ⟨i, t, rfl, rfl⟩ | ⟨x, t, rfl, rfl⟩ <;> rfl
  pyHash := fun hv h => by
    rcases keyIs_shape hv with ⟨i, t, rfl, rfl⟩ | ⟨x, t, rfl, rfl⟩
    · exact wpAny_pyHash_int h
    · exact wpAny_pyHash_str h
  eqBool := fun hu hv h => by
    rcases keyIs_shape hu with ⟨i, t, rfl, rfl⟩ | ⟨x, t, rfl, rfl⟩
    · rcases keyIs_shape hv with ⟨j, u, rfl, rfl⟩ | ⟨y, u, rfl, rfl⟩
      · rw [key_ll] at h; exact wpAny_eqBool_int h
      · rw [key_lr] at h; exact SeqAt.EqAt.int_str i t y u _ _ _ _ h
    · rcases keyIs_shape hv with ⟨j, u, rfl, rfl⟩ | ⟨y, u, rfl, rfl⟩
      · rw [key_rl] at h; exact SeqAt.EqAt.str_int x t j u _ _ _ _ h
      · rw [key_rr] at h; exact wpAny_eqBool_str h
  «strs» := fun k x t v h => by
    rcases keyIs_shape h with ⟨i, u, rfl, e⟩ | ⟨y, u, rfl, e⟩
    · exact nomatch e
    · injection e with e1 _
      subst e1
      cases v <;> rfl
theorem mixKind_int (prog : Program) (w : World) (i : Int) (t : Tok) : (mixKind prog w).is (.inl i) (.int i t) = true := keyIs_int i t
theorem mixKind_str (prog : Program) (w : World) (x : Str) (t : Tok) : (mixKind prog w).is (.inr x) (.str x t) = true := keyIs_str x t
end L2
namespace L2
open PySem PySem.Spec PyProof.Rows
inductive V where
  | non | bl (b : Bool) | int (i : Int) | str (x : Str) | byt (b : Array UInt8) | flt (b : UInt64) | ref (a : Addr) | ty (n : String)
  deriving DecidableEq
def RelV : V → Value → Prop
  | .non, u => u = Value.none
  | .bl b, u => u = Value.bool b
  | .int i, u => ∃ t, u = Value.int i t
  | .str x, u => ∃ t, u = Value.str x t
  | .byt b, u => ∃ t, u = Value.bytes b t
  | .flt b, u => ∃ t, u = Value.float b t
  | .ref a, u => u = Value.ref a
  | .ty n, u => u = Value.type n
abbrev Vals : List V → List Value → Prop := Paired RelV
theorem Vals.length {xs : List V} {us : List Value} (r : Vals xs us) : xs.length = us.length := Paired.length r
theorem Vals.get : ∀ {xs : List V} {us : List Value} {i : Nat} {x : V}, Vals xs us → xs[i]? = some x → ∃ u, us[i]? = some u ∧ RelV x u
  | _, _, _, _, .nil, e => by simp at e
  | _, _, 0, _, .cons r _, e => by simp at e; subst e; exact ⟨_, rfl, r⟩
  | _, _, i + 1, x, .cons _ t, e => by
    obtain ⟨u, h1, h2⟩ := Vals.get (i := i) (x := x) t (by simpa using e)
    exact ⟨u, by simpa using h1, h2⟩
theorem Vals.set {x : V} {u : Value} (r : RelV x u) : ∀ {xs : List V} {us : List Value} (i : Nat), Vals xs us → Vals (xs.set i x) (us.set i u)
  | _, _, _, .nil => .nil
  | _, _, 0, .cons _ t => .cons r t
  | _, _, i + 1, .cons q t => .cons q (Vals.set r i t)
theorem Vals.append : ∀ {xs ys : List V} {us ws : List Value}, Vals xs us → Vals ys ws → Vals (xs ++ ys) (us ++ ws)
  | _, _, _, _, .nil, s => s
  | _, _, _, _, .cons r t, s => .cons r (Vals.append t s)
theorem Vals.take : ∀ {xs : List V} {us : List Value} (n : Nat), Vals xs us → Vals (xs.take n) (us.take n)
  | _, _, 0, _ => .nil
  | _, _, _ + 1, .nil => .nil
  | _, _, n + 1, .cons r t => .cons r (Vals.take n t)
theorem Vals.drop : ∀ {xs : List V} {us : List Value} (n : Nat), Vals xs us → Vals (xs.drop n) (us.drop n)
  | _, _, 0, r => r
  | _, _, _ + 1, .nil => .nil
  | _, _, n + 1, .cons _ t => Vals.drop n t
def RelO : Option V → Option Value → Prop
  | some v, some u => RelV v u
  | none, none => True
  | _, _ => False
def KV {κ : Type} : List (κ × V) → List (κ × Value) → Prop := Paired fun (p : κ × V) (q : κ × Value) => p.1 = q.1 ∧ RelV p.2 q.2
def kV : Key → V
  | .inl i => .int i
  | .inr x => .str x
inductive HO where
  /-- a list -/
  | lst (xs : List V)
  /-- a tuple (never changes) -/
  | tup (xs : List V)
  /-- a dict whose keys are ints and texts; one whose keys are tuples of ints and texts (the empty one is both) -/
  | dK (kvs : List (Key × V)) | dT (kvs : List (List Key × V))
  /-- a set of ints: its members, its size -/
  | set (S : Int → Bool) (n : Nat)
  /-- an instance of the class at C, its dict at dx, its attributes -/
  | ins (C dx : Addr) (fs : List (Str × V))
  /-- the dict of the instance at x -/
  | own (x : Addr)
  /-- the dict of an exception -/
  | xd (fs : List (Str × V))
  /-- a bound method, f of x -/
  | met (f x : Addr)
  /-- a range object lo, lo + 1, .. below hi -/
  | rng (lo hi : Int)
  /-- a thing that is known to the object (the script; a dict while a loop walks it): read, never written while it is so -/
  | frz (o : Obj) (u : HO)
  /-- a code object's table -/
  | tbl (ps : Array Value)
  /-- any other thing, by what is true of its one object (a def of one's own: SetO a S n := HO.ext fun h => ..) -/
  | ext (φ : Heap → Prop)
abbrev Hp := Addr → Option HO
def upd (H : Hp) (a : Addr) (o : HO) : Hp := fun b => if b = a then some o else H b
theorem upd_same {H : Hp} {a : Addr} {o : HO} : upd H a o a = some o := by unfold upd; rw [if_pos rfl]
theorem upd_ne {H : Hp} {a b : Addr} {o : HO} (h : b ≠ a) : upd H a o b = H b := by unfold upd; rw [if_neg h]
theorem upd_upd {H : Hp} {a : Addr} {o u : HO} : upd (upd H a o) a u = upd H a u := by
  funext b; unfold upd; split <;> rfl
theorem ne_of {H : Hp} {a b : Addr} {o u : HO} (h : H a = some o) (h' : H b = some u) (d : o ≠ u) : a ≠ b := by
  intro e; subst e; rw [h] at h'; exact d (Option.some.inj h')
theorem ne_of_none {H : Hp} {a b : Addr} {o : HO} (h : H a = some o) (h' : H b = none) : a ≠ b := by
  intro e; subst e; rw [h] at h'; cases h'
section
variable (P : Program) (w : World)
def ObjOk (H : Hp) (h : Heap) (a : Addr) : HO → Prop
  | .lst xs => xs.length ≤ sizeLine ∧ ∃ (its : List Value) (n : Nat), Vals xs its ∧ h.get? a = some { cls := .type "list", data := .seq its.toArray n }
  | .tup xs => xs.length ≤ sizeLine ∧ ∃ its : List Value, Vals xs its ∧ IsTup h a its.toArray
  | .dK kvs => kvs.length ≤ sizeLine ∧ (a == sysModules) = false ∧ ∃ vs, KV kvs vs ∧ h.DictOf (mixKind P w) a vs
  | .dT kvs => kvs.length ≤ sizeLine ∧ (a == sysModules) = false ∧ ∃ xs : List (List Key × Addr × Value),
      Paired (fun (p : List Key × V) (q : List Key × Addr × Value) => p.1 = q.1 ∧ H q.2.1 = some (.tup (p.1.map kV)) ∧ RelV p.2 q.2.2) kvs xs ∧
      ∃ o es ep, h.get? a = some o ∧ o.ExactDict ∧ o.data = .dict es ep ∧ es.toList = xs.map (entryOfKey (tupleKind (mixKind P w))) ∧ (xs.map (·.1)).Nodup
  | .set S n => h.SetOf (intKind P w) a S n
  | .ins C dx fs => H dx = some (.own a) ∧ fs.length ≤ 1000 ∧ dx ≠ a ∧ h.get? a = some (PySem.W.instObj C dx) ∧
      ∃ mA, h.Ns1 dx mA ∧ (∀ f, RelO (fs.lookup f) (mA f)) ∧ PySem.Within mA (fs.map (·.1))
  | .own _ => ∃ o, h.get? a = some o
  | .xd fs => ∃ mA, h.Ns1 a mA ∧ ∀ f, RelO (fs.lookup f) (mA f)
  | .rng lo hi => ∃ t u v, h.get? a = some { cls := .type "range", data := .fields #[.int lo t, .int hi u, .int 1 v] }
  | .frz o u => h.get? a = some o ∧ ObjOk H h a u
  | .tbl ps => h.get? a = some { cls := .none, data := .fields ps }
  | .met f x => h.get? a = some (PySem.W.methodObj (.ref f) (.ref x))
  | .ext φ => φ h ∧ (∃ o, h.get? a = some o) ∧ ∀ h1 h2 : Heap, φ h1 → (∀ o, h1.get? a = some o → h2.get? a = some o) → φ h2
def HOk (H : Hp) (h : Heap) : Prop := ∀ a o, H a = some o → ObjOk P w H h a o
end
section
variable {P : Program} {w : World} {H H' : Hp} {h h' : Heap} {a : Addr} {o : HO}
theorem ObjOk.lt (x : ObjOk P w H h a o) : a < h.objs.size := by
  cases o with
  | lst xs => obtain ⟨_, _, _, _, e⟩ := x; exact Heap.lt_size e
  | tup xs => obtain ⟨_, _, _, p⟩ := x; exact p.lt
  | dK kvs => obtain ⟨_, _, _, _, o, _, _, e, _⟩ := x; exact Heap.lt_size e
  | dT kvs => obtain ⟨_, _, _, _, o, _, _, e, _⟩ := x; exact Heap.lt_size e
  | set S n => obtain ⟨o, _, _, _, e, _⟩ := x; exact Heap.lt_size e
  | ins C dx fs => obtain ⟨_, _, _, e, _⟩ := x; exact Heap.lt_size e
  | own y => obtain ⟨_, e⟩ := x; exact Heap.lt_size e
  | xd fs => obtain ⟨_, ⟨_, _, _, e, _⟩, _⟩ := x; exact Heap.lt_size e
  | rng lo hi => obtain ⟨_, _, _, e⟩ := x; exact Heap.lt_size e
  | frz ob u => obtain ⟨e, _⟩ := x; exact Heap.lt_size e
  | tbl ps => exact Heap.lt_size (show h.get? a = some _ from x)
  | met f y => exact Heap.lt_size (show h.get? a = some _ from x)
  | ext φ => obtain ⟨_, ⟨_, e⟩, _⟩ := x; exact Heap.lt_size e
theorem Paired.mapP {α β : Type} {F G : α → β → Prop} : ∀ {l₁ : List α} {l₂ : List β}, Paired F l₁ l₂ → (∀ a b, F a b → G a b) → Paired G l₁ l₂
  | _, _, .nil, _ => .nil
  | _, _, .cons r t, f => .cons (f _ _ r) (Paired.mapP t f)
theorem ObjOk.stay (x : ObjOk P w H h a o) (k : ∀ b u, (b = a ∨ H b = some (.own a)) → h.get? b = some u → h'.get? b = some u)
    (ho : ∀ b, H b = some (.own a) → H' b = some (.own a)) (ht : ∀ b xs, H b = some (.tup xs) → H' b = some (.tup xs)) : ObjOk P w H' h' a o := by
  induction o with
  | lst xs => obtain ⟨z, its, n, r, e⟩ := x; exact ⟨z, its, n, r, k _ _ (.inl rfl) e⟩
  | tup xs => obtain ⟨z, its, r, ob, e, c⟩ := x; exact ⟨z, its, r, ob, k _ _ (.inl rfl) e, c⟩
  | dK kvs => obtain ⟨z, y, vs, r, ob, es, ep, e, c⟩ := x; exact ⟨z, y, vs, r, ob, es, ep, k _ _ (.inl rfl) e, c⟩
  | dT kvs =>
    obtain ⟨z, y, xs, r, ob, es, ep, e, c⟩ := x
    exact ⟨z, y, xs, Paired.mapP r fun p q z => ⟨z.1, ht _ _ z.2.1, z.2.2⟩, ob, es, ep, k _ _ (.inl rfl) e, c⟩
  | set S n => obtain ⟨ob, es, ep, t, e, c⟩ := x; exact ⟨ob, es, ep, t, k _ _ (.inl rfl) e, c⟩
  | ins C dx fs =>
    obtain ⟨d, z, ne, e, mA, ⟨od, es, ep, e2, c⟩, r⟩ := x
    exact ⟨ho _ d, z, ne, k _ _ (.inl rfl) e, mA, ⟨od, es, ep, k _ _ (.inr d) e2, c⟩, r⟩
  | own y => obtain ⟨ob, e⟩ := x; exact ⟨ob, k _ _ (.inl rfl) e⟩
  | xd fs => obtain ⟨mA, ⟨od, es, ep, e, c⟩, r⟩ := x; exact ⟨mA, ⟨od, es, ep, k _ _ (.inl rfl) e, c⟩, r⟩
  | rng lo hi => obtain ⟨t, u, v, e⟩ := x; exact ⟨t, u, v, k _ _ (.inl rfl) e⟩
  | frz ob u ih => obtain ⟨e, q⟩ := x; exact ⟨k _ _ (.inl rfl) e, ih q⟩
  | tbl ps =>
    have e : h.get? a = some { cls := .none, data := .fields ps } := x
    show h'.get? a = some { cls := .none, data := .fields ps }
    exact k a _ (.inl rfl) e
  | met f y =>
    have e : h.get? a = some (PySem.W.methodObj (.ref f) (.ref y)) := x
    show h'.get? a = some (PySem.W.methodObj (.ref f) (.ref y))
    exact k a _ (.inl rfl) e
  | ext φ => obtain ⟨p, ⟨o, e⟩, st⟩ := x; exact ⟨st _ _ p fun o q => k _ _ (.inl rfl) q, ⟨o, k _ _ (.inl rfl) e⟩, st⟩
theorem HOk.lt (x : HOk P w H h) (e : H a = some o) : a < h.objs.size := (x a o e).lt
theorem HOk.fresh (x : HOk P w H h) (e : h.objs.size ≤ a) : H a = none := by
  cases q : H a with
  | none => rfl
  | some u => exact absurd (Nat.lt_of_lt_of_le (x.lt q) e) (Nat.lt_irrefl _)
theorem HOk.kept (x : HOk P w H h) (k : ∀ b u, h.get? b = some u → h'.get? b = some u) : HOk P w H h' := fun a o e =>
  (x a o e).stay (fun b u _ q => k b u q) (fun _ q => q) fun _ _ q => q
theorem HOk.laid (x : HOk P w H h) (k : ∀ b u, h.get? b = some u → h'.get? b = some u) (hp : h.objs.size ≤ a) (new : ObjOk P w (upd H a o) h' a o) : HOk P w (upd H a o) h' := fun b u e => by
  have hn := x.fresh hp
  by_cases hb : b = a
  · subst hb; rw [upd_same] at e; cases e; exact new
  · rw [upd_ne hb] at e
    exact (x b u e).stay (fun c v _ q => k c v q) (fun c q => by rw [upd_ne (ne_of_none q hn)]; exact q) fun c xs q => by rw [upd_ne (ne_of_none q hn)]; exact q
end
def Rd (H : Hp) (a : Addr) (u : HO) : Prop := H a = some u ∨ ∃ o, H a = some (.frz o u)
theorem Rd.of {H : Hp} {a : Addr} {u : HO} (h : H a = some u) : Rd H a u := .inl h
theorem Rd.ok {P : Program} {w : World} {H : Hp} {h : Heap} {a : Addr} {u : HO} (r : Rd H a u) (x : HOk P w H h) : ObjOk P w H h a u := by
  rcases r with r | ⟨o, r⟩
  · exact x a u r
  · obtain ⟨_, q⟩ := x a _ r
    exact q
def Mut : Option HO → Prop
  | some (.lst _) => True
  | some (.dK _) => True
  | some (.dT _) => True
  | some (.set _ _) => True
  | some (.ins _ _ _) => True
  | some (.ext _) => True
  | _ => False
section
variable {P : Program} {w : World} {H : Hp} {h h' : Heap} {x e : Addr} {o' : HO}
theorem HOk.write (ok : HOk P w H h) (mu : Mut (H x)) (he : e = x ∨ H e = some (.own x)) (k : ∀ b u, b ≠ e → h.get? b = some u → h'.get? b = some u) (heo : ∃ u, h'.get? e = some u)
    (new : ObjOk P w (upd H x o') h' x o') : HOk P w (upd H x o') h' := fun b u q => by
  have nown : ∀ c y, H c = some (.own y) → c ≠ x := fun c y r z => by subst z; rw [r] at mu; exact mu
  have ntup : ∀ c xs, H c = some (.tup xs) → c ≠ x := fun c xs r z => by subst z; rw [r] at mu; exact mu
  by_cases hb : b = x
  · subst hb; rw [upd_same] at q; cases q; exact new
  · rw [upd_ne hb] at q
    by_cases hbe : b = e
    · have q' : H b = some (.own x) := by
        rcases he with z | z
        · exact absurd (hbe.trans z) hb
        · rw [hbe]; exact z
      rw [q] at q'; cases q'
      obtain ⟨v, hv⟩ := heo
      exact ⟨v, by rw [hbe]; exact hv⟩
    · refine (ok b u q).stay (fun c v hc r => k c v ?_ r) (fun c r => by rw [upd_ne (nown c b r)]; exact r) fun c xs r => by rw [upd_ne (ntup c xs r)]; exact r
      rcases hc with rfl | hc
      · exact hbe
      · rintro rfl
        rcases he with z | z
        · exact nown c b hc z
        · rw [hc] at z; cases z; exact hb rfl
end
structure Un (fs ex : List Addr) (H H' : Hp) (h h' : Heap) : Prop where
  keep : ∀ b o, h.get? b = some o → H b = none → b ∉ fs → b ∉ ex → h'.get? b = some o
  slot : ∀ b o, h.get? b = some o → H b = none → b ∈ fs → b ∉ ex → ∃ sl, h'.get? b = some { o with slots := sl }
  free : ∀ b o, h.get? b = some o → H b = none → b ∉ ex → H' b = none
  there : ∀ b o, h.get? b = some o → b ∉ ex → ∃ o', h'.get? b = some o'
  tups : ∀ b xs, H b = some (.tup xs) → H' b = some (.tup xs)
  frzs : ∀ b o u, H b = some (.frz o u) → H' b = some (.frz o u)
  tbls : ∀ b ps, H b = some (.tbl ps) → ∃ more, H' b = some (.tbl (ps ++ more))
section
variable {fs fs' ex ex' : List Addr} {H H1 H2 : Hp} {h h1 h2 h' : Heap} {a x e : Addr} {o : HO}
theorem Un.any (u : Un fs ex H H1 h h1) {b : Addr} {ob : Obj} (q : h.get? b = some ob) (n : H b = none) (hx : b ∉ ex) : ∃ sl, h1.get? b = some { ob with slots := sl } := by
  by_cases hb : b ∈ fs
  · exact u.slot b ob q n hb hx
  · exact ⟨ob.slots, u.keep b ob q n hb hx⟩
theorem Un.kept (k : ∀ b u, h.get? b = some u → h'.get? b = some u) : Un fs ex H H h h' :=
  ⟨fun b ob q _ _ _ => k b ob q, fun b ob q _ _ _ => ⟨ob.slots, k b ob q⟩, fun _ _ _ n _ => n, fun b ob q _ => ⟨ob, k b ob q⟩, fun _ _ q => q, fun _ _ _ q => q, fun _ ps q => ⟨#[], by rw [q]; simp⟩⟩
theorem Un.refl : Un fs ex H H h h := Un.kept fun _ _ q => q
theorem Un.laid (k : ∀ b u, h.get? b = some u → h'.get? b = some u) (hp : h.objs.size ≤ a) (hn : H a = none) : Un fs ex H (upd H a o) h h' where
  keep := fun b u q _ _ _ => k b u q
  slot := fun b u q _ _ _ => ⟨u.slots, k b u q⟩
  free := fun b u q n _ => by rw [upd_ne (Nat.ne_of_lt (Nat.lt_of_lt_of_le (Heap.lt_size q) hp))]; exact n
  there := fun b u q _ => ⟨u, k b u q⟩
  tups := fun b xs q => by rw [upd_ne (ne_of_none q hn)]; exact q
  frzs := fun b u xs q => by rw [upd_ne (ne_of_none q hn)]; exact q
  tbls := fun b ps q => ⟨#[], by rw [upd_ne (ne_of_none q hn), q]; simp⟩
theorem Un.write (mu : Mut (H x)) (he : e = x ∨ H e = some (.own x)) (k : ∀ b u, b ≠ e → h.get? b = some u → h'.get? b = some u) (heo : ∃ u, h'.get? e = some u) : Un fs ex H (upd H x o) h h' := by
  have hx : ∀ b, H b = none → b ≠ x := fun b n z => by subst z; rw [n] at mu; exact mu
  have hb : ∀ b, H b = none → b ≠ e := fun b n z => by
    subst z
    rcases he with r | r
    · exact hx b n r
    · rw [n] at r; cases r
  have hm : ∀ b u, H b = some u → ¬ Mut (some u) → b ≠ x := fun b u q nm z => by subst z; rw [q] at mu; exact nm mu
  refine ⟨fun b u q n _ _ => k b u (hb b n) q, fun b u q n _ _ => ⟨u.slots, k b u (hb b n) q⟩, fun b u q n _ => by rw [upd_ne (hx b n)]; exact n, fun b u q _ => ?_,
    fun b xs q => by rw [upd_ne (hm b _ q fun z => z)]; exact q, fun b u xs q => by rw [upd_ne (hm b _ q fun z => z)]; exact q, fun b ps q => ⟨#[], by rw [upd_ne (hm b _ q fun z => z), q]; simp⟩⟩
  by_cases hbe : b = e
  · subst hbe; exact heo
  · exact ⟨u, k b u hbe q⟩
end
def trk (h : Heap) (H : Hp) : List Addr := (List.range h.objs.size).filter fun a => (H a).isSome
def hidT (h : Heap) (H : Hp) : Heap := PySem.W.hideAll h (trk h H)
theorem hidT_size (h : Heap) (H : Hp) : (hidT h H).objs.size = h.objs.size := PySem.W.hideAll_size _ _
theorem hidT_get {h : Heap} {H : Hp} {b : Addr} {o : Obj} (e : h.get? b = some o) (n : H b = none) : (hidT h H).get? b = some o :=
  PySem.W.hideAll_get _ e fun hm => by
    have q : (H b).isSome = true := (List.mem_filter.mp hm).2
    rw [n] at q; simp at q
theorem of_hidT {h : Heap} {H : Hp} {b : Addr} {o : Obj} (e : (hidT h H).get? b = some o) : h.get? b = some o ∧ H b = none := by
  have e' : h.get? b = some o := PySem.W.of_hideAll (trk h H) e
  refine ⟨e', ?_⟩
  cases q : H b with
  | none => rfl
  | some x =>
    have hm : b ∈ trk h H := List.mem_filter.mpr ⟨List.mem_range.mpr (Heap.lt_size e'), by simp [q]⟩
    have z : (hidT h H).get? b = none := PySem.W.hideAll_none (trk h H) hm
    rw [z] at e; cases e
end L2
namespace L2
open PySem PySem.Spec PyProof.Rows
structure Mod (K : PySem.W.Frag) (mg : Str → Option Value) (base : Heap) : Prop where
  kin : K.In base
  glob : base.Ns mainGlobals mg
  blt : ∃ mb, base.Ns builtinsNs mb ∧ ∀ x : Str, x ≠ "__name__" → mb x = bootBuiltins x
  nolimit : base.NoLimit
structure Cx where
  prog : Program
  w : World
  K : PySem.W.Frag
  mg : Str → Option Value
  base : Heap
  A : Around
  N : List Str
  s_0 : Shared
  H_0 : Hp
  env : Env
  outer : List Env
  stack : List Env
  ex : List Addr
  fn : Str → Bool
  calm : Bool
  pn : List (Addr × Obj)
  xe : Value → Shared → Prop
def frs (l : List Env) : List Addr := l.filterMap (·.frame)
abbrev Cx.fs (X : Cx) : List Addr := frs X.outer
def Vis (sc : Scope) (x : Str) : Prop := sc.names.lookup x = some .local ∨ sc.names.lookup x = some .cell ∨ sc.names.lookup x = some .free
def Loc (sc : Scope) (x : Str) : Prop := sc.names.lookup x = some .local ∨ sc.names.lookup x = some .cell
def Look (env : Env) (h : Heap) (m : Str → Option Value) (x : Str) (u : Value) : Prop :=
  (env.kindOf x = some .local ∧ m x = some u) ∨ ((env.kindOf x = some .cell ∨ env.kindOf x = some .free) ∧ ∃ c, env.cells.lookup x = some c ∧ h.IsCell c (some u))
structure Cx.Ok (X : Cx) : Prop where
  mod : Mod X.K X.mg X.base
  kind : X.env.scope.kind = .function
  glob : X.env.globals = mainGlobals
  blt : X.env.builtins = builtinsNs
  above : X.s_0.heap.objs.size ≤ X.env.locals
  inj : ∀ x y c, X.env.cells.lookup x = some c → X.env.cells.lookup y = some c → x = y
  has : ∀ x, (X.env.kindOf x = some .cell ∨ X.env.kindOf x = some .free) → ∃ c, X.env.cells.lookup x = some c
  cab : ∀ x c, X.fn x = true → X.env.cells.lookup x = some c → X.s_0.heap.objs.size ≤ c
  hd : X.calm = true → X.A.handled = none
  frames : X.A.frames = some X.stack
  stk : X.stack = X.outer ∨ (X.stack = X.env :: X.outer ∧ X.env.frame = some X.env.locals)
  exf : ∀ b ∈ X.ex, b ≠ X.env.locals ∧ ∀ x c, X.env.cells.lookup x = some c → c ≠ b
  bs : ∀ b o, X.base.get? b = some o → X.s_0.heap.get? b = some o ∧ X.H_0 b = none
  bsz : X.base.objs.size ≤ X.s_0.heap.objs.size
  noex : ∀ b o, X.base.get? b = some o → b ∉ X.ex
  exfs : ∀ b ∈ X.ex, b ∉ X.fs
  funs : X.s_0.heap.FunFrames X.base X.outer
  frf : ∀ b ∈ X.fs, X.H_0 b = none
structure Inv (X : Cx) (pins : List (Addr × Obj)) (σ : List (Option V)) (H : Hp) (s : Shared) : Prop where
  ok : X.Ok
  os : s.os = X.s_0.os
  bare : AllBare s.gens
  base : Un X.fs X.ex X.H_0 H X.s_0.heap s.heap
  loc : ∃ m, s.heap.Ns X.env.locals m ∧ ∀ (i : Nat) (x : Str) (v : V), X.N[i]? = some x → σ[i]? = some (some v) → Vis X.env.scope x → ∃ u, RelV v u ∧ Look X.env s.heap m x u
  cell : ∀ x c, X.env.cells.lookup x = some c → ∃ v, s.heap.IsCell c v
  free : H X.env.locals = none
  freeC : ∀ x c, X.env.cells.lookup x = some c → H c = none
  pin : ∀ p ∈ X.pn ++ pins, s.heap.get? p.1 = some p.2 ∧ H p.1 = none ∧ p.1 ≠ X.env.locals ∧ p.1 ∉ X.fs ∧ ∀ v, p.2.data ≠ .cell v
  hok : HOk X.prog X.w H s.heap
  len : σ.length = X.N.length
section
variable {X : Cx} {pins : List (Addr × Obj)} {σ : List (Option V)} {H H' : Hp} {s : Shared} {h' : Heap}
theorem Cx.Ok.nofr (ok : X.Ok) {b : Addr} {o : Obj} (e : X.base.get? b = some o) : b ∉ X.fs := fun hb => by
  have := (ok.funs.mem hb).1
  rw [e] at this; cases this
theorem Inv.bs (I : Inv X pins σ H s) : ∀ b o, X.base.get? b = some o → s.heap.get? b = some o ∧ H b = none := fun b o e =>
  ⟨I.base.keep b o (I.ok.bs b o e).1 (I.ok.bs b o e).2 (I.ok.nofr e) (I.ok.noex b o e), I.base.free b o (I.ok.bs b o e).1 (I.ok.bs b o e).2 (I.ok.noex b o e)⟩
theorem Inv.bk (I : Inv X pins σ H s) : ∀ b o, X.base.get? b = some o → s.heap.get? b = some o := fun b o e => (I.bs b o e).1
theorem Inv.mod (I : Inv X pins σ H s) : Mod X.K X.mg X.base := I.ok.mod
theorem Inv.kIn (I : Inv X pins σ H s) : X.K.In s.heap := I.ok.mod.kin.keeps I.bk
theorem Inv.lt (I : Inv X pins σ H s) : X.env.locals < s.heap.objs.size := let ⟨_, hn, _⟩ := I.loc; hn.lt
theorem Inv.sz (I : Inv X pins σ H s) : X.s_0.heap.objs.size ≤ s.heap.objs.size := Nat.le_trans I.ok.above (Nat.le_of_lt I.lt)
theorem Inv.nofs (I : Inv X pins σ H s) {a : Addr} (h : s.heap.objs.size ≤ a) : a ∉ X.fs := fun hb => by
  obtain ⟨_, o, ho, _⟩ := I.ok.funs.mem hb
  exact absurd (Nat.lt_of_lt_of_le (Heap.lt_size ho) (Nat.le_trans I.sz h)) (Nat.lt_irrefl _)
theorem Inv.cne (I : Inv X pins σ H s) : ∀ x c, X.env.cells.lookup x = some c → c ≠ X.env.locals := fun x c e z => by
  obtain ⟨v, o, ho, hd⟩ := I.cell x c e
  obtain ⟨m, ⟨o', es, ep, ho', hd', _⟩, _⟩ := I.loc
  rw [z, ho'] at ho; cases ho; rw [hd'] at hd; cases hd
theorem Inv.funs (I : Inv X pins σ H s) : s.heap.FunFrames X.base X.outer := by
  have all : ∀ (l : List Env), (∀ b ∈ frs l, b ∈ X.fs) → X.s_0.heap.FunFrames X.base l → s.heap.FunFrames X.base l := by
    intro l
    induction l with
    | nil => intro _ _; trivial
    | cons env r ih =>
      intro hs hl
      obtain ⟨hk, ⟨L, o, hf, hn, ho, hd⟩, hr⟩ := hl
      have hL : L ∈ X.fs := hs L (by unfold frs; rw [List.filterMap_cons, hf]; exact List.mem_cons_self)
      obtain ⟨sl, e⟩ := I.base.slot L o ho (I.ok.frf L hL) hL fun z => I.ok.exfs L z hL
      exact ⟨hk, ⟨L, _, hf, hn, e, hd⟩, ih (fun b hb => hs b (by unfold frs; rw [List.filterMap_cons, hf]; exact List.mem_cons_of_mem _ hb)) hr⟩
  exact all X.outer (fun _ hb => hb) I.ok.funs
theorem Inv.stack (I : Inv X pins σ H s) : s.heap.FunFrames X.base X.stack := by
  rcases I.ok.stk with e | ⟨e, hf⟩
  · rw [e]; exact I.funs
  · rw [e]
    obtain ⟨m, hn, _⟩ := I.loc
    refine .cons (by rw [I.ok.kind]; decide) hf hn ?_ I.funs
    exact Heap.get?_none_of_le (Nat.le_trans I.ok.bsz I.ok.above)
theorem Inv.stkSub (I : Inv X pins σ H s) : ∀ b ∈ frs X.stack, b ∈ X.env.locals :: X.fs := fun b hb => by
  rcases I.ok.stk with e | ⟨e, hf⟩
  · rw [e] at hb; exact List.mem_cons_of_mem _ hb
  · rw [e] at hb
    unfold frs at hb
    rw [List.filterMap_cons, hf] at hb
    exact hb
theorem Inv.stkFree (I : Inv X pins σ H s) : ∀ b ∈ frs X.stack, H b = none := fun b hb => by
  rcases List.mem_cons.mp (I.stkSub b hb) with e | hb
  · rw [e]; exact I.free
  · obtain ⟨_, o, ho, _⟩ := I.ok.funs.mem hb
    exact I.base.free b o ho (I.ok.frf b hb) fun z => I.ok.exfs b z hb
theorem Inv.step {g' : Array GenState} {t' : Nat} {d' : Drawn} {ch : List Addr} (I : Inv X pins σ H s)
    (hch : ∀ b ∈ ch, (b ∈ X.ex ∨ X.s_0.heap.objs.size ≤ b) ∧ b ≠ X.env.locals ∧ (∀ x c, X.env.cells.lookup x = some c → c ≠ b) ∧ ∀ p ∈ X.pn ++ pins, p.1 ≠ b)
    (keep : ∀ b o, b ≠ X.env.locals → b ∉ X.fs → b ∉ ch → s.heap.get? b = some o → H b = none → h'.get? b = some o)
    (slot : ∀ b o, b ≠ X.env.locals → b ∈ X.fs → b ∉ ch → s.heap.get? b = some o → H b = none → ∃ sl, h'.get? b = some { o with slots := sl }) (free : ∀ b o, b ∉ ch → s.heap.get? b = some o → H b = none → H' b = none)
    (there : ∀ b o, b ∉ ch → s.heap.get? b = some o → ∃ o', h'.get? b = some o')
    (tups : ∀ b xs, H b = some (.tup xs) → H' b = some (.tup xs)) (frzs : ∀ b o u, H b = some (.frz o u) → H' b = some (.frz o u)) (tbls : ∀ b ps, H b = some (.tbl ps) → ∃ more, H' b = some (.tbl (ps ++ more)))
    (ns : ∀ m, s.heap.Ns X.env.locals m → h'.Ns X.env.locals m) (hok : HOk X.prog X.w H' h') (hg : AllBare g') :
    Inv X pins σ H' { s with heap := h', gens := g', drawn := d', toks := t' } := by
  have neL : ∀ b o, X.s_0.heap.get? b = some o → b ≠ X.env.locals := fun b o e => Nat.ne_of_lt (Nat.lt_of_lt_of_le (Heap.lt_size e) I.ok.above)
  have neC : ∀ b o, X.s_0.heap.get? b = some o → b ∉ X.ex → b ∉ ch := fun b o e hx hb => by
    rcases (hch b hb).1 with z | z
    · exact hx z
    · exact absurd (Nat.lt_of_lt_of_le (Heap.lt_size e) z) (Nat.lt_irrefl _)
  have cellK : ∀ x c, X.env.cells.lookup x = some c → ∀ v, s.heap.IsCell c v → h'.IsCell c v := fun x c e v ⟨o, ho, hd⟩ => by
    have nch : c ∉ ch := fun z => (hch c z).2.2.1 x c e rfl
    by_cases hc : c ∈ X.fs
    · obtain ⟨sl, q⟩ := slot c o (I.cne x c e) hc nch ho (I.freeC x c e)
      exact ⟨_, q, hd⟩
    · exact ⟨o, keep c o (I.cne x c e) hc nch ho (I.freeC x c e), hd⟩
  refine ⟨I.ok, I.os, hg, ⟨fun b o e n hb hx => ?_, fun b o e n hb hx => ?_, fun b o e n hx => ?_, fun b o e hx => ?_, fun b xs e => tups b xs (I.base.tups b xs e), fun b o xs e => frzs b o xs (I.base.frzs b o xs e), fun b ps e => ?_⟩, ?_, fun x c e => ?_, ?_, fun x c e => ?_, fun p hp => ?_, hok, I.len⟩
  · exact keep b o (neL b o e) hb (neC b o e hx) (I.base.keep b o e n hb hx) (I.base.free b o e n hx)
  · obtain ⟨sl, e1⟩ := I.base.slot b o e n hb hx
    obtain ⟨sl', e2⟩ := slot b _ (neL b o e) hb (neC b o e hx) e1 (I.base.free b o e n hx)
    exact ⟨sl', e2⟩
  · obtain ⟨o', e1⟩ := I.base.there b o e hx
    exact free b o' (neC b o e hx) e1 (I.base.free b o e n hx)
  · obtain ⟨o', e1⟩ := I.base.there b o e hx
    exact there b o' (neC b o e hx) e1
  · obtain ⟨m1, e1⟩ := I.base.tbls b ps e
    obtain ⟨m2, e2⟩ := tbls b _ e1
    exact ⟨m1 ++ m2, by rw [e2, Array.append_assoc]⟩
  · obtain ⟨m, hn, hl⟩ := I.loc
    refine ⟨m, ns m hn, fun i x v e1 e2 e3 => ?_⟩
    obtain ⟨u, r, l⟩ := hl i x v e1 e2 e3
    refine ⟨u, r, ?_⟩
    rcases l with l | ⟨k, c, e, z⟩
    · exact .inl l
    · exact .inr ⟨k, c, e, cellK x c e _ z⟩
  · obtain ⟨v, z⟩ := I.cell x c e
    exact ⟨v, cellK x c e v z⟩
  · obtain ⟨m, ⟨o, _, _, ho, _⟩, _⟩ := I.loc
    exact free _ o (fun z => (hch _ z).2.1 rfl) ho I.free
  · obtain ⟨v, o, ho, hd⟩ := I.cell x c e
    exact free c o (fun z => (hch c z).2.2.1 x c e rfl) ho (I.freeC x c e)
  · obtain ⟨e, n, ne, nf, d⟩ := I.pin p hp
    have nch : p.1 ∉ ch := fun z => (hch p.1 z).2.2.2 p hp rfl
    exact ⟨keep p.1 p.2 ne nf nch e n, free p.1 p.2 nch e n, ne, nf, d⟩
theorem Inv.un {t' : Nat} (I : Inv X pins σ H s) (u : Un X.fs [] H H' s.heap h') (hok : HOk X.prog X.w H' h') : Inv X pins σ H' { s with heap := h', toks := t' } := by
  obtain ⟨m, ⟨o, es, ep, ho, r⟩, _⟩ := id I.loc
  obtain ⟨sl, hL⟩ := u.any ho I.free (by simp)
  exact I.step (g' := s.gens) (d' := s.drawn) (ch := []) (fun _ z => nomatch z) (fun b o _ hb _ e n => u.keep b o e n hb (by simp)) (fun b o _ hb _ e n => u.slot b o e n hb (by simp)) (fun b o _ e n => u.free b o e n (by simp)) (fun b o _ e => u.there b o e (by simp)) u.tups u.frzs u.tbls (fun m' hm => by
    obtain ⟨o', es', ep', ho', r'⟩ := hm
    rw [ho] at ho'; cases ho'
    exact ⟨_, es', ep', hL, r'⟩) hok I.bare
theorem Inv.call {g' : Array GenState} {t' : Nat} {d' : Drawn} {ch : List Addr} (I : Inv X pins σ H s) (u : Un (frs X.stack) ch H H' s.heap h') (hok : HOk X.prog X.w H' h') (hg : AllBare g')
    (hch : ∀ b ∈ ch, (b ∈ X.ex ∨ X.s_0.heap.objs.size ≤ b) ∧ b ≠ X.env.locals ∧ (∀ x c, X.env.cells.lookup x = some c → c ≠ b) ∧ ∀ p ∈ X.pn ++ pins, p.1 ≠ b) :
    Inv X pins σ H' { s with heap := h', gens := g', drawn := d', toks := t' } := by
  obtain ⟨m, ⟨o, es, ep, ho, r⟩, _⟩ := id I.loc
  obtain ⟨sl, hL⟩ := u.any ho I.free fun z => (hch _ z).2.1 rfl
  exact I.step (ch := ch) hch (fun b o hL hb hc e n => u.keep b o e n (fun z => (List.mem_cons.mp (I.stkSub b z)).elim hL hb) hc) (fun b o _ _ hc e n => u.any e n hc) (fun b o hc e n => u.free b o e n hc) (fun b o hc e => u.there b o e hc) u.tups u.frzs u.tbls (fun m' hm => by
    obtain ⟨o', es', ep', ho', r'⟩ := hm
    rw [ho] at ho'; cases ho'
    exact ⟨_, es', ep', hL, r'⟩) hok hg
theorem Inv.turned {t' : Nat} {it : Addr} (I : Inv X pins σ H s) (k : ∀ b o, b ≠ it → s.heap.get? b = some o → h'.get? b = some o) (hn : H it = none) (hL : it ≠ X.env.locals)
    (h1 : it ∈ X.ex ∨ X.s_0.heap.objs.size ≤ it) (h2 : ∀ x c, X.env.cells.lookup x = some c → c ≠ it) (h3 : ∀ p ∈ X.pn ++ pins, p.1 ≠ it) : Inv X pins σ H { s with heap := h', toks := t' } := by
  have nit : ∀ b u, H b = some u → b ≠ it := fun b u e z => by rw [z, hn] at e; cases e
  refine I.step (g' := s.gens) (d' := s.drawn) (ch := [it]) (fun b hb => ?_) (fun b o _ _ hc e _ => k b o (fun z => hc (by simp [z])) e) (fun b o _ _ hc e _ => ⟨o.slots, k b o (fun z => hc (by simp [z])) e⟩) (fun _ _ _ _ n => n)
    (fun b o hc e => ⟨o, k b o (fun z => hc (by simp [z])) e⟩) (fun _ _ e => e) (fun _ _ _ e => e) (fun b ps e => ⟨#[], by rw [e]; simp⟩) (fun m hm => ?_) (fun b u e => ?_) I.bare
  · have e : b = it := by simpa using hb
    subst e
    exact ⟨h1, hL, h2, h3⟩
  · obtain ⟨o, es, ep, ho, r⟩ := hm
    exact ⟨o, es, ep, k _ o (Ne.symm hL) ho, r⟩
  · refine (I.hok b u e).stay (fun c v hc q => k c v ?_ q) (fun _ q => q) fun _ _ q => q
    rcases hc with z | z
    · rw [z]; exact nit b u e
    · exact nit c _ z
theorem Inv.tok (I : Inv X pins σ H s) (t : Nat) : Inv X pins σ H { s with toks := t } := I.un (h' := s.heap) (t' := t) Un.refl I.hok
theorem Inv.kept {t' : Nat} (I : Inv X pins σ H s) (k : ∀ b u, s.heap.get? b = some u → h'.get? b = some u) : Inv X pins σ H { s with heap := h', toks := t' } := I.un (Un.kept k) (I.hok.kept k)
theorem Inv.laid {a : Addr} {o : HO} {t' : Nat} (I : Inv X pins σ H s) (k : ∀ b u, s.heap.get? b = some u → h'.get? b = some u) (hp : s.heap.objs.size ≤ a) (new : ObjOk X.prog X.w (upd H a o) h' a o) :
    Inv X pins σ (upd H a o) { s with heap := h', toks := t' } := I.un (Un.laid k hp (I.hok.fresh hp)) (I.hok.laid k hp new)
theorem Inv.write {x e : Addr} {o : HO} {t' : Nat} (I : Inv X pins σ H s) (mu : Mut (H x)) (he : e = x ∨ H e = some (.own x)) (k : ∀ b u, b ≠ e → s.heap.get? b = some u → h'.get? b = some u) (heo : ∃ u, h'.get? e = some u)
    (new : ObjOk X.prog X.w (upd H x o) h' x o) : Inv X pins σ (upd H x o) { s with heap := h', toks := t' } := I.un (Un.write mu he k heo) (I.hok.write mu he k heo new)
theorem Inv.weak {σ' : List (Option V)} (I : Inv X pins σ H s) (hl : σ'.length = σ.length) (w : ∀ (i : Nat) v, σ'[i]? = some (some v) → σ[i]? = some (some v)) : Inv X pins σ' H s :=
  ⟨I.ok, I.os, I.bare, I.base, let ⟨m, hn, hl'⟩ := I.loc; ⟨m, hn, fun i x v e1 e2 e3 => hl' i x v e1 (w i v e2) e3⟩, I.cell, I.free, I.freeC, I.pin, I.hok, hl.trans I.len⟩
theorem Inv.pins_of {pins' : List (Addr × Obj)} (I : Inv X pins σ H s) (h : ∀ p ∈ pins', s.heap.get? p.1 = some p.2 ∧ H p.1 = none ∧ p.1 ≠ X.env.locals ∧ p.1 ∉ X.fs ∧ ∀ v, p.2.data ≠ .cell v) : Inv X pins' σ H s :=
  ⟨I.ok, I.os, I.bare, I.base, I.loc, I.cell, I.free, I.freeC, fun p hp => (List.mem_append.mp hp).elim (fun z => I.pin p (List.mem_append_left _ z)) (h p), I.hok, I.len⟩
theorem nodup_ix {N : List Str} (hN : N.Nodup) {i j : Nat} {x : Str} (a : N[i]? = some x) (b : N[j]? = some x) : i = j := by
  obtain ⟨h1, e1⟩ := List.getElem?_eq_some_iff.mp a
  obtain ⟨h2, e2⟩ := List.getElem?_eq_some_iff.mp b
  exact (List.getElem_inj hN).mp (e1.trans e2.symm)
theorem store_ok2 {M : Model} {A : Around} {E : Value → Shared → Prop} {i : Nat} {x : Str} {v : V} {u : Value} {Q : Unit → Shared → Prop} (I : Inv X pins σ H s) (hN : X.N.Nodup) (hi : X.N[i]? = some x) (hx : Loc X.env.scope x) (r : RelV v u)
    (h : ∀ s', Inv X pins (σ.set i (some v)) H s' → (∃ a, Heap.SameBut a s.heap s'.heap ∧ (a = X.env.locals ∨ X.env.cells.lookup x = some a)) → Q () s') (hf : X.fn x = true ∨ X.env.scope.names.lookup x = some .local := by first | exact .inl rfl | exact .inr rfl | assumption) : wpAny M A (storeName X.env x u) Q E s := by
  obtain ⟨m, hn, hl⟩ := id I.loc
  have hcls : (X.env.scope.kind == .class || (X.env.scope.kind == .module && X.env.locals != X.env.globals)) = false := by rw [I.ok.kind]; rfl
  have hiσ : i < σ.length := by rw [I.len]; exact (List.getElem?_eq_some_iff.mp hi).1
  have cne := I.cne
  have tracked : ∀ {a : Addr} {h' : Heap}, (∃ o, s.heap.get? a = some o ∧ H a = none) → Heap.SameBut a s.heap h' → HOk X.prog X.w H h' := fun {a h'} ha hs b ob e => by
    obtain ⟨_, _, hfree⟩ := ha
    refine (I.hok b ob e).stay (fun c w' hc q => (hs.2 c ?_).trans q) (fun _ q => q) fun _ _ q => q
    rintro rfl
    rcases hc with rfl | hc
    · rw [hfree] at e; cases e
    · rw [hfree] at hc; cases hc
  rcases hx with hk | hk
  · refine wpAny_storeName_local hk hn (fun h' hn' hs => ?_) hcls
    obtain ⟨oL, _, _, hoL, _⟩ := id hn
    refine h _ ⟨I.ok, I.os, I.bare, ⟨fun b o e n hb hx => ?_, fun b o e n hb hx => ?_, I.base.free, fun b o e hx => ?_, I.base.tups, I.base.frzs, I.base.tbls⟩, ⟨_, hn', fun j y v' e1 e2 e3 => ?_⟩, fun y c e => ?_, I.free, I.freeC, fun p hp => ?_, tracked ⟨oL, hoL, I.free⟩ hs, by simpa using I.len⟩ ⟨_, hs, .inl rfl⟩
    · exact (hs.2 b (Nat.ne_of_lt (Nat.lt_of_lt_of_le (Heap.lt_size e) I.ok.above))).trans (I.base.keep b o e n hb hx)
    · obtain ⟨sl, e1⟩ := I.base.slot b o e n hb hx
      exact ⟨sl, (hs.2 b (Nat.ne_of_lt (Nat.lt_of_lt_of_le (Heap.lt_size e) I.ok.above))).trans e1⟩
    · obtain ⟨o', e1⟩ := I.base.there b o e hx
      exact ⟨o', (hs.2 b (Nat.ne_of_lt (Nat.lt_of_lt_of_le (Heap.lt_size e) I.ok.above))).trans e1⟩
    · by_cases hj : j = i
      · subst hj
        rw [hi] at e1; cases e1
        rw [List.getElem?_set_self hiσ] at e2
        cases e2
        exact ⟨u, r, .inl ⟨hk, by simp⟩⟩
      · rw [List.getElem?_set_ne (Ne.symm hj)] at e2
        obtain ⟨u', r', q⟩ := hl j y v' e1 e2 e3
        refine ⟨u', r', ?_⟩
        rcases q with ⟨k, e⟩ | ⟨k, c, e, z⟩
        · refine .inl ⟨k, ?_⟩
          have : y ≠ x := fun e => hj (nodup_ix hN e1 (e ▸ hi))
          simp [this, e]
        · exact .inr ⟨k, c, e, z.sameBut hs (cne y c e)⟩
    · obtain ⟨w', z⟩ := I.cell y c e
      exact ⟨w', z.sameBut hs (cne y c e)⟩
    · obtain ⟨e, n, ne, nf, d⟩ := I.pin p hp
      exact ⟨(hs.2 p.1 ne).trans e, n, ne, nf, d⟩
  · have hfn : X.fn x = true := by
      rcases hf with z | z
      · exact z
      · rw [z] at hk; cases hk
    obtain ⟨c, hc⟩ := I.ok.has x (.inl hk)
    obtain ⟨w', z⟩ := I.cell x c hc
    refine wpAny_storeName_cell I.ok.kind hk hc z (fun h' hc' hs => ?_)
    obtain ⟨oc, hoc, hocd⟩ := id z
    refine h { s with heap := h' } ⟨I.ok, I.os, I.bare, ⟨fun b o e n hb hx => ?_, fun b o e n hb hx => ?_, I.base.free, fun b o e hx => ?_, I.base.tups, I.base.frzs, I.base.tbls⟩, ⟨m, hn.sameBut hs (Ne.symm (cne x c hc)), fun j y v' e1 e2 e3 => ?_⟩, fun y c' e => ?_, I.free, I.freeC, fun p hp => ?_, tracked ⟨oc, hoc, I.freeC x c hc⟩ hs, by simpa using I.len⟩ ⟨c, hs, .inr hc⟩
    · exact (hs.2 b (Nat.ne_of_lt (Nat.lt_of_lt_of_le (Heap.lt_size e) (I.ok.cab x c hfn hc)))).trans (I.base.keep b o e n hb hx)
    · obtain ⟨sl, e1⟩ := I.base.slot b o e n hb hx
      exact ⟨sl, (hs.2 b (Nat.ne_of_lt (Nat.lt_of_lt_of_le (Heap.lt_size e) (I.ok.cab x c hfn hc)))).trans e1⟩
    · obtain ⟨o', e1⟩ := I.base.there b o e hx
      exact ⟨o', (hs.2 b (Nat.ne_of_lt (Nat.lt_of_lt_of_le (Heap.lt_size e) (I.ok.cab x c hfn hc)))).trans e1⟩
    · by_cases hj : j = i
      · subst hj
        rw [hi] at e1; cases e1
        rw [List.getElem?_set_self hiσ] at e2
        cases e2
        exact ⟨u, r, .inr ⟨.inl hk, c, hc, hc'⟩⟩
      · rw [List.getElem?_set_ne (Ne.symm hj)] at e2
        obtain ⟨u', r', q⟩ := hl j y v' e1 e2 e3
        refine ⟨u', r', ?_⟩
        rcases q with q | ⟨k, c', e, z'⟩
        · exact .inl q
        · refine .inr ⟨k, c', e, z'.sameBut hs ?_⟩
          rintro rfl
          exact hj (nodup_ix hN e1 (I.ok.inj _ _ _ e hc ▸ hi))
    · by_cases hcc : c' = c
      · subst hcc; exact ⟨_, hc'⟩
      · obtain ⟨w2, z2⟩ := I.cell y c' e
        exact ⟨w2, z2.sameBut hs hcc⟩
    · obtain ⟨e, n, ne, nf, d⟩ := I.pin p hp
      refine ⟨(hs.2 p.1 ?_).trans e, n, ne, nf, d⟩
      intro q
      rw [q, hoc] at e
      have q' : oc = p.2 := Option.some.inj e
      exact d w' (by rw [← q']; exact hocd)
theorem store_ok {M : Model} {A : Around} {E : Value → Shared → Prop} {i : Nat} {x : Str} {v : V} {u : Value} {Q : Unit → Shared → Prop} (I : Inv X pins σ H s) (hN : X.N.Nodup) (hi : X.N[i]? = some x) (hx : Loc X.env.scope x) (r : RelV v u)
    (h : ∀ s', Inv X pins (σ.set i (some v)) H s' → Q () s') (hf : X.fn x = true ∨ X.env.scope.names.lookup x = some .local := by first | exact .inl rfl | exact .inr rfl | assumption) : wpAny M A (storeName X.env x u) Q E s :=
  store_ok2 I hN hi hx r (fun s' I' _ => h s' I') hf
theorem Inv.call' {s' : Shared} {ch : List Addr} (I : Inv X pins σ H s) (ho : s'.os = s.os) (u : Un (frs X.stack) ch H H' s.heap s'.heap) (hok : HOk X.prog X.w H' s'.heap) (hg : AllBare s'.gens)
    (hch : ∀ b ∈ ch, (b ∈ X.ex ∨ X.s_0.heap.objs.size ≤ b) ∧ b ≠ X.env.locals ∧ (∀ x c, X.env.cells.lookup x = some c → c ≠ b) ∧ ∀ p ∈ X.pn ++ pins, p.1 ≠ b) : Inv X pins σ H' s' := by
  obtain ⟨h', g', d', t', o'⟩ := s'
  have e : o' = s.os := ho
  subst e
  exact I.call (g' := g') (t' := t') (d' := d') u hok hg hch
end
abbrev XK := Value → Option Addr → Hp → Prop
abbrev St := List (Option V)
abbrev VK := V → Hp → Prop
abbrev TE := St → Hp → VK → Prop
abbrev TT := St → Hp → (Bool → Hp → Prop) → Prop
abbrev TA := St → Hp → (List V → Hp → Prop) → Prop
structure Ends where
  nx : St → Hp → Prop
  rt : VK
  bk : St → Hp → Prop := fun _ _ => False
  ct : St → Hp → Prop := fun _ _ => False
abbrev TS := Ends → St → Hp → Prop
def EP (X : Cx) (pins : List (Addr × Obj)) (σ : St) (Q : VK) (u : Value) (s' : Shared) : Prop := ∃ v H', Inv X pins σ H' s' ∧ RelV v u ∧ Q v H'
def TP (X : Cx) (pins : List (Addr × Obj)) (σ : St) (Q : Bool → Hp → Prop) (b : Bool) (s' : Shared) : Prop := ∃ H', Inv X pins σ H' s' ∧ Q b H'
def AP (X : Cx) (pins : List (Addr × Obj)) (σ : St) (Q : List V → Hp → Prop) (us : List Value) (s' : Shared) : Prop := ∃ vs H', Inv X pins σ H' s' ∧ Vals vs us ∧ Q vs H'
def SP (X : Cx) (pins : List (Addr × Obj)) (D : Ends) (f : Flow) (s' : Shared) : Prop :=
  match f with
  | .next => ∃ σ' H', Inv X pins σ' H' s' ∧ D.nx σ' H'
  | .brk => ∃ σ' H', Inv X pins σ' H' s' ∧ D.bk σ' H'
  | .cont => ∃ σ' H', Inv X pins σ' H' s' ∧ D.ct σ' H'
  | .ret u => ∃ v σ' H', Inv X pins σ' H' s' ∧ RelV v u ∧ D.rt v H'
def PE (X : Cx) (e : Expr) (t : TE) : Prop :=
  ∀ (pins : List (Addr × Obj)) (s : Shared) (σ : St) (H : Hp) (Q : VK), Inv X pins σ H s → t σ H Q → wpAny (model X.prog X.w) X.A (eval e X.env) (EP X pins σ Q) X.xe s
def PT (X : Cx) (e : Expr) (t : TT) : Prop :=
  ∀ (pins : List (Addr × Obj)) (s : Shared) (σ : St) (H : Hp) (Q : Bool → Hp → Prop), Inv X pins σ H s → t σ H Q → wpAny (model X.prog X.w) X.A (isTrue e X.env (eval e X.env)) (TP X pins σ Q) X.xe s
def PW (X : Cx) (e : Expr) (t : TT) : Prop :=
  ∀ (whole : Sem Value) (pins : List (Addr × Obj)) (s : Shared) (σ : St) (H : Hp) (Q : Bool → Hp → Prop), Inv X pins σ H s → t σ H Q → wpAny (model X.prog X.w) X.A (isTrue e X.env whole) (TP X pins σ Q) X.xe s
theorem PW.pt {X : Cx} {e : Expr} {t : TT} (h : PW X e t) : PT X e t := h _
def PA (X : Cx) (es : List Expr) (t : TA) : Prop :=
  ∀ (pos : Pos) (pins : List (Addr × Obj)) (s : Shared) (σ : St) (H : Hp) (Q : List V → Hp → Prop), Inv X pins σ H s → t σ H Q → wpAny (model X.prog X.w) X.A (spliced (backTo pos (starEach es X.env))) (AP X pins σ Q) X.xe s
def PS (X : Cx) (st : Stmt) (t : TS) : Prop :=
  ∀ (pins : List (Addr × Obj)) (s : Shared) (σ : St) (H : Hp) (D : Ends), Inv X pins σ H s → t D σ H → wpAny (model X.prog X.w) X.A (exec st X.env) (SP X pins D) X.xe s
def PSs (X : Cx) (st : List Stmt) (t : TS) : Prop :=
  ∀ (pins : List (Addr × Obj)) (s : Shared) (σ : St) (H : Hp) (D : Ends), Inv X pins σ H s → t D σ H → wpAny (model X.prog X.w) X.A (execs st X.env) (SP X pins D) X.xe s
theorem thn {α : Type} {t : Sem α} {Q Q' : α → Shared → Prop} {M : Model} {A : Around} {E : Value → Shared → Prop} {s : Shared} (h : wpAny M A t Q E s) (hQ : ∀ a s, Q a s → Q' a s) : wpAny M A t Q' E s := wpAny_mono h hQ fun _ _ x => x
end L2
namespace L2
open PySem PySem.Spec PyProof.Rows
section
variable {X : Cx}
def tVar (i : Nat) : TE := fun σ H Q => ∃ v, σ[i]? = some (some v) ∧ Q v H
def tC (v : V) : TE := fun _ H Q => Q v H
theorem pe_var {i : Nat} {x : Str} {pos : Pos} (hN : X.N[i]? = some x) (hv : Vis X.env.scope x) (hd : (x == ("__debug__" : Str)) = false := by decide) (hcd : (x == ("__classdict__" : Str)) = false := by decide) : PE X (.Name x pos) (tVar i) := by
  intro pins s σ H Q I h
  obtain ⟨v, e, h⟩ := h
  obtain ⟨m, hn, hl⟩ := I.loc
  obtain ⟨u, r, l⟩ := hl i x v hN e hv
  have fin : EP X pins σ Q u s := ⟨v, H, I, r, h⟩
  rcases l with ⟨hk, hm⟩ | ⟨hk, c, hc, hcell⟩
  · exact wpAny_Name (wpAny_loadName_local I.ok.kind hk hn hm fin) hd
  · rcases hk with hk | hk
    · exact wpAny_Name (wpAny_loadName_cell I.ok.kind hk hc hcell fin) hd
    · exact wpAny_Name (wpAny_loadName_free I.ok.kind hk hc hcell fin hcd) hd
theorem pe_int {i j pos} : PE X (.Constant (.int i) j pos) (tC (.int i)) := fun _ _ _ H _ I h => wpAny_Constant_int ⟨.int i, H, I.tok _, ⟨_, rfl⟩, h⟩
theorem pe_bl {b j pos} : PE X (.Constant (.bool b) j pos) (tC (.bl b)) := fun _ _ _ H _ I h => Constant_bool ⟨.bl b, H, I, rfl, h⟩
theorem pe_non {j pos} : PE X (.Constant .none j pos) (tC .non) := fun _ _ _ H _ I h => Constant_none ⟨.non, H, I, rfl, h⟩
def Gl (X : Cx) (x : Str) : Prop := X.env.kindOf x = some .globalImplicit
theorem ld_glob {E : Value → Shared → Prop} {pins : List (Addr × Obj)} {s : Shared} {σ : St} {H : Hp} {x : Str} {u : Value} {pos : Pos} {Q : Value → Shared → Prop} (I : Inv X pins σ H s) (hg : Gl X x) (hm : X.mg x = some u) (h : Q u s)
    (hd : (x == ("__debug__" : Str)) = false := by decide) : wpAny (model X.prog X.w) X.A (eval (.Name x pos) X.env) Q E s :=
  Calls.Name_function_global I.ok.kind hg (Calls.loadGlobal_global (by rw [I.ok.glob]; exact I.mod.glob.keeps I.bk) hm h) hd
theorem ld_blt {E : Value → Shared → Prop} {pins : List (Addr × Obj)} {s : Shared} {σ : St} {H : Hp} {x : Str} {u : Value} {pos : Pos} {Q : Value → Shared → Prop} (I : Inv X pins σ H s) (hg : Gl X x) (hm : X.mg x = none) (hv : bootBuiltins x = some u) (h : Q u s)
    (hn : x ≠ "__name__" := by decide) (hd : (x == ("__debug__" : Str)) = false := by decide) : wpAny (model X.prog X.w) X.A (eval (.Name x pos) X.env) Q E s := by
  obtain ⟨mb, h1, h2⟩ := I.mod.blt
  exact Calls.Name_function_global I.ok.kind hg (Calls.loadGlobal_builtin (by rw [I.ok.glob]; exact I.mod.glob.keeps I.bk) hm (by rw [I.ok.blt]; exact h1.keeps I.bk) ((h2 x hn).trans hv) h) hd
theorem pe_glob {x : Str} {v : V} {u : Value} {pos : Pos} (hg : Gl X x) (hm : X.mg x = some u) (r : RelV v u) (hd : (x == ("__debug__" : Str)) = false := by decide) : PE X (.Name x pos) (tC v) :=
  fun _ _ _ H _ I h => ld_glob I hg hm ⟨v, H, I, r, h⟩ hd
variable {a b : Expr} {ta tb : TE} {pos : Pos}
def tB (t : TE) : TT := fun σ H Q => t σ H fun x H1 => ∃ c, x = .bl c ∧ Q c H1
theorem pt_val {e : Expr} {t : TE} (h : PE X e t) (he : ∀ whole, isTrue e X.env whole = (do let v ← whole; standAt e.pos; holding [v] (truthy v)) := by intro _; rfl) : PT X e (tB t) := by
  intro pins s σ H Q I hw
  refine isTrue_plain (thn (h pins s σ H _ I hw) fun v s1 ⟨x, H1, I1, r1, q1⟩ => ?_) (he _)
  obtain ⟨d, rfl, q⟩ := q1
  cases r1
  exact wpAny_truthy_bool ⟨H1, I1, q⟩
variable {tA tB' : TT} {rest : List Expr}
def tAnd (t u : TT) : TT := fun σ H Q => t σ H fun c H1 => if c = true then u σ H1 Q else Q false H1
def tOr (t u : TT) : TT := fun σ H Q => t σ H fun c H1 => if c = true then Q true H1 else u σ H1 Q
def tNot (t : TT) : TT := fun σ H Q => t σ H fun c H1 => Q (!c) H1
theorem pw_and1 (ha : PT X a tA) : PW X (.BoolOp .And [a] pos) tA := by
  intro wh pins s σ H Q I h
  refine isTrue_and (thn (ha pins s σ H Q I h) fun c s1 e => ?_)
  cases c with
  | true => exact isTrue_and_nil e
  | false => exact e
theorem pw_or1 (ha : PT X a tA) : PW X (.BoolOp .Or [a] pos) tA := by
  intro wh pins s σ H Q I h
  refine isTrue_or (thn (ha pins s σ H Q I h) fun c s1 e => ?_)
  cases c with
  | false => exact isTrue_or_nil e
  | true => exact e
theorem pw_and (ha : PT X a tA) (hb : PW X (.BoolOp .And (b :: rest) pos) tB') : PW X (.BoolOp .And (a :: b :: rest) pos) (tAnd tA tB') := by
  intro wh pins s σ H Q I h
  refine isTrue_and (thn (ha pins s σ H _ I h) fun c s1 ⟨H1, I1, q1⟩ => ?_)
  cases c with
  | true => exact hb wh pins s1 σ H1 Q I1 q1
  | false => exact ⟨H1, I1, q1⟩
theorem pw_or (ha : PT X a tA) (hb : PW X (.BoolOp .Or (b :: rest) pos) tB') : PW X (.BoolOp .Or (a :: b :: rest) pos) (tOr tA tB') := by
  intro wh pins s σ H Q I h
  refine isTrue_or (thn (ha pins s σ H _ I h) fun c s1 ⟨H1, I1, q1⟩ => ?_)
  cases c with
  | true => exact ⟨H1, I1, q1⟩
  | false => exact hb wh pins s1 σ H1 Q I1 q1
theorem pt_not (ha : PT X a tA) : PT X (.UnaryOp .Not a pos) (tNot tA) := by
  intro pins s σ H Q I h
  exact isTrue_not (ha pins s σ H (fun c H1 => Q (!c) H1) I h)
def tAndV (ta tb : TE) : TE := fun σ H Q => ta σ H fun x H1 => ∃ c, x = .bl c ∧ if c = true then tb σ H1 Q else Q (.bl false) H1
theorem pe_one {op} {t : TE} (h : PE X a t) : PE X (.BoolOp op [a] pos) t := fun pins s σ H Q I hw => BoolOp_one (h pins s σ H Q I hw)
theorem pe_and (ha : PE X a ta) (hb : PE X (.BoolOp .And (b :: rest) pos) tb) : PE X (.BoolOp .And (a :: b :: rest) pos) (tAndV ta tb) := by
  intro pins s σ H Q I h
  refine BoolOp_and (thn (ha pins s σ H _ I h) fun v s1 ⟨x, H1, I1, r1, q1⟩ => ?_)
  obtain ⟨c, rfl, q1⟩ := q1
  cases r1
  refine wpAny_truthy_bool ?_
  cases c with
  | true => exact hb pins s1 σ H1 Q I1 q1
  | false => exact ⟨.bl false, H1, I1, rfl, q1⟩
def tIf (t : TT) (ta tb : TE) : TE := fun σ H Q => t σ H fun c H1 => if c = true then ta σ H1 Q else tb σ H1 Q
theorem pe_ifExp {c : Expr} (hc : PT X c tA) (ha : PE X a ta) (hb : PE X b tb) : PE X (.IfExp c a b pos) (tIf tA ta tb) := by
  intro pins s σ H Q I h
  refine wpAny_IfExp (thn (hc pins s σ H _ I h) fun d s1 ⟨H1, I1, q1⟩ => ?_)
  cases d with
  | true => exact ha pins s1 σ H1 Q I1 q1
  | false => exact hb pins s1 σ H1 Q I1 q1
end
end L2
namespace L2
open PySem PySem.Spec PyProof.Rows
def SqL (K : PySem.W.Frag) (H : Hp) (a : Addr) (xs : List V) : Prop :=
  Rd H a (.lst xs) ∨
    ∃ (o : Obj) (its : Array Value) (n : Nat), K.lookup a = some o ∧ o.cls = .type "list" ∧ o.dict = none ∧ o.data = .seq its n ∧ its.size ≤ sizeLine ∧ Vals xs its.toList
def SqT (K : PySem.W.Frag) (H : Hp) (a : Addr) (xs : List V) : Prop :=
  Rd H a (.tup xs) ∨
    ∃ (o : Obj) (its : Array Value) (n : Nat), K.lookup a = some o ∧ o.cls = .type "tuple" ∧ o.data = .seq its n ∧ its.size ≤ sizeLine ∧ Vals xs its.toList
def absV : Value → Option V
  | .none => some .non
  | .bool b => some (.bl b)
  | .int i _ => some (.int i)
  | .str x _ => some (.str x)
  | .bytes b _ => some (.byt b)
  | .float b _ => some (.flt b)
  | .ref a => some (.ref a)
  | .type n => some (.ty n)
  | _ => none
theorem RelV.abs {x : V} {u : Value} (r : RelV x u) : absV u = some x := by
  cases x with
  | non => cases r; rfl
  | bl _ => cases r; rfl
  | int _ => obtain ⟨t, rfl⟩ := r; rfl
  | str _ => obtain ⟨t, rfl⟩ := r; rfl
  | byt _ => obtain ⟨t, rfl⟩ := r; rfl
  | flt _ => obtain ⟨t, rfl⟩ := r; rfl
  | ref _ => cases r; rfl
  | ty _ => cases r; rfl
theorem RelV.inj {x y : V} {u : Value} (r : RelV x u) (q : RelV y u) : x = y := Option.some.inj (r.abs.symm.trans q.abs)
theorem Vals.inj : ∀ {xs ys : List V} {us : List Value}, Vals xs us → Vals ys us → xs = ys
  | _, _, _, .nil, .nil => rfl
  | _, _, _, .cons r t, .cons r' t' => by rw [r.inj r', Vals.inj t t']
section
variable {X : Cx} {pins : List (Addr × Obj)} {σ : St} {H : Hp} {s : Shared} {a : Addr} {xs ys : List V}
theorem SqL.of {K : PySem.W.Frag} (h : H a = some (.lst xs)) : SqL K H a xs := .inl (.inl h)
theorem SqT.of {K : PySem.W.Frag} (h : H a = some (.tup xs)) : SqT K H a xs := .inl (.inl h)
theorem Inv.list (I : Inv X pins σ H s) (h : SqL X.K H a xs) : ∃ its : List Value, Vals xs its ∧ PlainL s.heap a its.toArray ∧ xs.length ≤ sizeLine := by
  rcases h with h | ⟨o, its, n, hk, hc, hd, hs, hz, r⟩
  · obtain ⟨z, its, n, r, e⟩ := h.ok I.hok
    exact ⟨its, r, ⟨_, n, e, rfl, rfl, rfl⟩, z⟩
  · refine ⟨its.toList, r, ⟨o, n, I.kIn a o hk, hc, hd, by simpa using hs⟩, ?_⟩
    have e := r.length
    simp only [Array.length_toList] at e
    omega
theorem Inv.tuple (I : Inv X pins σ H s) (h : SqT X.K H a xs) : ∃ its : List Value, Vals xs its ∧ IsTup s.heap a its.toArray ∧ xs.length ≤ sizeLine := by
  rcases h with h | ⟨o, its, n, hk, hc, hs, hz, r⟩
  · obtain ⟨z, its, r, p⟩ := h.ok I.hok
    exact ⟨its, r, p, z⟩
  · refine ⟨its.toList, r, ⟨o, I.kIn a o hk, hc, n, by simpa using hs⟩, ?_⟩
    have e := r.length
    simp only [Array.length_toList] at e
    omega
theorem Inv.list_inj (I : Inv X pins σ H s) (h : SqL X.K H a xs) (h' : SqL X.K H a ys) : xs = ys := by
  obtain ⟨its, r, ⟨o, n, e, _, _, d⟩, _⟩ := I.list h
  obtain ⟨its', r', ⟨o', n', e', _, _, d'⟩, _⟩ := I.list h'
  rw [e] at e'; cases e'
  rw [d] at d'
  injection d' with d1 _
  have : its = its' := by simpa using congrArg Array.toList d1
  subst this
  exact r.inj r'
theorem Inv.tuple_inj (I : Inv X pins σ H s) (h : SqT X.K H a xs) (h' : SqT X.K H a ys) : xs = ys := by
  obtain ⟨its, r, ⟨o, e, _, n, d⟩, _⟩ := I.tuple h
  obtain ⟨its', r', ⟨o', e', _, n', d'⟩, _⟩ := I.tuple h'
  rw [e] at e'; cases e'
  rw [d] at d'
  injection d' with d1 _
  have : its = its' := by simpa using congrArg Array.toList d1
  subst this
  exact r.inj r'
end
abbrev Cx.wish (X : Cx) (E : Value → Shared → Prop) : Cx := { X with xe := E }
abbrev Cx.nox (X : Cx) : Cx := X.wish fun _ _ => False
theorem Cx.Ok.wish {X : Cx} (ok : X.Ok) (E : Value → Shared → Prop) : (X.wish E).Ok :=
  ⟨ok.mod, ok.kind, ok.glob, ok.blt, ok.above, ok.inj, ok.has, ok.cab, ok.hd, ok.frames, ok.stk, ok.exf, ok.bs, ok.bsz, ok.noex, ok.exfs, ok.funs, ok.frf⟩
theorem Cx.Ok.unwish {X : Cx} {E : Value → Shared → Prop} (ok : (X.wish E).Ok) : X.Ok :=
  ⟨ok.mod, ok.kind, ok.glob, ok.blt, ok.above, ok.inj, ok.has, ok.cab, ok.hd, ok.frames, ok.stk, ok.exf, ok.bs, ok.bsz, ok.noex, ok.exfs, ok.funs, ok.frf⟩
section
variable {X : Cx} {pins : List (Addr × Obj)} {σ : St} {H : Hp} {s : Shared} {E : Value → Shared → Prop}
theorem Inv.wish (I : Inv X pins σ H s) (E : Value → Shared → Prop) : Inv (X.wish E) pins σ H s := ⟨I.ok.wish E, I.os, I.bare, I.base, I.loc, I.cell, I.free, I.freeC, I.pin, I.hok, I.len⟩
theorem Inv.unwish (I : Inv (X.wish E) pins σ H s) : Inv X pins σ H s := ⟨I.ok.unwish, I.os, I.bare, I.base, I.loc, I.cell, I.free, I.freeC, I.pin, I.hok, I.len⟩
theorem SP.unwish {D : Ends} {f : Flow} {s' : Shared} (h : SP (X.wish E) pins D f s') : SP X pins D f s' := by
  cases f with
  | next => obtain ⟨σ', H', I, q⟩ := h; exact ⟨σ', H', I.unwish, q⟩
  | brk => obtain ⟨σ', H', I, q⟩ := h; exact ⟨σ', H', I.unwish, q⟩
  | cont => obtain ⟨σ', H', I, q⟩ := h; exact ⟨σ', H', I.unwish, q⟩
  | ret u => obtain ⟨v, σ', H', I, r, q⟩ := h; exact ⟨v, σ', H', I.unwish, r, q⟩
theorem PSs.nox {st : List Stmt} {t : TS} (h : PSs X.nox st t) : PSs X st t := fun pins s σ H D I hw =>
  wpAny_mono (h pins s σ H D (I.wish _) hw) (fun _ _ q => q.unwish) fun _ _ z => False.elim z
end
section
variable {X : Cx} {st : Stmt} {rest : List Stmt} {t u : TS} {e : Expr} {te : TE} {pos : Pos}
def tNext : TS := fun D σ H => D.nx σ H
def tSeq (t u : TS) : TS := fun D σ H => t { D with nx := u D } σ H
theorem pss_nil : PSs X [] tNext := fun _ _ σ H _ I h => wpAny_execs_nil ⟨σ, H, I, h⟩
theorem pss_cons (h1 : PS X st t) (h2 : PSs X rest u) : PSs X (st :: rest) (tSeq t u) := by
  intro pins s σ H D I h
  refine wpAny_execs_cons (thn (h1 pins s σ H { D with nx := u D } I h) fun f s1 q => ?_)
  cases f with
  | next =>
    obtain ⟨σ', H', I', q⟩ := q
    exact h2 pins s1 σ' H' D I' q
  | ret v => exact q
  | brk => exact q
  | cont => exact q
theorem pss_one (h1 : PS X st t) : PSs X [st] t := by
  intro pins s σ H D I h
  refine wpAny_execs_cons (thn (h1 pins s σ H D I h) fun f s1 q => ?_)
  cases f with
  | next => exact wpAny_execs_nil q
  | ret v => exact q
  | brk => exact q
  | cont => exact q
def tBreak : TS := fun D σ H => D.bk σ H
theorem ps_break : PS X (.Break pos) tBreak := fun _ _ σ H _ I h => wpAny_Break ⟨σ, H, I, h⟩
theorem Inv.quiet {pins : List (Addr × Obj)} {σ : St} {H : Hp} {s : Shared} (I : Inv X pins σ H s) : interactive X.env = false := by simp [interactive, I.ok.kind]
def tDrop (te : TE) : TS := fun D σ H => te σ H fun _ H1 => D.nx σ H1
theorem ps_expr (he : PE X e te) (hs : swapsWith e none pos.line X.env = pure false := by rfl) : PS X (.Expr e pos) (tDrop te) := by
  intro pins s σ H D I h
  exact wpAny_Expr_any (thn (he pins s σ H _ I h) fun v s1 ⟨x, H1, I1, r1, q1⟩ => ⟨σ, H1, I1, q1⟩) I.quiet hs
def tRet (te : TE) : TS := fun D σ H => te σ H D.rt
theorem ps_ret (he : PE X e te) : PS X (.Return (some e) pos) (tRet te) := by
  intro pins s σ H D I h
  exact wpAny_Return_some (thn (he pins s σ H _ I h) fun v s1 ⟨x, H1, I1, r1, q1⟩ => ⟨x, σ, H1, I1, r1, q1⟩)
def tRetN : TS := fun D _ H => D.rt .non H
theorem ps_retN : PS X (.Return none pos) tRetN := fun _ _ σ H _ I h => wpAny_Return_none ⟨.non, σ, H, I, rfl, h⟩
def tIfS (c : TT) (t u : TS) : TS := fun D σ H => c σ H fun b H1 => if b = true then t D σ H1 else u D σ H1
theorem ps_if {c : Expr} {a b : List Stmt} {tc : TT} (hc : PT X c tc) (ha : PSs X a t) (hb : PSs X b u) : PS X (.If c a b pos) (tIfS tc t u) := by
  intro pins s σ H D I h
  refine wpAny_If (thn (hc pins s σ H _ I h) fun d s1 ⟨H1, I1, q1⟩ => ?_)
  cases d with
  | true => exact ha pins s1 σ H1 D I1 q1
  | false => exact hb pins s1 σ H1 D I1 q1
end
abbrev TG := V → St → Hp → (St → Hp → Prop) → Prop
abbrev TGs := List V → St → Hp → (St → Hp → Prop) → Prop
def PG (X : Cx) (target : Expr) (t : TG) : Prop :=
  ∀ (pins : List (Addr × Obj)) (s : Shared) (σ : St) (H : Hp) (v : V) (u : Value) (Q : St → Hp → Prop), Inv X pins σ H s → RelV v u → t v σ H Q →
    wpAny (model X.prog X.w) X.A (assign target X.env u) (fun _ s' => ∃ σ' H', Inv X pins σ' H' s' ∧ Q σ' H') X.xe s
def PGs (X : Cx) (ts : List Expr) (t : TGs) : Prop :=
  ∀ (pins : List (Addr × Obj)) (s : Shared) (σ : St) (H : Hp) (vs : List V) (us : List Value) (Q : St → Hp → Prop), Inv X pins σ H s → Vals vs us → t vs σ H Q →
    wpAny (model X.prog X.w) X.A (assignInOrder ((assignEach ts X.env).map (·.2)) us) (fun _ s' => ∃ σ' H', Inv X pins σ' H' s' ∧ Q σ' H') X.xe s
abbrev TSet := V → V → V → Hp → (Hp → Prop) → Prop
def PSet (X : Cx) (t : TSet) : Prop :=
  ∀ (pins : List (Addr × Obj)) (s : Shared) (σ : St) (H : Hp) (o i v : V) (ov iv u : Value) (Q : Hp → Prop), Inv X pins σ H s → RelV o ov → RelV i iv → RelV v u → t o i v H Q →
    wpAny (model X.prog X.w) X.A (setItem ov iv u) (fun _ s' => ∃ H', Inv X pins σ H' s' ∧ Q H') X.xe s
abbrev TIp := V → V → Hp → VK → Prop
def PIp (X : Cx) (op : Operator) (t : TIp) : Prop :=
  ∀ (pins : List (Addr × Obj)) (s : Shared) (σ : St) (H : Hp) (x y : V) (v u : Value) (Q : VK), Inv X pins σ H s → RelV x v → RelV y u → t x y H Q →
    wpAny (model X.prog X.w) X.A (inplaceOp op v u) (EP X pins σ Q) X.xe s
section
variable {X : Cx} {pos : Pos}
def gName (i : Nat) : TG := fun v σ H Q => Q (σ.set i (some v)) H
theorem pg_name {i : Nat} {x : Str} (hN : X.N.Nodup) (hi : X.N[i]? = some x) (hx : Loc X.env.scope x) (hf : X.fn x = true ∨ X.env.scope.names.lookup x = some .local := by first | exact .inl rfl | exact .inr rfl | assumption) : PG X (.Name x pos) (gName i) := by
  intro pins s σ H v u Q I r h
  exact wpAny_assign_Name (store_ok I hN hi hx r (fun s' I' => ⟨_, H, I', h⟩) hf)
def gNil : TGs := fun vs σ H Q => vs = [] ∧ Q σ H
def gCons (t : TG) (u : TGs) : TGs := fun vs σ H Q => ∃ v r, vs = v :: r ∧ t v σ H fun σ' H' => u r σ' H' Q
theorem pgs_nil : PGs X [] gNil := by
  intro pins s σ H vs us Q I r h
  obtain ⟨e, h⟩ := h
  subst e
  cases r
  exact assignInOrder_nil ⟨σ, H, I, h⟩
theorem pgs_cons {e : Expr} {es : List Expr} {t : TG} {u : TGs} (h1 : PG X e t) (h2 : PGs X es u)
    (hs : (assignEach (e :: es) X.env).map (·.2) = assign e X.env :: (assignEach es X.env).map (·.2) := by rfl) : PGs X (e :: es) (gCons t u) := by
  intro pins s σ H vs us Q I r h
  obtain ⟨v, vr, e1, h⟩ := h
  subst e1
  cases r with
  | cons r rr =>
    rw [hs]
    refine assignInOrder_cons (thn (h1 pins s σ H _ _ _ I r h) fun _ s1 ⟨σ1, H1, I1, q1⟩ => ?_)
    exact h2 pins s1 σ1 H1 _ _ Q I1 rr q1
def gTup (K : PySem.W.Frag) (n : Nat) (t : TGs) : TG := fun v σ H Q => ∃ a xs, v = .ref a ∧ SqT K H a xs ∧ xs.length = n ∧ t xs σ H Q
theorem pg_tup {es : List Expr} {k : Nat} {t : TGs} {n : Nat} (hc : X.calm = true) (h : PGs X es t)
    (hn : (assignEach es X.env).length = n := by rfl) (hst : (assignEach es X.env).findIdx? (·.1) = none := by rfl) : PG X (.Tuple es k pos) (gTup X.K n t) := by
  intro pins s σ H v u Q I r hw
  obtain ⟨a, xs, e1, hq, hl, hw⟩ := hw
  subst e1
  cases r
  obtain ⟨its, rv, ht, hz⟩ := I.tuple hq
  refine assign_Tuple_tuple (I.ok.hd hc) ht (by simp [hn, ← hl, rv.length]) hst fun h' hx => ?_
  have I1 : Inv X pins σ H { s with heap := h' } := I.kept (t' := s.toks) fun b o e => hx b o (Nat.ne_of_lt (Heap.lt_size e)) e
  exact h pins _ σ H xs _ Q I1 (by simpa using rv) hw
def gSub (to ti : TE) (t : TSet) : TG := fun v σ H Q => to σ H fun o H1 => ti σ H1 fun i H2 => t o i v H2 fun H3 => Q σ H3
theorem pg_sub {o i : Expr} {to ti : TE} {t : TSet} (ho : PE X o to) (hi : PE X i ti) (hs : PSet X t)
    (ha : ∀ v, assign (.Subscript o i pos) X.env v = (do
      let ov ← holding [v] (eval o X.env)
      let iv ← holding [v, ov] (eval i X.env)
      standAt pos
      holding [v, ov, iv] (setItem ov iv v)
      release [v, ov, iv] []) := by intro _; rfl) : PG X (.Subscript o i pos) (gSub to ti t) := by
  intro pins s σ H v u Q I r h
  rw [ha]
  refine wpAny_bind (wpAny_holding (thn (ho pins s σ H _ I h) fun ov s1 ⟨x, H1, I1, r1, q1⟩ => ?_))
  refine wpAny_bind (wpAny_holding (thn (hi pins s1 σ H1 _ I1 q1) fun iv s2 ⟨y, H2, I2, r2, q2⟩ => ?_))
  refine wpAny_bind (wpAny_standAt (wpAny_bind (wpAny_holding (thn (hs pins s2 σ H2 x y v ov iv u _ I2 r1 r2 r q2) fun _ s3 ⟨H3, I3, q3⟩ => ?_))))
  exact wpAny_release ⟨σ, H3, I3, q3⟩
def tAsg (te : TE) (g : TG) : TS := fun D σ H => te σ H fun x H1 => g x σ H1 D.nx
theorem ps_asg {tg e : Expr} {te : TE} {g : TG} (he : PE X e te) (hg : PG X tg g) (hs : swapsWithSole [tg] e pos.line X.env = pure false := by rfl) (hw : swappedStores [tg] e X.env = pure none := by rfl)
    (h1 : (assignEach [tg] X.env).map (·.2) = [assign tg X.env] := by rfl) : PS X (.Assign [tg] e pos) (tAsg te g) := by
  intro pins s σ H D I h
  refine wpAny_Assign_stores (thn (he pins s σ H _ I h) fun v s1 ⟨x, H1, I1, r1, q1⟩ => ?_) hs hw
  rw [h1]
  exact thn (hg pins s1 σ H1 x v _ I1 r1 q1) fun _ s2 q => q
theorem ps_set {i : Nat} {x : Str} {e : Expr} {te : TE} {pos' : Pos} (hN : X.N.Nodup) (hi : X.N[i]? = some x) (hx : Loc X.env.scope x) (he : PE X e te) (hs : swapsWith e (some (.Name x pos')) pos.line X.env = pure false := by rfl) (hf : X.fn x = true ∨ X.env.scope.names.lookup x = some .local := by first | exact .inl rfl | exact .inr rfl | assumption) :
    PS X (.Assign [.Name x pos'] e pos) (tAsg te (gName i)) := by
  intro pins s σ H D I h
  refine wpAny_Assign_Name (thn (he pins s σ H _ I h) fun v s1 ⟨y, H1, I1, r1, q1⟩ => ?_) hs
  exact store_ok I1 hN hi hx r1 (fun s2 I2 => ⟨_, H1, I2, q1⟩) hf
def tAug (i : Nat) (te : TE) (ti : TIp) : TS := fun D σ H => ∃ x, σ[i]? = some (some x) ∧ te σ H fun y H1 => ti x y H1 fun z H2 => D.nx (σ.set i (some z)) H2
theorem ps_aug {i : Nat} {x : Str} {e : Expr} {te : TE} {op : Operator} {ti : TIp} {pos' : Pos} (hN : X.N.Nodup) (hi : X.N[i]? = some x) (hx : Loc X.env.scope x) (he : PE X e te) (ho : PIp X op ti) (hf : X.fn x = true ∨ X.env.scope.names.lookup x = some .local := by first | exact .inl rfl | exact .inr rfl | assumption) :
    PS X (.AugAssign (.Name x pos') op e pos) (tAug i te ti) := by
  intro pins s σ H D I h
  obtain ⟨v, e1, h⟩ := h
  obtain ⟨m, hn, hl⟩ := I.loc
  have vis : Vis X.env.scope x := by rcases hx with k | k; exact .inl k; exact .inr (.inl k)
  obtain ⟨u, r, l⟩ := hl i x v hi e1 vis
  refine wpAny_AugAssign_Name ?_
  have go : wpAny (model X.prog X.w) X.A (eval e X.env) (fun w s₂ => wpAny (model X.prog X.w) X.A (inplaceOp op u w) (fun r s₃ => wpAny (model X.prog X.w) X.A (storeName X.env x r) (fun _ => SP X pins D .next) X.xe s₃) X.xe s₂) X.xe s := by
    refine thn (he pins s σ H _ I h) fun w s1 ⟨y, H1, I1, r1, q1⟩ => ?_
    refine thn (ho pins s1 σ H1 v y u w _ I1 r r1 q1) fun z s2 ⟨zv, H2, I2, r2, q2⟩ => ?_
    exact store_ok I2 hN hi hx r2 (fun s3 I3 => ⟨_, H2, I3, q2⟩) hf
  rcases l with ⟨hk, hm⟩ | ⟨hk, c, hc, hcell⟩
  · exact wpAny_loadName_local I.ok.kind hk hn hm go
  · rcases hk with hk | hk
    · exact wpAny_loadName_cell I.ok.kind hk hc hcell go
    · rcases hx with k | k
      · have : X.env.scope.names.lookup x = some .free := hk
        rw [k] at this; cases this
      · have : X.env.scope.names.lookup x = some .free := hk
        rw [k] at this; cases this
def tAugS (to ti te : TE) (tget : V → V → Hp → VK → Prop) (tip : TIp) (tset : TSet) : TS := fun D σ H => to σ H fun o H1 => ti σ H1 fun i H2 => tget o i H2 fun x H3 => te σ H3 fun y H4 => tip x y H4 fun z H5 => tset o i z H5 fun H6 => D.nx σ H6
def PGet (X : Cx) (t : V → V → Hp → VK → Prop) : Prop :=
  ∀ (pins : List (Addr × Obj)) (s : Shared) (σ : St) (H : Hp) (o i : V) (ov iv : Value) (Q : VK), Inv X pins σ H s → RelV o ov → RelV i iv → t o i H Q →
    wpAny (model X.prog X.w) X.A (getItem ov iv) (EP X pins σ Q) X.xe s
theorem ps_augS {o i e : Expr} {to ti te : TE} {tget : V → V → Hp → VK → Prop} {tip : TIp} {tset : TSet} {op : Operator} {tpos : Pos} (ho : PE X o to) (hi : PE X i ti) (hg : PGet X tget) (he : PE X e te) (hp : PIp X op tip) (hs : PSet X tset)
    (ha : ∀ ov iv new, augStore i ov iv new = (do holding [new, ov, iv] (setItem ov iv new); release [new, ov, iv] []; pure .next) := by intros; rfl) : PS X (.AugAssign (.Subscript o i tpos) op e pos) (tAugS to ti te tget tip tset) := by
  intro pins s σ H D I h
  refine wpAny_AugAssign_SubscriptAny (thn (ho pins s σ H _ I h) fun ov s1 ⟨x1, H1, I1, r1, q1⟩ => ?_) ha
  refine thn (hi pins s1 σ H1 _ I1 q1) fun iv s2 ⟨x2, H2, I2, r2, q2⟩ => ?_
  refine thn (hg pins s2 σ H2 x1 x2 ov iv _ I2 r1 r2 q2) fun old s3 ⟨x3, H3, I3, r3, q3⟩ => ?_
  refine thn (he pins s3 σ H3 _ I3 q3) fun v s4 ⟨x4, H4, I4, r4, q4⟩ => ?_
  refine thn (hp pins s4 σ H4 x3 x4 old v _ I4 r3 r4 q4) fun new s5 ⟨x5, H5, I5, r5, q5⟩ => ?_
  exact thn (hs pins s5 σ H5 x1 x2 x5 ov iv new _ I5 r1 r2 r5 q5) fun _ s6 ⟨H6, I6, q6⟩ => ⟨σ, H6, I6, q6⟩
end
section
variable {X : Cx} {pos : Pos}
def tWhile (c : TT) (tb : TS) : TS := fun D σ H => ∃ W : Nat → St → Hp → Prop, (∃ m, W m σ H) ∧ ∀ m σ H, W m σ H →
  c σ H fun b H1 => if b = true then ∃ N : St → Hp → Prop, (∀ σ' H', N σ' H' → ∃ m', m' < m ∧ W m' σ' H') ∧ tb { D with nx := N, ct := N, bk := D.nx } σ H1 else D.nx σ H1
theorem ps_while {c : Expr} {body : List Stmt} {tc : TT} {tb : TS} (hp : PassesOwn (model X.prog X.w) X.A X.env X.xe) (hc : PT X c tc) (hb : PSs X body tb) : PS X (.While c body [] pos) (tWhile tc tb) := by
  intro pins s σ H D I h
  obtain ⟨W, ⟨m0, w0⟩, turn⟩ := h
  refine wpAny_While (codeAny_whileLoop (fun n s' => ∃ σ' H', Inv X pins σ' H' s' ∧ W n σ' H') ?_ m0 ⟨σ, H, I, w0⟩)
  rintro n s1 ⟨σ1, H1, I1, w1⟩
  refine wpAny_passesOwn hp (thn (hc pins s1 σ1 H1 _ I1 (turn n σ1 H1 w1)) fun b s2 ⟨H2, I2, q2⟩ => ?_)
  cases b with
  | true =>
    obtain ⟨N, hN, q2⟩ := q2
    rw [if_pos rfl]
    refine wpAny_passesOwn hp (thn (hb pins s2 σ1 H2 _ I2 q2) fun f s3 q3 => ?_)
    cases f with
    | next =>
      obtain ⟨σ3, H3, I3, n3⟩ := q3
      obtain ⟨m', hm, w3⟩ := hN σ3 H3 n3
      exact ⟨m', hm, σ3, H3, I3, w3⟩
    | cont =>
      obtain ⟨σ3, H3, I3, n3⟩ := q3
      obtain ⟨m', hm, w3⟩ := hN σ3 H3 n3
      exact ⟨m', hm, σ3, H3, I3, w3⟩
    | brk => exact q3
    | ret v => exact q3
  | false =>
    rw [if_neg Bool.false_ne_true]
    exact wpAny_execs_nil ⟨σ1, H2, I2, q2⟩
end
structure It where
  go : Nat → Hp → Prop
  yld : Nat → Hp → V → Hp → Prop
  stop : Nat → Hp → Prop
def FpOk (X : Cx) (pins : List (Addr × Obj)) (H : Hp) (b : Addr) : Prop :=
  H b = none ∧ b ≠ X.env.locals ∧ b ∉ X.fs ∧ (b ∈ X.ex ∨ X.s_0.heap.objs.size ≤ b) ∧ (∀ x c, X.env.cells.lookup x = some c → c ≠ b) ∧ ∀ p ∈ X.pn ++ pins, p.1 ≠ b
theorem Inv.fpOk {X : Cx} {pins : List (Addr × Obj)} {σ : St} {H H' : Hp} {s : Shared} {b : Addr} (I : Inv X pins σ H s) (hb : s.heap.objs.size ≤ b) (hn : H' b = none) : FpOk X pins H' b := by
  refine ⟨hn, Nat.ne_of_gt (Nat.lt_of_lt_of_le I.lt hb), I.nofs hb, .inr (Nat.le_trans I.sz hb), fun x c e z => ?_, fun p hp z => ?_⟩
  · obtain ⟨v, q⟩ := I.cell x c e
    exact absurd (Nat.lt_of_lt_of_le q.lt (by rw [z]; exact hb)) (Nat.lt_irrefl _)
  · exact absurd (Nat.lt_of_lt_of_le (Heap.lt_size (I.pin p hp).1) (by rw [z]; exact hb)) (Nat.lt_irrefl _)
structure Turn (P : Program) (w : World) (K : PySem.W.Frag) (tg : Expr) (J : It) (fp : List Addr) (it : Addr) (tn : Nat → Heap → Prop) : Prop where
  mem : it ∈ fp
  obj : ∀ i h, tn i h → ∀ b ∈ fp, ∃ o, h.get? b = some o ∧ ∀ v, o.data ≠ .cell v
  keep : ∀ i h h', tn i h → (∀ b ∈ fp, ∀ o, h.get? b = some o → h'.get? b = some o) → tn i h'
  item : ∀ (X : Cx), X.prog = P → X.w = w → X.K = K → X.calm = true → ∀ (i : Nat) (pins : List (Addr × Obj)) (s : Shared) (σ : St) (H : Hp) (E : Value → Shared → Prop), Inv X pins σ H s → (∀ b ∈ fp, FpOk X pins H b) → tn i s.heap → J.go i H →
    wpAny (model P w) X.A (pyNext (.ref it)) (fun r s1 => ∃ u, r = some u ∧
      wpAny (model P w) X.A (letOwnedTupleGo tg (.ref it) u) (fun _ s2 => ∃ x H', Inv X pins σ H' s2 ∧ RelV x u ∧ J.yld i H x H' ∧ tn (i + 1) s2.heap ∧ ∀ b ∈ fp, H' b = none) E s1) E s
  done : ∀ (X : Cx), X.prog = P → X.w = w → X.K = K → X.calm = true → ∀ (i : Nat) (pins : List (Addr × Obj)) (s : Shared) (σ : St) (H : Hp) (E : Value → Shared → Prop), Inv X pins σ H s → (∀ b ∈ fp, FpOk X pins H b) → tn i s.heap → J.stop i H →
    wpAny (model P w) X.A (pyNext (.ref it)) (fun r s1 => r = none ∧ Inv X pins σ H s1) E s
  self : ∀ (A : Around) (i : Nat) (s : Shared) (Q : Value → Shared → Prop) (E : Value → Shared → Prop), tn i s.heap → Q (.ref it) s → wpAny (model P w) A (pyIter (.ref it)) Q E s
abbrev TI := St → Hp → (It → Hp → Prop) → Prop
def PIE (X : Cx) (pins : List (Addr × Obj)) (σ : St) (tg : Expr) (R : It → Hp → Prop) (itv : Value) (s2 : Shared) : Prop :=
  ∃ (it : Addr) (fp : List Addr) (tn : Nat → Heap → Prop) (J : It) (H' : Hp), itv = .ref it ∧ Inv X pins σ H' s2 ∧ Turn X.prog X.w X.K tg J fp it tn ∧ tn 0 s2.heap ∧ (∀ b ∈ fp, FpOk X pins H' b) ∧ R J H'
def PI (X : Cx) (tg iter : Expr) (wi : TI) : Prop :=
  ∀ (pins : List (Addr × Obj)) (s : Shared) (σ : St) (H : Hp) (R : It → Hp → Prop), Inv X pins σ H s → wi σ H R →
    wpAny (model X.prog X.w) X.A (eval iter X.env) (fun v s1 => wpAny (model X.prog X.w) X.A (pyIter v) (PIE X pins σ tg R) X.xe s1) X.xe s
theorem go_of {M : Model} {A : Around} {E : Value → Shared → Prop} {s : Shared} {tg : Expr} {it : Addr} {u : Value} {o : Obj} {n : String} {vs : Array Value} {Q : Unit → Shared → Prop} (ho : s.heap.get? it = some o) (hc : o.cls = .type n) (hd : o.data = .fields vs)
    (hn : ["enumerate", "zip", "dict_itemiterator", "dict_reverseitemiterator", "odict_iterator", "itertools.zip_longest", "itertools.pairwise"].contains n = false) (hQ : Q () s) : wpAny M A (letOwnedTupleGo tg (.ref it) u) Q E s := by
  unfold letOwnedTupleGo
  cases tg <;> first
    | exact wpAny_pure hQ
    | (cases u <;> first
        | exact wpAny_pure hQ
        | (refine wpAny_bind (wpAny_load ho ?_)
           rw [hc, hd]
           show wpAny M A (if (["enumerate", "zip", "dict_itemiterator", "dict_reverseitemiterator", "odict_iterator", "itertools.zip_longest", "itertools.pairwise"].contains n && vs[0]? == some (rawInt _)) = true then _ else _) Q E s
           rw [if_neg (by intro h; rw [hn, Bool.false_and] at h; cases h)]
           exact wpAny_pure hQ))
def Itl (K : PySem.W.Frag) (a : Addr) : It :=
  ⟨fun i H => ∃ xs x, SqL K H a xs ∧ xs[i]? = some x, fun i H x H' => H' = H ∧ ∀ xs, SqL K H a xs → xs[i]? = some x, fun i H => ∃ xs, SqL K H a xs ∧ xs.length ≤ i⟩
def Itt (K : PySem.W.Frag) (a : Addr) : It :=
  ⟨fun i H => ∃ xs x, SqT K H a xs ∧ xs[i]? = some x, fun i H x H' => H' = H ∧ ∀ xs, SqT K H a xs → xs[i]? = some x, fun i H => ∃ xs, SqT K H a xs ∧ xs.length ≤ i⟩
def Itr (lo : Int) (n : Nat) : It := ⟨fun i _ => i < n, fun i H x H' => H' = H ∧ x = .int (lo + i), fun i _ => n ≤ i⟩
theorem turn_list {P : Program} {w : World} {K : PySem.W.Frag} {tg : Expr} (a it : Addr) : Turn P w K tg (Itl K a) [it] it (fun i h => h.IsListIter it a i) where
  mem := by simp
  obj := fun i h st b hb => by
    have e : b = it := by simpa using hb
    subst e
    obtain ⟨o, e, c, d⟩ := st
    exact ⟨o, e, fun v z => by rw [d] at z; cases z⟩
  keep := fun i h h' st k => st.at fun o e => k it (by simp) o e
  item := by
    intro X hP hw hK hc i pins s σ H E I hf st hg
    subst hP hw hK
    obtain ⟨xs, x, hq, hx⟩ := hg
    obtain ⟨its, rv, p, hz⟩ := I.list hq
    obtain ⟨u, hu, ru⟩ := rv.get hx
    obtain ⟨f0, f1, f2, f3, f4, f5⟩ := hf it (by simp)
    refine wpAny_pyNext_list_item st p.isList (x := u) (by simpa using hu) fun h' st' sb => ?_
    have I1 : Inv X pins σ H { s with heap := h' } := I.turned (t' := s.toks) (fun b o hb e => (sb.2 b hb).trans e) f0 f1 f3 f4 f5
    obtain ⟨o, e, c, d⟩ := id st'
    exact ⟨u, rfl, go_of (s := { s with heap := h' }) e c d (by decide) ⟨x, H, I1, ru, ⟨rfl, fun ys hy => by rw [I.list_inj hy hq]; exact hx⟩, st', fun b hb => (hf b hb).1⟩⟩
  done := by
    intro X hP hw hK hc i pins s σ H E I hf st hg
    subst hP hw hK
    obtain ⟨xs, hq, hx⟩ := hg
    obtain ⟨its, rv, p, hz⟩ := I.list hq
    obtain ⟨f0, f1, f2, f3, f4, f5⟩ := hf it (by simp)
    have hl := rv.length
    exact wpAny_pyNext_list_end (I.ok.hd hc) st p.isList (by simp; omega) fun h' eb => ⟨rfl, I.turned (t' := s.toks) (fun b o hb e => eb b o hb e) f0 f1 f3 f4 f5⟩
  self := fun _ _ _ _ _ st h => wpAny_pyIter_listiter st h
theorem turn_tuple {P : Program} {w : World} {K : PySem.W.Frag} {tg : Expr} (a it : Addr) : Turn P w K tg (Itt K a) [it] it (fun i h => h.IsTupleIter it a i) where
  mem := by simp
  obj := fun i h st b hb => by
    have e : b = it := by simpa using hb
    subst e
    obtain ⟨o, e, c, d⟩ := st
    exact ⟨o, e, fun v z => by rw [d] at z; cases z⟩
  keep := fun i h h' st k => st.at fun o e => k it (by simp) o e
  item := by
    intro X hP hw hK hc i pins s σ H E I hf st hg
    subst hP hw hK
    obtain ⟨xs, x, hq, hx⟩ := hg
    obtain ⟨its, rv, p, hz⟩ := I.tuple hq
    obtain ⟨u, hu, ru⟩ := rv.get hx
    obtain ⟨f0, f1, f2, f3, f4, f5⟩ := hf it (by simp)
    refine wpAny_pyNext_tuple_item st (show s.heap.IsTuple a its.toArray from p) (x := u) (by simpa using hu) fun h' st' sb => ?_
    have I1 : Inv X pins σ H { s with heap := h' } := I.turned (t' := s.toks) (fun b o hb e => (sb.2 b hb).trans e) f0 f1 f3 f4 f5
    obtain ⟨o, e, c, d⟩ := id st'
    exact ⟨u, rfl, go_of (s := { s with heap := h' }) e c d (by decide) ⟨x, H, I1, ru, ⟨rfl, fun ys hy => by rw [I.tuple_inj hy hq]; exact hx⟩, st', fun b hb => (hf b hb).1⟩⟩
  done := by
    intro X hP hw hK hc i pins s σ H E I hf st hg
    subst hP hw hK
    obtain ⟨xs, hq, hx⟩ := hg
    obtain ⟨its, rv, p, hz⟩ := I.tuple hq
    obtain ⟨f0, f1, f2, f3, f4, f5⟩ := hf it (by simp)
    have hl := rv.length
    exact wpAny_pyNext_tuple_end (I.ok.hd hc) st (show s.heap.IsTuple a its.toArray from p) (by simp; omega) fun h' eb => ⟨rfl, I.turned (t' := s.toks) (fun b o hb e => eb b o hb e) f0 f1 f3 f4 f5⟩
  self := fun _ _ _ _ _ st h => wpAny_pyIter_tupleiter st h
theorem turn_range {P : Program} {w : World} {K : PySem.W.Frag} {tg : Expr} (it : Addr) (lo : Int) (n : Nat) : Turn P w K tg (Itr lo n) [it] it (fun i h => IsRangeIter h it (lo + (i : Nat) * 1) ((n : Int) - (i : Nat)) 1) where
  mem := by simp
  obj := fun i h st b hb => by
    have e : b = it := by simpa using hb
    subst e
    exact ⟨_, st, fun v z => by
      have z' : Data.fields _ = Data.cell v := z
      cases z'⟩
  keep := fun i h h' st k => k it (by simp) _ st
  item := by
    intro X hP hw hK hc i pins s σ H E I hf st hg
    subst hP hw hK
    obtain ⟨f0, f1, f2, f3, f4, f5⟩ := hf it (by simp)
    have W := Walks.range (prog := X.prog) (w := X.w) (I.ok.hd hc) it lo 1 n
    refine W.item i s _ _ hg st fun v h' tk hv st' kk => ?_
    obtain ⟨t, rfl⟩ := hv
    have I1 : Inv X pins σ H { s with heap := h', toks := tk } := I.turned (fun b o hb e => kk b o (by simpa using hb) e) f0 f1 f3 f4 f5
    refine ⟨_, rfl, go_of (s := { s with heap := h', toks := tk }) (n := "range_iterator") st' rfl rfl (by decide) ⟨.int (lo + i), H, I1, ⟨t, ?_⟩, ⟨rfl, rfl⟩, st', fun b hb => (hf b hb).1⟩⟩
    rw [Int.mul_one]
  done := by
    intro X hP hw hK hc i pins s σ H E I hf st hg
    subst hP hw hK
    obtain ⟨f0, f1, f2, f3, f4, f5⟩ := hf it (by simp)
    exact wpAny_pyNext_range_end (I.ok.hd hc) st (by have : n ≤ i := hg; omega) fun h' eb => ⟨rfl, I.turned (t' := s.toks) (fun b o hb e => eb b o hb e) f0 f1 f3 f4 f5⟩
  self := fun _ _ _ _ _ st h => wpAny_pyIter_rangeiter st h
end L2
namespace L2
open PySem PySem.Spec PyProof.Rows
section
variable {X : Cx} {tg : Expr}
def iList (K : PySem.W.Frag) (tl : TE) : TI := fun σ H R => tl σ H fun x H1 => ∃ a, x = .ref a ∧ (∃ xs, SqL K H1 a xs) ∧ R (Itl K a) H1
def iTup (K : PySem.W.Frag) (tl : TE) : TI := fun σ H R => tl σ H fun x H1 => ∃ a, x = .ref a ∧ (∃ xs, SqT K H1 a xs) ∧ R (Itt K a) H1
theorem pi_list {l : Expr} {tl : TE} (hl : PE X l tl) : PI X tg l (iList X.K tl) := by
  intro pins s σ H R I h
  refine thn (hl pins s σ H _ I h) fun v s1 ⟨x, H1, I1, r1, q1⟩ => ?_
  obtain ⟨a, e, ⟨xs, hq⟩, q⟩ := q1
  subst e
  cases r1
  obtain ⟨its, rv, p, hz⟩ := I1.list hq
  refine wpAny_pyIter_list p.isList ?_
  refine ⟨s1.heap.objs.size, [s1.heap.objs.size], _, _, H1, rfl, I1.kept (t' := s1.toks) fun b o e => Heap.get?_push_of_some _ e, turn_list a _, ⟨_, Heap.get?_push_size _ rfl, rfl, rfl⟩, fun b hb => ?_, q⟩
  have e : b = s1.heap.objs.size := by simpa using hb
  subst e
  exact I1.fpOk (Nat.le_refl _) (I1.hok.fresh (Nat.le_refl _))
theorem pi_tup {l : Expr} {tl : TE} (hl : PE X l tl) : PI X tg l (iTup X.K tl) := by
  intro pins s σ H R I h
  refine thn (hl pins s σ H _ I h) fun v s1 ⟨x, H1, I1, r1, q1⟩ => ?_
  obtain ⟨a, e, ⟨xs, hq⟩, q⟩ := q1
  subst e
  cases r1
  obtain ⟨its, rv, p, hz⟩ := I1.tuple hq
  refine wpAny_pyIter_tuple (show s1.heap.IsTuple a its.toArray from p) ?_
  refine ⟨s1.heap.objs.size, [s1.heap.objs.size], _, _, H1, rfl, I1.kept (t' := s1.toks) fun b o e => Heap.get?_push_of_some _ e, turn_tuple a _, ⟨_, Heap.get?_push_size _ rfl, rfl, rfl⟩, fun b hb => ?_, q⟩
  have e : b = s1.heap.objs.size := by simpa using hb
  subst e
  exact I1.fpOk (Nat.le_refl _) (I1.hok.fresh (Nat.le_refl _))
theorem range_it {pins : List (Addr × Obj)} {σ : St} {H : Hp} {s : Shared} {R : It → Hp → Prop} {E : Value → Shared → Prop} {lo hi : Int} {t u v : Tok} {tk : Nat} (I : Inv X pins σ H s) (h1 : -(2 ^ 62) ≤ lo) (h2 : lo < 2 ^ 62) (h3 : -(2 ^ 62) ≤ hi) (h4 : hi < 2 ^ 62)
    (q : R (Itr lo (hi - lo).toNat) H) : wpAny (model X.prog X.w) X.A (pyIter (.ref s.heap.objs.size)) (PIE X pins σ tg R) E { s with heap := s.heap.push { cls := .type "range", data := .fields #[.int lo t, .int hi u, .int 1 v] }, toks := tk } := by
  refine wpAny_pyIter_range (IsRange.new ..) (small_one h1 h2 h3 h4) ?_
  have I1 : Inv X pins σ H { s with heap := s.heap.push { cls := .type "range", data := .fields #[.int lo t, .int hi u, .int 1 v] }, toks := tk } := I.kept fun b o e => Heap.get?_push_of_some _ e
  refine ⟨(s.heap.push { cls := .type "range", data := .fields #[.int lo t, .int hi u, .int 1 v] }).objs.size, [(s.heap.push { cls := .type "range", data := .fields #[.int lo t, .int hi u, .int 1 v] }).objs.size], _, _, H, rfl,
    I1.kept (t' := tk) fun b o e => Heap.get?_push_of_some _ e, turn_range _ lo (hi - lo).toNat, ?_, fun b hb => ?_, q⟩
  · have e1 : lo + ((0 : Nat) : Int) * 1 = lo := by simp
    have e2 : (((hi - lo).toNat : Nat) : Int) - ((0 : Nat) : Int) = Builtin.Range.rangeSize lo hi 1 := by rw [rangeSize_one]; split <;> omega
    show IsRangeIter _ _ (lo + ((0 : Nat) : Int) * 1) ((((hi - lo).toNat : Nat) : Int) - ((0 : Nat) : Int)) 1
    rw [e1, e2]
    exact Heap.get?_push_size _ rfl
  · have e : b = (s.heap.push { cls := .type "range", data := .fields #[.int lo t, .int hi u, .int 1 v] }).objs.size := by simpa using hb
    subst e
    exact I1.fpOk (Nat.le_refl _) (I1.hok.fresh (Nat.le_refl _))
def iRng1 (ta : TA) : TI := fun σ H R => ta σ H fun vs H1 => ∃ j : Int, vs = [.int j] ∧ -(2 ^ 62) ≤ j ∧ j < 2 ^ 62 ∧ R (Itr 0 j.toNat) H1
def iRng2 (ta : TA) : TI := fun σ H R => ta σ H fun vs H1 => ∃ i j : Int, vs = [.int i, .int j] ∧ (-(2 ^ 62) ≤ i ∧ i < 2 ^ 62 ∧ -(2 ^ 62) ≤ j ∧ j < 2 ^ 62) ∧ R (Itr i (j - i).toNat) H1
theorem pi_range1 {a : Expr} {ta : TA} {p pos : Pos} (hg : Gl X "range") (hm : X.mg "range" = none) (ha : PA X [a] ta) (hs : starEach [a] X.env = [(false, eval a X.env)] := by rfl) : PI X tg (.Call (.Name "range" p) [a] [] pos) (iRng1 ta) := by
  intro pins s σ H R I h
  refine Call_ (ld_blt I hg hm boot_range (PyProof.Rows.callWith_type1 (thn (ha pos pins s σ H _ I h) fun us s1 ⟨vs, H1, I1, r1, q1⟩ => ?_) hs rfl))
  obtain ⟨j, e, q1, q2, q⟩ := q1
  subst e
  cases r1 with
  | cons r rr =>
    cases rr
    obtain ⟨t, rfl⟩ := r
    exact call_range_1 (range_it I1 (by omega) (by omega) q1 q2 (by simpa using q))
theorem pi_range2 {a b : Expr} {ta : TA} {p pos : Pos} (hg : Gl X "range") (hm : X.mg "range" = none) (ha : PA X [a, b] ta) (hs : starEach [a, b] X.env = [(false, eval a X.env), (false, eval b X.env)] := by rfl) (hs2 : starEach [b] X.env = [(false, eval b X.env)] := by rfl) :
    PI X tg (.Call (.Name "range" p) [a, b] [] pos) (iRng2 ta) := by
  intro pins s σ H R I h
  refine Call_ (ld_blt I hg hm boot_range (PyProof.Rows.callWith_type1 (thn (ha pos pins s σ H _ I h) fun us s1 ⟨vs, H1, I1, r1, q1⟩ => ?_) (by rw [hs, hs2]) (by rw [hs2]; rfl)))
  obtain ⟨i, j, e, ⟨q1, q2, q3, q4⟩, q⟩ := q1
  subst e
  cases r1 with
  | cons r rr =>
    cases rr with
    | cons r' rr =>
      cases rr
      obtain ⟨t, rfl⟩ := r
      obtain ⟨t', rfl⟩ := r'
      exact call_range_2 (range_it I1 q1 q2 q3 q4 q)
def tFor (wi : TI) (g : TG) (tb : TS) : TS := fun D σ H => wi σ H fun J H1 => ∃ W : Nat → Nat → St → Hp → Prop, (∃ m, W 0 m σ H1) ∧ ∀ i m σ H, W i m σ H →
  (J.stop i H ∧ D.nx σ H) ∨ (J.go i H ∧ ∃ N : St → Hp → Prop, (∀ σ' H', N σ' H' → ∃ m', m' < m ∧ W (i + 1) m' σ' H') ∧ ∀ x H', J.yld i H x H' → g x σ H' fun σ2 H2 => tb { D with nx := N, ct := N, bk := D.nx } σ2 H2)
def pinsAt (fp : List Addr) (h : Heap) : List (Addr × Obj) := fp.filterMap fun b => (h.get? b).map fun o => (b, o)
theorem mem_pinsAt {fp : List Addr} {h : Heap} {b : Addr} {o : Obj} (hb : b ∈ fp) (e : h.get? b = some o) : (b, o) ∈ pinsAt fp h := List.mem_filterMap.mpr ⟨b, hb, by rw [e]; rfl⟩
theorem of_pinsAt {fp : List Addr} {h : Heap} {p : Addr × Obj} (hp : p ∈ pinsAt fp h) : p.1 ∈ fp ∧ h.get? p.1 = some p.2 := by
  obtain ⟨b, hb, e⟩ := List.mem_filterMap.mp hp
  cases q : h.get? b with
  | none => rw [q] at e; cases e
  | some o =>
    rw [q] at e
    have e' : (b, o) = p := Option.some.inj e
    subst e'
    exact ⟨hb, q⟩
theorem Inv.pinned {pins : List (Addr × Obj)} {σ : St} {H : Hp} {s : Shared} {fp : List Addr} (I : Inv X pins σ H s) (hf : ∀ b ∈ fp, FpOk X pins H b) (ho : ∀ b ∈ fp, ∃ o, s.heap.get? b = some o ∧ ∀ v, o.data ≠ .cell v) : Inv X (pins ++ pinsAt fp s.heap) σ H s :=
  I.pins_of fun p hp => (List.mem_append.mp hp).elim (fun z => I.pin p (List.mem_append_right _ z)) fun z => by
    obtain ⟨hb, e⟩ := of_pinsAt z
    obtain ⟨f0, f1, f2, _⟩ := hf p.1 hb
    obtain ⟨o, e', d⟩ := ho p.1 hb
    rw [e] at e'; cases e'
    exact ⟨e, f0, f1, f2, d⟩
theorem Inv.unpinned {pins pl : List (Addr × Obj)} {σ : St} {H : Hp} {s : Shared} (I : Inv X (pins ++ pl) σ H s) : Inv X pins σ H s := I.pins_of fun p hp => I.pin p (List.mem_append_right _ (List.mem_append_left _ hp))
theorem ps_for {iter : Expr} {body : List Stmt} {wi : TI} {g : TG} {tb : TS} {pos : Pos} (hp : PassesOwn (model X.prog X.w) X.A X.env X.xe) (hc : X.calm = true) (hi : PI X tg iter wi) (hg : PG X tg g) (hb : PSs X body tb)
    (hs : ∀ x, foldedSetIterable iter X.env x = pure x := by intro _; rfl) : PS X (.For tg iter body [] pos) (tFor wi g tb) := by
  intro pins s σ H D I h
  refine wpAny_For (thn (hi pins s σ H _ I h) fun v s1 h1 => thn h1 fun itv s2 h2 => ?_) hs
  obtain ⟨it, fp, tn, J, H2, e, I2, T, st2, f2, W, ⟨m0, w0⟩, turn⟩ := h2
  subst e
  -- what stays true of the iterator's objects through the loop
  have stat : ∀ {H' : Hp}, (∀ b ∈ fp, H' b = none) → ∀ b ∈ fp, FpOk X pins H' b := fun hn b hb => ⟨hn b hb, (f2 b hb).2⟩
  refine codeAny_forLoop_any (fun n s' => ∃ i σ' H', Inv X pins σ' H' s' ∧ tn i s'.heap ∧ (∀ b ∈ fp, H' b = none) ∧ W i n σ' H') ?_ m0 ⟨0, σ, H2, I2, st2, fun b hb => (f2 b hb).1, w0⟩
  rintro n s3 ⟨i, σ3, H3, I3, st3, fr3, w3⟩
  rcases turn i n σ3 H3 w3 with ⟨stop, qn⟩ | ⟨go, N, hN, step⟩
  · refine wpAny_passesOwn hp (thn (T.done X rfl rfl rfl hc i pins s3 σ3 H3 X.xe I3 (stat fr3) st3 stop) fun r s4 ⟨hr, I4⟩ => ?_)
    subst hr
    exact wpAny_execs_nil ⟨σ3, H3, I4, qn⟩
  · refine wpAny_passesOwn hp (thn (T.item X rfl rfl rfl hc i pins s3 σ3 H3 X.xe I3 (stat fr3) st3 go) fun r s4 ⟨u, hr, h4⟩ => ?_)
    subst hr
    refine wpAny_passesOwn hp (thn h4 fun _ s5 ⟨x, H5, I5, r5, y5, st5, fr5⟩ => ?_)
    have I5' := I5.pinned (stat fr5) (T.obj _ _ st5)
    refine wpAny_passesOwn hp (thn (hg _ s5 σ3 H5 x u _ I5' r5 (step x H5 y5)) fun _ s6 ⟨σ6, H6, I6, q6⟩ => ?_)
    refine wpAny_passesOwn hp (thn (hb _ s6 σ6 H6 _ I6 q6) fun f s7 q7 => ?_)
    have again : ∀ {σ7 : St} {H7 : Hp}, Inv X (pins ++ pinsAt fp s5.heap) σ7 H7 s7 → N σ7 H7 → ∃ m, m < n ∧ ∃ i σ' H', Inv X pins σ' H' s7 ∧ tn i s7.heap ∧ (∀ b ∈ fp, H' b = none) ∧ W i m σ' H' := fun {σ7 H7} I7 n7 => by
      obtain ⟨m', hm, w7⟩ := hN σ7 H7 n7
      refine ⟨m', hm, i + 1, σ7, H7, I7.unpinned, T.keep _ _ _ st5 fun b hb o e => (I7.pin (b, o) (List.mem_append_right _ (List.mem_append_right _ (mem_pinsAt hb e)))).1, fun b hb => ?_, w7⟩
      obtain ⟨o, e, d⟩ := T.obj _ _ st5 b hb
      exact (I7.pin (b, o) (List.mem_append_right _ (List.mem_append_right _ (mem_pinsAt hb e)))).2.1
    cases f with
    | next => obtain ⟨σ7, H7, I7, n7⟩ := q7; exact again I7 n7
    | cont => obtain ⟨σ7, H7, I7, n7⟩ := q7; exact again I7 n7
    | brk => obtain ⟨σ7, H7, I7, q7⟩ := q7; exact ⟨σ7, H7, I7.unpinned, q7⟩
    | ret v => obtain ⟨x7, σ7, H7, I7, r7, q7⟩ := q7; exact ⟨x7, σ7, H7, I7.unpinned, r7, q7⟩
end
theorem for_list {K : PySem.W.Frag} {a : Addr} {xs : List V} {g : TG} {tb : TS} {D : Ends} {σ : St} {H : Hp} (Pv : Nat → St → Hp → Prop) (h0 : Pv 0 σ H) (hl : ∀ i σ H, i ≤ xs.length → Pv i σ H → SqL K H a xs)
    (hs : ∀ i x σ H, xs[i]? = some x → Pv i σ H → g x σ H fun σ2 H2 => tb { D with nx := Pv (i + 1), ct := Pv (i + 1), bk := D.nx } σ2 H2) (hd : ∀ σ H, Pv xs.length σ H → D.nx σ H) :
    ∃ W : Nat → Nat → St → Hp → Prop, (∃ m, W 0 m σ H) ∧ ∀ i m σ H, W i m σ H →
      ((Itl K a).stop i H ∧ D.nx σ H) ∨ ((Itl K a).go i H ∧ ∃ N : St → Hp → Prop, (∀ σ' H', N σ' H' → ∃ m', m' < m ∧ W (i + 1) m' σ' H') ∧ ∀ x H', (Itl K a).yld i H x H' → g x σ H' fun σ2 H2 => tb { D with nx := N, ct := N, bk := D.nx } σ2 H2) := by
  refine ⟨fun i m σ H => m = xs.length - i ∧ i ≤ xs.length ∧ Pv i σ H, ⟨xs.length, by simp, Nat.zero_le _, h0⟩, ?_⟩
  rintro i m σ H ⟨rfl, hi, p⟩
  have q := hl i σ H hi p
  by_cases hlt : i < xs.length
  · refine .inr ⟨⟨xs, xs[i], q, by simp [hlt]⟩, Pv (i + 1), fun σ' H' p' => ⟨xs.length - (i + 1), by omega, rfl, hlt, p'⟩, fun x H' y => ?_⟩
    obtain ⟨e, y⟩ := y
    subst e
    exact hs i x σ _ (y xs q) p
  · have e : i = xs.length := by omega
    subst e
    exact .inl ⟨⟨xs, q, Nat.le_refl _⟩, hd σ H p⟩
theorem for_tup {K : PySem.W.Frag} {a : Addr} {xs : List V} {g : TG} {tb : TS} {D : Ends} {σ : St} {H : Hp} (Pv : Nat → St → Hp → Prop) (h0 : Pv 0 σ H) (hl : ∀ i σ H, i ≤ xs.length → Pv i σ H → SqT K H a xs)
    (hs : ∀ i x σ H, xs[i]? = some x → Pv i σ H → g x σ H fun σ2 H2 => tb { D with nx := Pv (i + 1), ct := Pv (i + 1), bk := D.nx } σ2 H2) (hd : ∀ σ H, Pv xs.length σ H → D.nx σ H) :
    ∃ W : Nat → Nat → St → Hp → Prop, (∃ m, W 0 m σ H) ∧ ∀ i m σ H, W i m σ H →
      ((Itt K a).stop i H ∧ D.nx σ H) ∨ ((Itt K a).go i H ∧ ∃ N : St → Hp → Prop, (∀ σ' H', N σ' H' → ∃ m', m' < m ∧ W (i + 1) m' σ' H') ∧ ∀ x H', (Itt K a).yld i H x H' → g x σ H' fun σ2 H2 => tb { D with nx := N, ct := N, bk := D.nx } σ2 H2) := by
  refine ⟨fun i m σ H => m = xs.length - i ∧ i ≤ xs.length ∧ Pv i σ H, ⟨xs.length, by simp, Nat.zero_le _, h0⟩, ?_⟩
  rintro i m σ H ⟨rfl, hi, p⟩
  have q := hl i σ H hi p
  by_cases hlt : i < xs.length
  · refine .inr ⟨⟨xs, xs[i], q, by simp [hlt]⟩, Pv (i + 1), fun σ' H' p' => ⟨xs.length - (i + 1), by omega, rfl, hlt, p'⟩, fun x H' y => ?_⟩
    obtain ⟨e, y⟩ := y
    subst e
    exact hs i x σ _ (y xs q) p
  · have e : i = xs.length := by omega
    subst e
    exact .inl ⟨⟨xs, q, Nat.le_refl _⟩, hd σ H p⟩
theorem for_range {lo : Int} {n : Nat} {g : TG} {tb : TS} {D : Ends} {σ : St} {H : Hp} (Pv : Nat → St → Hp → Prop) (h0 : Pv 0 σ H)
    (hs : ∀ i σ H, i < n → Pv i σ H → g (.int (lo + i)) σ H fun σ2 H2 => tb { D with nx := Pv (i + 1), ct := Pv (i + 1), bk := D.nx } σ2 H2) (hd : ∀ σ H, Pv n σ H → D.nx σ H) :
    ∃ W : Nat → Nat → St → Hp → Prop, (∃ m, W 0 m σ H) ∧ ∀ i m σ H, W i m σ H →
      ((Itr lo n).stop i H ∧ D.nx σ H) ∨ ((Itr lo n).go i H ∧ ∃ N : St → Hp → Prop, (∀ σ' H', N σ' H' → ∃ m', m' < m ∧ W (i + 1) m' σ' H') ∧ ∀ x H', (Itr lo n).yld i H x H' → g x σ H' fun σ2 H2 => tb { D with nx := N, ct := N, bk := D.nx } σ2 H2) := by
  refine ⟨fun i m σ H => m = n - i ∧ i ≤ n ∧ Pv i σ H, ⟨n, by simp, Nat.zero_le _, h0⟩, ?_⟩
  rintro i m σ H ⟨rfl, hi, p⟩
  by_cases hlt : i < n
  · refine .inr ⟨hlt, Pv (i + 1), fun σ' H' p' => ⟨n - (i + 1), by omega, rfl, hlt, p'⟩, fun x H' y => ?_⟩
    obtain ⟨e, y⟩ := y
    subst e y
    exact hs i σ _ hlt p
  · have e : i = n := by omega
    subst e
    exact .inl ⟨Nat.le_refl _, hd σ H p⟩
end L2
namespace L2
open PySem PySem.Spec PyProof.Rows
abbrev R2 := V → V → Hp → VK → Prop
def OpR (X : Cx) (f : Value → Value → Sem Value) (r : R2) : Prop :=
  ∀ (pins : List (Addr × Obj)) (s : Shared) (σ : St) (H : Hp) (x y : V) (v u : Value) (Q : VK), Inv X pins σ H s → RelV x v → RelV y u → r x y H Q →
    wpAny (model X.prog X.w) X.A (f v u) (EP X pins σ Q) X.xe s
def UnR (X : Cx) (f : Value → Sem Value) (r : V → Hp → VK → Prop) : Prop :=
  ∀ (pins : List (Addr × Obj)) (s : Shared) (σ : St) (H : Hp) (x : V) (v : Value) (Q : VK), Inv X pins σ H s → RelV x v → r x H Q →
    wpAny (model X.prog X.w) X.A (f v) (EP X pins σ Q) X.xe s
def CallR (X : Cx) (f : Value) (r : List V → Hp → VK → Prop) : Prop :=
  ∀ (pins : List (Addr × Obj)) (s : Shared) (σ : St) (H : Hp) (xs : List V) (us : List Value) (Q : VK), Inv X pins σ H s → Vals xs us → r xs H Q →
    wpAny (model X.prog X.w) X.A (call f us) (EP X pins σ Q) X.xe s
def TruR (X : Cx) (r : V → Hp → (Bool → Hp → Prop) → Prop) : Prop :=
  ∀ (pins : List (Addr × Obj)) (s : Shared) (σ : St) (H : Hp) (x : V) (v : Value) (Q : Bool → Hp → Prop), Inv X pins σ H s → RelV x v → r x H Q →
    wpAny (model X.prog X.w) X.A (truthy v) (TP X pins σ Q) X.xe s
def tOp (r : R2) (ta tb : TE) : TE := fun σ H Q => ta σ H fun x H1 => tb σ H1 fun y H2 => r x y H2 Q
def tUn (r : V → Hp → VK → Prop) (ta : TE) : TE := fun σ H Q => ta σ H fun x H1 => r x H1 Q
def rI (C : Int → Int → Prop) (g : Int → Int → V) : R2 := fun x y H Q => ∃ i j, x = .int i ∧ y = .int j ∧ C i j ∧ Q (g i j) H
def rI0 (g : Int → Int → V) : R2 := fun x y H Q => ∃ i j, x = .int i ∧ y = .int j ∧ Q (g i j) H
def rU (g : Int → V) : V → Hp → VK → Prop := fun x H Q => ∃ i, x = .int i ∧ Q (g i) H
section
variable {X : Cx} {a b c : Expr} {ta tb tc : TE} {pos : Pos}
theorem binT (ha : PE X a ta) (hb : PE X b tb) {pins : List (Addr × Obj)} {s : Shared} {σ : St} {H : Hp} {R : V → V → Hp → Prop} (I : Inv X pins σ H s)
    (h : ta σ H fun x H1 => tb σ H1 fun y H2 => R x y H2) {Q : Value → Shared → Prop} {f : Value → Value → Sem Value}
    (hf : ∀ v u s2 x y H2, Inv X pins σ H2 s2 → RelV x v → RelV y u → R x y H2 → wpAny (model X.prog X.w) X.A (f v u) Q X.xe s2) :
    wpAny (model X.prog X.w) X.A (eval a X.env) (fun v s₁ => wpAny (model X.prog X.w) X.A (eval b X.env) (fun u s₂ => wpAny (model X.prog X.w) X.A (f v u) Q X.xe s₂) X.xe s₁) X.xe s := by
  refine thn (ha pins s σ H _ I h) fun v s1 ⟨x, H1, I1, r1, q1⟩ => ?_
  refine thn (hb pins s1 σ H1 _ I1 q1) fun u s2 ⟨y, H2, I2, r2, q2⟩ => ?_
  exact hf v u s2 x y H2 I2 r1 r2 q2
theorem pe_op {op : Operator} {r : R2} (ho : OpR X (binaryOp op) r) (ha : PE X a ta) (hb : PE X b tb) : PE X (.BinOp a op b pos) (tOp r ta tb) := by
  intro pins s σ H Q I h
  exact wpAny_BinOp (binT ha hb I h fun v u s2 x y H2 I2 rx ry q => ho pins s2 σ H2 x y v u Q I2 rx ry q)
theorem pe_un {op : UnaryOp} {r : V → Hp → VK → Prop} (ho : UnR X (unaryOp op) r) (ha : PE X a ta) : PE X (.UnaryOp op a pos) (tUn r ta) := by
  intro pins s σ H Q I h
  exact UnaryOp_ (thn (ha pins s σ H _ I h) fun v s1 ⟨x, H1, I1, r1, q1⟩ => ho pins s1 σ H1 x v Q I1 r1 q1)
theorem opI {f : Value → Value → Sem Value} {C : Int → Int → Prop} {g : Int → Int → Int}
    (rule : ∀ (i j : Int) (t u : Tok) (s : Shared) (Q : Value → Shared → Prop) (E : Value → Shared → Prop), C i j → Q (.int (g i j) s.toks) { s with toks := s.toks + 1 } → wpAny (model X.prog X.w) X.A (f (.int i t) (.int j u)) Q E s) :
    OpR X f (rI C fun i j => .int (g i j)) := by
  intro pins s σ H x y v u Q I rx ry h
  obtain ⟨i, j, rfl, rfl, hc, q⟩ := h
  obtain ⟨t, rfl⟩ := rx
  obtain ⟨t', rfl⟩ := ry
  exact rule i j t t' s _ _ hc ⟨.int (g i j), H, I.tok _, ⟨_, rfl⟩, q⟩
theorem opI0 {f : Value → Value → Sem Value} {g : Int → Int → Int}
    (rule : ∀ (i j : Int) (t u : Tok) (s : Shared) (Q : Value → Shared → Prop) (E : Value → Shared → Prop), Q (.int (g i j) s.toks) { s with toks := s.toks + 1 } → wpAny (model X.prog X.w) X.A (f (.int i t) (.int j u)) Q E s) :
    OpR X f (rI0 fun i j => .int (g i j)) := by
  intro pins s σ H x y v u Q I rx ry h
  obtain ⟨i, j, rfl, rfl, q⟩ := h
  obtain ⟨t, rfl⟩ := rx
  obtain ⟨t', rfl⟩ := ry
  exact rule i j t t' s _ _ ⟨.int (g i j), H, I.tok _, ⟨_, rfl⟩, q⟩
theorem opB0 {f : Value → Value → Sem Value} {g : Int → Int → Bool}
    (rule : ∀ (i j : Int) (t u : Tok) (s : Shared) (Q : Value → Shared → Prop) (E : Value → Shared → Prop), Q (.bool (g i j)) s → wpAny (model X.prog X.w) X.A (f (.int i t) (.int j u)) Q E s) :
    OpR X f (rI0 fun i j => .bl (g i j)) := by
  intro pins s σ H x y v u Q I rx ry h
  obtain ⟨i, j, rfl, rfl, q⟩ := h
  obtain ⟨t, rfl⟩ := rx
  obtain ⟨t', rfl⟩ := ry
  exact rule i j t t' s _ _ ⟨.bl (g i j), H, I, rfl, q⟩
def CDiv (i j : Int) : Prop := 0 < j ∧ j < 1073741824
def CPow (i j : Int) : Prop := 0 ≤ j ∧ j ≤ 1000000 ∧ i.natAbs < 2 ^ 64
def CMul (i j : Int) : Prop := (-(2 ^ 64) < i ∧ i < 2 ^ 64) ∨ (-(2 ^ 64) < j ∧ j < 2 ^ 64)
theorem CMul.ok {i j : Int} (h : CMul i j) : IntMulOk i j := by
  rcases h with ⟨h1, h2⟩ | ⟨h1, h2⟩
  · exact .of_left (intBits_le_64 h1 h2)
  · exact .of_right (intBits_le_64 h1 h2)
theorem two_pow_nn (k : Nat) : (0 : Int) ≤ 2 ^ k := by
  rw [two_pow_cast]
  exact Int.natCast_nonneg _
theorem op_add : OpR X (binaryOp .Add) (rI0 fun i j => .int (i + j)) := opI0 fun _ _ _ _ _ _ _ q => add_int q
theorem op_sub : OpR X (binaryOp .Sub) (rI0 fun i j => .int (i - j)) := opI0 fun _ _ _ _ _ _ _ q => sub_int q
theorem op_mul : OpR X (binaryOp .Mult) (rI CMul fun i j => .int (i * j)) := opI fun _ _ _ _ _ _ _ hc q => mul_int q hc.ok
theorem op_fdiv : OpR X (binaryOp .FloorDiv) (rI CDiv fun i j => .int (i / j)) := opI fun i j _ _ _ _ _ hc q => by
  have h1 : (0 : Int) < j := hc.1
  have h2 : j < 1073741824 := hc.2
  exact floordiv_int (by omega) (by rw [Int.fdiv_eq_ediv_of_nonneg i (by omega)]; exact q) (.inl (PyProof.noPylong_small (by omega)))
theorem op_mod : OpR X (binaryOp .Mod) (rI (fun _ j => 0 < j) fun i j => .int (i % j)) := opI fun i j _ _ _ _ _ hc q => by
  have h1 : (0 : Int) < j := hc
  exact mod_int' (by omega) (by rw [Int.fmod_eq_emod_of_nonneg i (by omega)]; exact q)
theorem op_shl : OpR X (binaryOp .LShift) (rI CPow fun i j => .int (i * 2 ^ j.toNat)) := opI fun _ _ _ _ _ _ _ hc q => lshift_int_small hc.1 hc.2.1 hc.2.2 q
theorem op_shr : OpR X (binaryOp .RShift) (rI (fun _ j => 0 ≤ j) fun i j => .int (i / 2 ^ j.toNat)) := opI fun i j _ _ _ _ _ hc q =>
  rshift_int hc (by rw [Int.fdiv_eq_ediv_of_nonneg i (two_pow_nn _)]; exact q)
theorem op_and : OpR X (binaryOp .BitAnd) (rI0 fun i j => .int (Builtin.bitAnd i j)) := opI0 fun _ _ _ _ _ _ _ q => and_int q
theorem iop_add : OpR X (inplaceOp .Add) (rI0 fun i j => .int (i + j)) := opI0 fun _ _ _ _ _ _ _ q => iadd_int q
theorem iop_or : OpR X (inplaceOp .BitOr) (rI0 fun i j => .int (Builtin.bitOr i j)) := opI0 fun _ _ _ _ _ _ _ q => ior_int q
theorem iop_xor : OpR X (inplaceOp .BitXor) (rI0 fun i j => .int (Builtin.bitXor i j)) := opI0 fun _ _ _ _ _ _ _ q => ixor_int q
theorem unI {f : Value → Sem Value} {g : Int → Int}
    (rule : ∀ (i : Int) (t : Tok) (s : Shared) (Q : Value → Shared → Prop) (E : Value → Shared → Prop), Q (.int (g i) s.toks) { s with toks := s.toks + 1 } → wpAny (model X.prog X.w) X.A (f (.int i t)) Q E s) :
    UnR X f (rU fun i => .int (g i)) := by
  intro pins s σ H x v Q I rx h
  obtain ⟨i, rfl, q⟩ := h
  obtain ⟨t, rfl⟩ := rx
  exact rule i t s _ _ ⟨.int (g i), H, I.tok _, ⟨_, rfl⟩, q⟩
theorem un_neg : UnR X (unaryOp .USub) (rU fun i => .int (-i)) := unI fun _ _ _ _ _ q => neg_int q
theorem un_inv : UnR X (unaryOp .Invert) (rU fun i => .int (Builtin.bitNot i)) := unI fun _ _ _ _ _ q => invert_int q
end
def scal : V → V → Bool
  | .non, .non => true | .non, .int _ => true | .int _, .non => true | .non, .bl _ => true | .bl _, .non => true | .non, .str _ => true | .str _, .non => true
  | .int _, .int _ => true | .bl _, .bl _ => true | .str _, .str _ => true | .byt _, .byt _ => true
  | .int _, .str _ => true | .str _, .int _ => true | .bl _, .str _ => true | .str _, .bl _ => true
  | _, _ => false
def rEq : R2 := fun x y H Q => scal x y = true ∧ Q (.bl (decide (x = y))) H
def rNe : R2 := fun x y H Q => scal x y = true ∧ Q (.bl (!decide (x = y))) H
theorem dec_int {i j : Int} : decide (V.int i = V.int j) = (i == j) := by
  rw [Bool.eq_iff_iff]
  simp
theorem dec_bl {i j : Bool} : decide (V.bl i = V.bl j) = (i == j) := by
  rw [Bool.eq_iff_iff]
  simp
theorem dec_str {i j : Str} : decide (V.str i = V.str j) = (i == j) := by
  rw [Bool.eq_iff_iff]
  simp
theorem dec_byt {i j : Array UInt8} : decide (V.byt i = V.byt j) = (i.toList == j.toList) := by
  rw [Bool.eq_iff_iff]
  cases i
  cases j
  simp
section
variable {X : Cx} {a b c : Expr} {ta tb tc : TE} {pos : Pos}
theorem fin_bl {pins : List (Addr × Obj)} {σ : St} {H : Hp} {s : Shared} {Q : VK} {k k' : Bool} (I : Inv X pins σ H s) (q : Q (.bl k) H) (e : k = k') : EP X pins σ Q (.bool k') s := by
  subst e
  exact ⟨.bl k, H, I, rfl, q⟩
theorem op_eq : OpR X (compareOp .Eq) rEq := by
  intro pins s σ H x y v u Q I rx ry h
  obtain ⟨hs, q⟩ := h
  cases x with
  | non =>
    cases rx
    cases y with
    | non => cases ry; exact PySem.EqNone.eq_none_none (fin_bl I q (by simp))
    | bl j => cases ry; exact PySem.EqNone.eq_none_bool (fin_bl I q (by simp))
    | int j => obtain ⟨t', rfl⟩ := ry; exact PySem.EqNone.eq_none_int (fin_bl I q (by simp))
    | str j => obtain ⟨t', rfl⟩ := ry; exact PySem.EqNone.eq_none_str (fin_bl I q (by simp))
    | _ => exact absurd (show false = true from hs) Bool.false_ne_true
  | bl i =>
    cases rx
    cases y with
    | non => cases ry; exact PySem.EqNone.eq_bool_none (fin_bl I q (by simp))
    | bl j => cases ry; exact eq_bool (fin_bl I q dec_bl)
    | str j => obtain ⟨t', rfl⟩ := ry; exact PySem.EqMixed.eq_bool_str (fin_bl I q (by simp))
    | _ => exact absurd (show false = true from hs) Bool.false_ne_true
  | int i =>
    obtain ⟨t, rfl⟩ := rx
    cases y with
    | non => cases ry; exact PySem.EqNone.eq_int_none (fin_bl I q (by simp))
    | int j => obtain ⟨t', rfl⟩ := ry; exact eq_int (fin_bl I q dec_int)
    | str j => obtain ⟨t', rfl⟩ := ry; exact PySem.EqMixed.eq_int_str (fin_bl I q (by simp))
    | _ => exact absurd (show false = true from hs) Bool.false_ne_true
  | str i =>
    obtain ⟨t, rfl⟩ := rx
    cases y with
    | non => cases ry; exact PySem.EqNone.eq_str_none (fin_bl I q (by simp))
    | bl j => cases ry; exact PySem.EqMixed.eq_str_bool (fin_bl I q (by simp))
    | int j => obtain ⟨t', rfl⟩ := ry; exact PySem.EqMixed.eq_str_int (fin_bl I q (by simp))
    | str j => obtain ⟨t', rfl⟩ := ry; exact eq_str (fin_bl I q dec_str)
    | _ => exact absurd (show false = true from hs) Bool.false_ne_true
  | byt i =>
    obtain ⟨t, rfl⟩ := rx
    cases y with
    | byt j => obtain ⟨t', rfl⟩ := ry; exact PySem.W.eq_bytes (fin_bl I q dec_byt)
    | _ => exact absurd (show false = true from hs) Bool.false_ne_true
  | _ => cases y <;> exact absurd (show false = true from hs) Bool.false_ne_true
theorem op_ne : OpR X (compareOp .NotEq) rNe := by
  intro pins s σ H x y v u Q I rx ry h
  obtain ⟨hs, q⟩ := h
  cases x with
  | non =>
    cases rx
    cases y with
    | non => cases ry; exact PySem.EqNone.ne_none_none (fin_bl I q (by simp))
    | bl j => cases ry; exact PySem.EqNone.ne_none_bool (fin_bl I q (by simp))
    | int j => obtain ⟨t', rfl⟩ := ry; exact PySem.EqNone.ne_none_int (fin_bl I q (by simp))
    | str j => obtain ⟨t', rfl⟩ := ry; exact PySem.EqNone.ne_none_str (fin_bl I q (by simp))
    | _ => exact absurd (show false = true from hs) Bool.false_ne_true
  | bl i =>
    cases rx
    cases y with
    | non => cases ry; exact PySem.EqNone.ne_bool_none (fin_bl I q (by simp))
    | bl j => cases ry; exact ne_bool (fin_bl I q (congrArg not dec_bl))
    | str j => obtain ⟨t', rfl⟩ := ry; exact PySem.EqMixed.ne_bool_str (fin_bl I q (by simp))
    | _ => exact absurd (show false = true from hs) Bool.false_ne_true
  | int i =>
    obtain ⟨t, rfl⟩ := rx
    cases y with
    | non => cases ry; exact PySem.EqNone.ne_int_none (fin_bl I q (by simp))
    | int j => obtain ⟨t', rfl⟩ := ry; exact ne_int (fin_bl I q (congrArg not dec_int))
    | str j => obtain ⟨t', rfl⟩ := ry; exact PySem.EqMixed.ne_int_str (fin_bl I q (by simp))
    | _ => exact absurd (show false = true from hs) Bool.false_ne_true
  | str i =>
    obtain ⟨t, rfl⟩ := rx
    cases y with
    | non => cases ry; exact PySem.EqNone.ne_str_none (fin_bl I q (by simp))
    | bl j => cases ry; exact PySem.EqMixed.ne_str_bool (fin_bl I q (by simp))
    | int j => obtain ⟨t', rfl⟩ := ry; exact PySem.EqMixed.ne_str_int (fin_bl I q (by simp))
    | str j => obtain ⟨t', rfl⟩ := ry; exact ne_str (fin_bl I q (congrArg not dec_str))
    | _ => exact absurd (show false = true from hs) Bool.false_ne_true
  | byt i =>
    obtain ⟨t, rfl⟩ := rx
    cases y with
    | byt j => obtain ⟨t', rfl⟩ := ry; exact PySem.W.ne_bytes (fin_bl I q (congrArg not dec_byt))
    | _ => exact absurd (show false = true from hs) Bool.false_ne_true
  | _ => cases y <;> exact absurd (show false = true from hs) Bool.false_ne_true
theorem op_lt : OpR X (compareOp .Lt) (rI0 fun i j => .bl (decide (i < j))) := opB0 fun _ _ _ _ _ _ _ q => lt_int q
theorem op_le : OpR X (compareOp .LtE) (rI0 fun i j => .bl (decide (i ≤ j))) := opB0 fun _ _ _ _ _ _ _ q => le_int q
theorem op_gt : OpR X (compareOp .Gt) (rI0 fun i j => .bl (decide (j < i))) := opB0 fun _ _ _ _ _ _ _ q => gt_int q
theorem op_ge : OpR X (compareOp .GtE) (rI0 fun i j => .bl (decide (j ≤ i))) := opB0 fun _ _ _ _ _ _ _ q => ge_int q
theorem op_isN : OpR X (compareOp .Is) (fun x y H Q => y = .non ∧ Q (.bl (decide (x = .non))) H) := by
  intro pins s σ H x y v u Q I rx ry h
  obtain ⟨rfl, q⟩ := h
  cases ry
  refine is_none_gen (fin_bl I q ?_)
  cases x <;> first
    | (cases rx; rfl)
    | (obtain ⟨t, rfl⟩ := rx; rfl)
theorem op_notN : OpR X (compareOp .IsNot) (fun x y H Q => y = .non ∧ Q (.bl (!decide (x = .non))) H) := by
  intro pins s σ H x y v u Q I rx ry h
  obtain ⟨rfl, q⟩ := h
  cases ry
  refine isnot_none_gen (fin_bl I q ?_)
  cases x <;> first
    | (cases rx; rfl)
    | (obtain ⟨t, rfl⟩ := rx; rfl)
theorem nomark (b : Expr) {op : CmpOp} (h : op ≠ .In := by decide) (h2 : op ≠ .NotIn := by decide) : behindInMarks op b = false := by
  have e1 : (op == CmpOp.In) = false := by cases op <;> first | rfl | exact absurd rfl h
  have e2 : (op == CmpOp.NotIn) = false := by cases op <;> first | rfl | exact absurd rfl h2
  cases b <;> simp [behindInMarks, e1, e2]
theorem pe_cmpR {op : CmpOp} {r : R2} (ho : OpR X (compareOp op) r) (ha : PE X a ta) (hb : PE X b tb) (hm : behindInMarks op b = false) : PE X (.Compare a [op] [b] pos) (tOp r ta tb) := by
  intro pins s σ H Q I h
  exact wpAny_Compare1 (binT ha hb I h fun v u s2 x y H2 I2 rx ry q => ho pins s2 σ H2 x y v u Q I2 rx ry q) hm
def tTest (t : TE) : TT := fun σ H Q => t σ H fun x H' => ∃ k, x = .bl k ∧ Q k H'
theorem pt_cmpR {op : CmpOp} {r : R2} (ho : OpR X (compareOp op) r) (ha : PE X a ta) (hb : PE X b tb) (hm : behindInMarks op b = false) : PT X (.Compare a [op] [b] pos) (tTest (tOp r ta tb)) := by
  intro pins s σ H Q I h
  refine wpAny_isTrue_Compare1 (thn (ha pins s σ H _ I h) fun v s1 ⟨x, H1, I1, r1, q1⟩ => thn (hb pins s1 σ H1 _ I1 q1) fun u s2 ⟨y, H2, I2, r2, q2⟩ =>
    thn (ho pins s2 σ H2 x y v u _ I2 r1 r2 q2) fun c s3 ⟨z, H3, I3, r3, k, e, q3⟩ => ?_) hm
  subst e
  cases r3
  exact wpAny_truthy_bool ⟨H3, I3, q3⟩
def tChain (r r' : R2) (ta tb tc : TE) : TE := fun σ H Q => ta σ H fun x H1 => tb σ H1 fun y H2 => r x y H2 fun z H3 => ∃ k, z = .bl k ∧
  (if k = true then tc σ H3 fun w' H4 => r' y w' H4 Q else Q (.bl false) H3)
theorem pe_chain {op op' : CmpOp} {r r' : R2} (ho : OpR X (compareOp op) r) (ho' : OpR X (compareOp op') r') (ha : PE X a ta) (hb : PE X b tb) (hc : PE X c tc)
    (hm : lastMarks [op, op'] [b, c] = false := by with_unfolding_all rfl) : PE X (.Compare a [op, op'] [b, c] pos) (tChain r r' ta tb tc) := by
  intro pins s σ H Q I h
  refine Compare_chain (thn (ha pins s σ H _ I h) fun v s1 ⟨x, H1, I1, r1, q1⟩ => chain_link (thn (hb pins s1 σ H1 _ I1 q1) fun u s2 ⟨y, H2, I2, r2, q2⟩ =>
    thn (ho pins s2 σ H2 x y v u _ I2 r1 r2 q2) fun d s3 ⟨z, H3, I3, r3, k, e, q3⟩ => ?_)) hm
  subst e
  cases r3
  refine wpAny_truthy_bool ?_
  cases k with
  | false => exact ite_ff ⟨.bl false, H3, I3, rfl, q3⟩
  | true => exact ite_tt (chain_last (thn (hc pins s3 σ H3 _ I3 q3) fun w' s4 ⟨z', H4, I4, r4, q4⟩ => ho' pins s4 σ H4 y z' u w' Q I4 r2 r4 q4))
def TruV (K : PySem.W.Frag) (x : V) (H : Hp) (k : Bool) : Prop :=
  match x with
  | .non => k = false
  | .bl b => k = b
  | .int i => k = (i != 0)
  | .str y => y.length ≤ sizeLine ∧ k = ((y.length : Int) != 0)
  | .byt y => y.size ≤ sizeLine ∧ k = ((y.size : Int) != 0)
  | .ref p => (∃ xs, SqL K H p xs ∧ k = !xs.isEmpty) ∨ (∃ xs, SqT K H p xs ∧ k = !xs.isEmpty) ∨ ∃ kvs, H p = some (.dK kvs) ∧ k = !kvs.isEmpty
  | _ => False
theorem isEmpty_kv {κ : Type} {kvs : List (κ × V)} {vs : List (κ × Value)} (r : KV kvs vs) : (!vs.isEmpty) = !kvs.isEmpty := by
  cases r <;> rfl
theorem isEmpty_of {xs : List V} {its : List Value} (r : Vals xs its) : (!its.toArray.isEmpty) = !xs.isEmpty := by
  cases r <;> simp
theorem line63 : (sizeLine : Nat) < 2 ^ 63 := by rw [sizeLine_eq]; decide
theorem tru_ok : TruR X (fun x H Q => ∃ k, TruV X.K x H k ∧ Q k H) := by
  intro pins s σ H x v Q I rx h
  obtain ⟨k, e, q⟩ := h
  have hl := line63
  have hs : sizeLine = 16777216 := sizeLine_eq
  cases x with
  | non =>
    cases rx
    have e' : k = false := e
    subst e'
    exact truthy_none ⟨H, I, q⟩
  | bl b =>
    cases rx
    have e' : k = b := e
    subst e'
    exact wpAny_truthy_bool ⟨H, I, q⟩
  | int i =>
    obtain ⟨t, rfl⟩ := rx
    have e' : k = (i != 0) := e
    subst e'
    exact PySem.P.truthy_int ⟨H, I, q⟩
  | str y =>
    obtain ⟨t, rfl⟩ := rx
    obtain ⟨hy, e'⟩ : y.length ≤ sizeLine ∧ k = ((y.length : Int) != 0) := e
    subst e'
    exact PySem.P.truthy_str (by omega) ⟨H, I.tok _, q⟩
  | byt y =>
    obtain ⟨t, rfl⟩ := rx
    obtain ⟨hy, e'⟩ : y.size ≤ sizeLine ∧ k = ((y.size : Int) != 0) := e
    subst e'
    exact PySem.W.truthy_bytes (by omega) ⟨H, I.tok _, q⟩
  | ref p =>
    cases rx
    have e' : (∃ xs, SqL X.K H p xs ∧ k = !xs.isEmpty) ∨ (∃ xs, SqT X.K H p xs ∧ k = !xs.isEmpty) ∨ ∃ kvs, H p = some (.dK kvs) ∧ k = !kvs.isEmpty := e
    rcases e' with ⟨xs, hx, e'⟩ | ⟨xs, hx, e'⟩ | ⟨kvs, hx, e'⟩
    · subst e'
      obtain ⟨its, r, pl, hz⟩ := I.list hx
      have hlen := r.length
      exact wpAny_truthy_list pl.isList (by simp only [List.size_toArray]; omega) ⟨H, I.tok _, by rw [isEmpty_of r]; exact q⟩
    · subst e'
      obtain ⟨its, r, pl, hz⟩ := I.tuple hx
      have hlen := r.length
      exact truthy_tuple pl (by simp only [List.size_toArray]; omega) ⟨H, I.tok _, by rw [isEmpty_of r]; exact q⟩
    · subst e'
      obtain ⟨hz, hS, vs, r, m⟩ : kvs.length ≤ sizeLine ∧ (p == sysModules) = false ∧ ∃ vs, KV kvs vs ∧ s.heap.DictOf (mixKind X.prog X.w) p vs := I.hok p _ hx
      have hlen : kvs.length = vs.length := Paired.length r
      exact wpAny_truthy_dict hS m (by omega) ⟨H, I.tok _, by rw [isEmpty_kv r]; exact q⟩
  | _ => exact (show False from e).elim
theorem pt_truth (ha : PE X a ta) (he : ∀ whole, isTrue a X.env whole = (do let v ← whole; standAt a.pos; holding [v] (truthy v))) :
    PT X a (fun σ H Q => ta σ H fun x H' => ∃ k, TruV X.K x H' k ∧ Q k H') := by
  intro pins s σ H Q I h
  exact isTrue_plain (thn (ha pins s σ H _ I h) fun v s1 ⟨x, H1, I1, r1, q1⟩ => tru_ok pins s1 σ H1 x v Q I1 r1 q1) (he _)
theorem vals1 {x : V} {us : List Value} (r : Vals [x] us) : ∃ u, us = [u] ∧ RelV x u := by
  cases r with
  | cons r1 r2 => cases r2; exact ⟨_, rfl, r1⟩
theorem vals2 {x y : V} {us : List Value} (r : Vals [x, y] us) : ∃ u w', us = [u, w'] ∧ RelV x u ∧ RelV y w' := by
  cases r with
  | cons r1 r2 =>
    cases r2 with
    | cons r3 r4 => cases r4; exact ⟨_, _, rfl, r1, r3⟩
theorem call_max2 (hc : X.calm = true) : CallR X (.builtin "max") (fun xs H Q => ∃ i j, xs = [.int i, .int j] ∧ Q (.int (if j > i then j else i)) H) := by
  intro pins s σ H xs us Q I r h
  obtain ⟨i, j, rfl, q⟩ := h
  obtain ⟨u, w', rfl, ⟨t, rfl⟩, ⟨t', rfl⟩⟩ := vals2 r
  refine max_two_ints (I.ok.hd hc) fun h' tk k => ⟨_, H, I.kept k, ?_, q⟩
  by_cases hj : j > i
  · rw [if_pos hj, if_pos hj]; exact ⟨_, rfl⟩
  · rw [if_neg hj, if_neg hj]; exact ⟨_, rfl⟩
end
end L2
namespace L2
open PySem PySem.Spec PyProof.Rows
structure ObjM (h : Heap) (x dx C : Addr) (mA : Str → Option Value) : Prop where
  obj : h.get? x = some (PySem.W.instObj C dx)
  ns : h.Ns1 dx mA
  ne : dx ≠ x
theorem lookIn_ns {h : Heap} {dx : Addr} {mA : Str → Option Value} (n : h.Ns1 dx mA) : ∃ od, h.get? dx = some od ∧ ∀ name, PySem.W.lookIn name od = some (mA name) := by
  obtain ⟨o, es, ep, ho, hd, hk, _, hm⟩ := n
  refine ⟨o, ho, fun name => ?_⟩
  have e := hm name
  unfold nsFind findBy at e
  rw [← Array.find?_toList] at e
  unfold PySem.W.lookIn
  rw [hd]
  dsimp only
  split
  · rename_i y q
    rw [q] at e
    exact congrArg some e
  · rename_i q
    rw [q] at e
    have a : es.toList.any (·.refKey) = false := by
      rw [List.any_eq_false]
      intro y hy
      obtain ⟨z, t, hkey⟩ := hk y (Array.mem_toList_iff.mp hy)
      simp [DictEntry.refKey, hkey]
    have a' : ¬ es.toList.any (·.refKey) = true := by rw [a]; exact Bool.false_ne_true
    rw [if_neg a']
    exact congrArg some e
theorem ObjM.look {h : Heap} {x dx C : Addr} {mA : Str → Option Value} (I : ObjM h x dx C mA) : ∃ od, PySem.W.InstAt h x (PySem.W.instObj C dx) C (some od) ∧ ∀ name, PySem.W.lookIn name od = some (mA name) :=
  let ⟨od, ho, hl⟩ := lookIn_ns I.ns
  ⟨od, ⟨I.obj, rfl, rfl, ho⟩, hl⟩
section
variable {prog : Program} {w : World} {A : Around} {E : Value → Shared → Prop} {s : Shared} {K : PySem.W.Frag} {x dx C f : Addr} {mA : Str → Option Value} {name : Str} {v : Value}
theorem get_map {expr : Bool} {Q : Value → Shared → Prop} (X : K.In s.heap) (I : ObjM s.heap x dx C mA) (hg : PySem.W.plainGet K C name = true) (hh : PySem.W.hasDictIn K C = true)
    (ha : PySem.W.findIn K (.ref C) name = some none) (hv : mA name = some v) (hv' : PySem.W.handedIn v = true) (h : Q v { s with toks := s.toks + 1 }) :
    wpAny (model prog w) A (getAttr (.ref x) name expr) Q E s := by
  obtain ⟨od, J, hl⟩ := I.look
  exact PySem.W.get_value X J (PySem.W.plainGet_of hg).1 (PySem.W.findObj_own hh ha rfl (by rw [hl, hv])) hv' h
theorem get_meth {pl : Sem Bool} {Q : Value × List Value → Shared → Prop} (X : K.In s.heap) (I : ObjM s.heap x dx C mA) (hg : PySem.W.plainGet K C name = true)
    (hf : PySem.W.findIn K (.ref C) name = some (some (.ref f))) (ht : PySem.W.isFn K (.ref f) = true) (hv : mA name = none) (h : Q (.ref f, [.ref x]) s) :
    wpAny (model prog w) A (getMethod (.ref x) name pl) Q E s := by
  obtain ⟨od, J, hl⟩ := I.look
  exact PySem.W.method_fn X J (PySem.W.plainGet_of hg).1 (PySem.W.plainGet_of hg).2 hf (beq_iff_eq.mp ht) (by show (PySem.W.lookIn name od).map (·.isSome) = some false; rw [hl, hv]; rfl) h
theorem set_map {ns : List Str} {Q : Unit → Shared → Prop} (X : K.In s.heap) (I : ObjM s.heap x dx C mA)
    (hs : PySem.W.findIn K (.ref C) "__setattr__" = some (some (.builtin "object.__setattr__"))) (hp : PySem.W.plainOver K C = true) (ht : PySem.W.takerIn K C name = some none) (hh : PySem.W.hasDictIn K C = true)
    (hw : PySem.Within mA ns) (hsz : ns.length ≤ sizeLine)
    (h : ∀ h', ObjM h' x dx C (fun y => if y = name then some v else mA y) → Heap.SameBut dx s.heap h' → Q () { s with heap := h', toks := s.toks + 2 }) :
    wpAny (model prog w) A (setAttr (.ref x) name v) Q E s := by
  obtain ⟨od, J, hl⟩ := I.look
  refine PySem.W.set_plain X J hs (PySem.W.osa_open (s := { s with toks := s.toks + 1 }) (r := none) X J hp ht fun b => ?_)
  obtain ⟨cd, hc, hd'⟩ := PySem.W.any_some hh
  have hx : s.heap.get? x = some ⟨.ref C, some dx, .plain, #[]⟩ := I.obj
  refine wpAny_bind (wpAny_pure (wpAny_bind (wpAny_bind (wpAny_loadPart hx (wpAny_bind (PySem.W.Looks.here (s := { s with toks := s.toks + 1 }) (PySem.W.looks_clsIn X hc) ?_))))))
  rw [hd']
  refine wpAny_pure (a := some dx) (wpAny_bind (wpAny_pure (wpAny_bind ?_)))
  refine wpAny_nsSet1 (s := { s with toks := s.toks + 1 }) I.ns fun h' hn2 hs2 => ?_
  obtain ⟨oD, esD, epD, hoD, hdD, hcD⟩ := hn2.count (PySem.Within.cons name v hw)
  refine wpAny_bind (wpAny_lookBehind hoD (by rw [hdD]; exact pastItsLine_dict (Nat.le_trans hcD (by rw [List.length_cons]; omega))) ?_)
  exact wpAny_pure (h _ ⟨(hs2.2 _ (Ne.symm I.ne)).trans I.obj, hn2, I.ne⟩ hs2)
theorem make_map {R : Result → Shared → Prop} {vs : List Value} {kw : List (Str × Value)} (X : K.In s.heap) (hm : PySem.W.makesIn K C = true)
    (hi : PySem.W.findIn K (.ref C) "__init__" = some (some (.ref f))) (hf : PySem.W.typeIn K (.ref f) = some (.type "function"))
    (h : codeAny (model prog w) (A.under (.builtin "type.__call__" ⟨.ref C :: vs, kw⟩)) (.call (.ref f) ⟨.ref (s.heap.objs.size + 1) :: vs, kw⟩) (PySem.W.InitBack (s.heap.objs.size + 1) R)
      { s with heap := (s.heap.push PySem.W.emptyDict).push (PySem.W.instObj C s.heap.objs.size) }) :
    codeAny (model prog w) A (.call (.ref C) ⟨vs, kw⟩) R s := by
  obtain ⟨hh, g, d, t, os⟩ := s
  exact PySem.W.make_core (PySem.W.makes_of X hm) (PySem.W.looks_findIn X hi) (fun self => PySem.W.bind_fn X self hf) (.inl rfl) h
end
def putF (f : Str) (v : V) : List (Str × V) → List (Str × V)
  | [] => [(f, v)]
  | (g, x) :: r => if g = f then (g, v) :: r else (g, x) :: putF f v r
theorem lookup_putF (f g : Str) (v : V) : ∀ fs : List (Str × V), (putF f v fs).lookup g = if g = f then some v else fs.lookup g
  | [] => by
    show List.lookup g [(f, v)] = _
    by_cases h : g = f
    · have hb : (g == f) = true := beq_iff_eq.mpr h
      simp only [List.lookup, hb, if_pos h]
    · have hb : (g == f) = false := beq_eq_false_iff_ne.mpr h
      simp only [List.lookup, hb, if_neg h]
  | (k, x) :: r => by
    have ih := lookup_putF f g v r
    rw [show putF f v ((k, x) :: r) = (if k = f then (k, v) :: r else (k, x) :: putF f v r) from rfl]
    by_cases hk : k = f
    · rw [if_pos hk]
      by_cases h : g = k
      · have hb : (g == k) = true := beq_iff_eq.mpr h
        simp only [List.lookup, hb, if_pos (h.trans hk)]
      · have hb : (g == k) = false := beq_eq_false_iff_ne.mpr h
        simp only [List.lookup, hb, if_neg (fun e : g = f => h (e.trans hk.symm))]
    · rw [if_neg hk]
      by_cases h : g = k
      · have hb : (g == k) = true := beq_iff_eq.mpr h
        simp only [List.lookup, hb, if_neg (fun e : g = f => hk (h.symm.trans e))]
      · have hb : (g == k) = false := beq_eq_false_iff_ne.mpr h
        simp only [List.lookup, hb]
        exact ih
theorem keys_putF (f : Str) (v : V) : ∀ fs : List (Str × V), f ∈ (putF f v fs).map (·.1) ∧ ∀ g, g ∈ fs.map (·.1) → g ∈ (putF f v fs).map (·.1)
  | [] => ⟨by simp [putF], fun g h => by simp at h⟩
  | (k, x) :: r => by
    obtain ⟨i1, i2⟩ := keys_putF f v r
    rw [show putF f v ((k, x) :: r) = (if k = f then (k, v) :: r else (k, x) :: putF f v r) from rfl]
    by_cases hk : k = f
    · rw [if_pos hk]
      subst hk
      exact ⟨by simp, fun g h => by simpa using h⟩
    · rw [if_neg hk]
      refine ⟨?_, fun g h => ?_⟩
      · rw [List.map_cons]
        exact List.mem_cons_of_mem _ i1
      · rw [List.map_cons] at h ⊢
        rcases List.mem_cons.mp h with e | e
        · exact List.mem_cons.mpr (.inl e)
        · exact List.mem_cons_of_mem _ (i2 g e)
theorem length_putF (f : Str) (v : V) : ∀ fs : List (Str × V), (putF f v fs).length ≤ fs.length + 1
  | [] => by simp [putF]
  | (k, x) :: r => by
    have ih := length_putF f v r
    rw [show putF f v ((k, x) :: r) = (if k = f then (k, v) :: r else (k, x) :: putF f v r) from rfl]
    by_cases hk : k = f
    · rw [if_pos hk, List.length_cons, List.length_cons]; omega
    · rw [if_neg hk, List.length_cons, List.length_cons]; omega
theorem RelO.some_of {v : V} {o : Option Value} (r : RelO (some v) o) : ∃ u, o = some u ∧ RelV v u := by
  cases o with
  | none => exact (show False from r).elim
  | some u => exact ⟨u, rfl, r⟩
theorem RelO.none_of {o : Option Value} (r : RelO none o) : o = none := by
  cases o with
  | none => rfl
  | some u => exact (show False from r).elim
theorem handed_of {v : V} {u : Value} (r : RelV v u) : PySem.W.handedIn u = true := by
  cases v with
  | non => cases (show u = Value.none from r); rfl
  | bl b => cases (show u = Value.bool b from r); rfl
  | int i => obtain ⟨t, e⟩ := (show ∃ t, u = Value.int i t from r); cases e; rfl
  | str x => obtain ⟨t, e⟩ := (show ∃ t, u = Value.str x t from r); cases e; rfl
  | byt b => obtain ⟨t, e⟩ := (show ∃ t, u = Value.bytes b t from r); cases e; rfl
  | flt b => obtain ⟨t, e⟩ := (show ∃ t, u = Value.float b t from r); cases e; rfl
  | ref a => cases (show u = Value.ref a from r); rfl
  | ty n => cases (show u = Value.type n from r); rfl
section
variable {P : Program} {w : World} {H H' : Hp} {h h' : Heap} {a C dx : Addr} {fs fs' : List (Str × V)}
theorem ins_get (hok : HOk P w H h) (e : H a = some (.ins C dx fs)) : ∃ mA, ObjM h a dx C mA ∧ (∀ f, RelO (fs.lookup f) (mA f)) ∧ PySem.Within mA (fs.map (·.1)) ∧ fs.length ≤ 1000 ∧ H dx = some (.own a) := by
  obtain ⟨d, z, ne, ob, mA, n, r, q⟩ := (show ObjOk P w H h a (.ins C dx fs) from hok a _ e)
  exact ⟨mA, ⟨ob, n, ne⟩, r, q, z, d⟩
end
structure Cls (K : PySem.W.Frag) (C : Addr) : Prop where
  pg : PySem.W.plainGet K C Str.empty = true
  hd : PySem.W.hasDictIn K C = true
  po : PySem.W.plainOver K C = true
  sa : PySem.W.findIn K (.ref C) "__setattr__" = some (some (.builtin "object.__setattr__"))
theorem Cls.get {K : PySem.W.Frag} {C : Addr} (c : Cls K C) (f : Str) : PySem.W.plainGet K C f = true := c.pg
def NoAttr (K : PySem.W.Frag) (C : Addr) (f : Str) : Prop := PySem.W.findIn K (.ref C) f = some none
theorem NoAttr.taker {K : PySem.W.Frag} {C : Addr} {f : Str} (n : NoAttr K C f) : PySem.W.takerIn K C f = some none := by
  unfold PySem.W.takerIn
  rw [show PySem.W.findIn K (.ref C) f = some none from n]
  rfl
structure Meth (K : PySem.W.Frag) (C : Addr) (m : Str) (f : Addr) : Prop where
  at_ : PySem.W.findIn K (.ref C) m = some (some (.ref f))
  fn : PySem.W.isFn K (.ref f) = true
  kp : PySem.W.keepIn K (.ref f) = true
section
variable {X : Cx} {pins : List (Addr × Obj)} {σ : St} {H : Hp} {s : Shared} {a C dx : Addr} {fs : List (Str × V)} {f : Str} {v : V} {A : Around} {E : Value → Shared → Prop}
theorem getattr_ok {b : Bool} {Q : Value → Shared → Prop} (I : Inv X pins σ H s) (e : H a = some (.ins C dx fs)) (c : Cls X.K C) (n : NoAttr X.K C f) (l : fs.lookup f = some v)
    (h : ∀ u s', Inv X pins σ H s' → RelV v u → Q u s') : wpAny (model X.prog X.w) A (getAttr (.ref a) f b) Q E s := by
  obtain ⟨mA, O, r, _, _, _⟩ := ins_get I.hok e
  obtain ⟨u, hu, ru⟩ := RelO.some_of (v := v) (o := mA f) (by rw [← l]; exact r f)
  exact get_map I.kIn O (c.get f) c.hd n hu (handed_of ru) (h u _ (I.tok _) ru)
theorem getmeth_ok {m : Str} {g : Addr} {pl : Sem Bool} {Q : Value × List Value → Shared → Prop} (I : Inv X pins σ H s) (e : H a = some (.ins C dx fs)) (c : Cls X.K C) (k : Meth X.K C m g) (l : fs.lookup m = none)
    (h : Q (.ref g, [.ref a]) s) : wpAny (model X.prog X.w) A (getMethod (.ref a) m pl) Q E s := by
  obtain ⟨mA, O, r, _, _, _⟩ := ins_get I.hok e
  have hn : mA m = none := RelO.none_of (by rw [← l]; exact r m)
  exact get_meth I.kIn O (c.get m) k.at_ k.fn hn h
theorem setattr_ok {y : V} {u : Value} {Q : Unit → Shared → Prop} (I : Inv X pins σ H s) (e : H a = some (.ins C dx fs)) (c : Cls X.K C) (n : NoAttr X.K C f) (hl : fs.length < 1000) (ry : RelV y u)
    (h : ∀ s', Inv X pins σ (upd H a (.ins C dx (putF f y fs))) s' → Q () s') : wpAny (model X.prog X.w) A (setAttr (.ref a) f u) Q E s := by
  obtain ⟨mA, O, r, wi, _, ho⟩ := ins_get I.hok e
  have hz : (fs.map (·.1)).length ≤ sizeLine := by rw [List.length_map, sizeLine_eq]; omega
  refine set_map I.kIn O c.sa c.po n.taker c.hd wi hz fun h' O' sb => h _ ?_
  have hd : ∃ o, h'.get? dx = some o := let ⟨o, _, _, e', _⟩ := O'.ns; ⟨o, e'⟩
  refine I.write (x := a) (e := dx) (by rw [e]; exact True.intro) (.inr ho) (fun b q hb z => (sb.2 b hb).trans z) hd ?_
  refine ⟨by rw [upd_ne O.ne]; exact ho, ?_, O.ne, O'.obj, _, O'.ns, fun g => ?_, fun g hg => ?_⟩
  · have := length_putF f y fs; omega
  · show RelO ((putF f y fs).lookup g) (if g = f then some u else mA g)
    rw [lookup_putF]
    by_cases q : g = f
    · rw [if_pos q, if_pos q]; exact ry
    · rw [if_neg q, if_neg q]; exact r g
  · by_cases q : g = f
    · rw [q]; exact (keys_putF f y fs).1
    · refine (keys_putF f y fs).2 g (wi g fun z => hg ?_)
      show (if g = f then some u else mA g) = none
      rw [if_neg q]; exact z
theorem Inv.made (I : Inv X pins σ H s) : Inv X pins σ (upd (upd H s.heap.objs.size (.own (s.heap.objs.size + 1))) (s.heap.objs.size + 1) (.ins C s.heap.objs.size []))
    { s with heap := (s.heap.push PySem.W.emptyDict).push (PySem.W.instObj C s.heap.objs.size) } := by
  have e1 : (s.heap.push PySem.W.emptyDict).get? s.heap.objs.size = some PySem.W.emptyDict := Heap.get?_push_size s.heap rfl
  have e2 : ((s.heap.push PySem.W.emptyDict).push (PySem.W.instObj C s.heap.objs.size)).get? (s.heap.objs.size + 1) = some (PySem.W.instObj C s.heap.objs.size) := by
    have := Heap.get?_push_size (s.heap.push PySem.W.emptyDict) (o := PySem.W.instObj C s.heap.objs.size) rfl
    rwa [Heap.size_push] at this
  have e3 : (s.heap.push PySem.W.emptyDict).Ns s.heap.objs.size (fun _ => none) := ⟨PySem.W.emptyDict, #[], _, e1, rfl, (fun e he => absurd he (by simp)), fun _ => rfl⟩
  have I1 := I.laid (a := s.heap.objs.size) (o := .own (s.heap.objs.size + 1)) (h' := s.heap.push PySem.W.emptyDict) (t' := s.toks) (fun b u q => Heap.get?_push_of_some _ q) (Nat.le_refl _) ⟨_, e1⟩
  refine I1.laid (a := s.heap.objs.size + 1) (o := .ins C s.heap.objs.size []) (t' := s.toks) (fun b u q => Heap.get?_push_of_some _ q) (Nat.le_of_eq (Heap.size_push _ _)) ?_
  have ne : s.heap.objs.size ≠ s.heap.objs.size + 1 := Nat.ne_of_lt (Nat.lt_succ_self _)
  refine ⟨by rw [upd_ne ne, upd_same], Nat.zero_le _, ne, e2, fun _ => none, (Heap.Ns1.of_empty e3).at fun o q => Heap.get?_push_of_some _ q, fun _ => True.intro, fun y hy => absurd rfl hy⟩
theorem attr_of {prog : Program} {w : World} {env : Env} {e : Expr} {f : Str} {pos : Pos} {s : Shared} {Q : Value → Shared → Prop} (hb : attributeBase e f env (eval e env) = eval e env)
    (h : wpAny (model prog w) A (eval e env) (fun o s₁ => wpAny (model prog w) A (getAttr o f true) Q E s₁) E s) : wpAny (model prog w) A (eval (.Attribute e f pos) env) Q E s :=
  Attribute_any_ h (by rw [arm_eval_Attribute, hb])
end
def tFld (K : PySem.W.Frag) (ta : TE) (f : Str) : TE := fun σ H Q => ta σ H fun x H1 => ∃ a C dx fs v, x = .ref a ∧ H1 a = some (.ins C dx fs) ∧ Cls K C ∧ NoAttr K C f ∧ fs.lookup f = some v ∧ Q v H1
def sFld (K : PySem.W.Frag) (ta tv : TE) (f : Str) : TS := fun D σ H => tv σ H fun y H1 => ta σ H1 fun x H2 => ∃ a C dx fs, x = .ref a ∧ H2 a = some (.ins C dx fs) ∧ Cls K C ∧ NoAttr K C f ∧ fs.length < 1000 ∧
  D.nx σ (upd H2 a (.ins C dx (putF f y fs)))
def InOp (X : Cx) (op : Operator) (rd : V → V → Hp → VK → Prop) : Prop :=
  ∀ (pins : List (Addr × Obj)) (s : Shared) (σ : St) (H : Hp) (x y : V) (u v : Value) (Q : VK), Inv X pins σ H s → RelV x u → RelV y v → rd x y H Q → wpAny (model X.prog X.w) X.A (inplaceOp op u v) (EP X pins σ Q) X.xe s
def sFldAug (K : PySem.W.Frag) (ta tv : TE) (rd : V → V → Hp → VK → Prop) (f : Str) : TS := fun D σ H => ta σ H fun x H1 => ∃ a C dx fs v, x = .ref a ∧ H1 a = some (.ins C dx fs) ∧ Cls K C ∧ NoAttr K C f ∧ fs.lookup f = some v ∧
  tv σ H1 fun y H2 => rd v y H2 fun z H3 => ∃ dx' fs', H3 a = some (.ins C dx' fs') ∧ fs'.length < 1000 ∧ D.nx σ (upd H3 a (.ins C dx' (putF f z fs')))
section
variable {X : Cx} {o e value : Expr} {f : Str} {pos pos' tpos : Pos} {ta tv : TE}
theorem pe_fld (he : PE X e ta) (hb : attributeBase e f X.env (eval e X.env) = eval e X.env) : PE X (.Attribute e f pos) (tFld X.K ta f) := by
  intro pins s σ H Q I h
  refine attr_of hb (thn (he pins s σ H _ I h) fun u s1 ⟨x, H1, I1, rx, a, C, dx, fs, v, ex, ea, c, n, l, q⟩ => ?_)
  subst ex
  obtain rfl : u = Value.ref a := rx
  exact getattr_ok I1 ea c n l fun u' s2 I2 ru => ⟨v, H1, I2, ru, q⟩
theorem ps_fld (ha : PE X o ta) (hv : PE X value tv) (hs : swapsWith value (some (.Attribute o f pos')) pos.line X.env = pure false) : PS X (.Assign [.Attribute o f pos'] value pos) (sFld X.K ta tv f) := by
  intro pins s σ H D I h
  refine plainObj_wpAny_Assign_Attribute (thn (hv pins s σ H _ I h) fun u s1 ⟨y, H1, I1, ry, q⟩ => thn (ha pins s1 σ H1 _ I1 q) fun ov s2 ⟨x, H2, I2, rx, a, C, dx, fs, ex, ea, c, n, l, q2⟩ => ?_) hs
  subst ex
  obtain rfl : ov = Value.ref a := rx
  exact setattr_ok I2 ea c n l ry fun s3 I3 => ⟨σ, _, I3, q2⟩
theorem ps_fldaug {op : Operator} {rd : V → V → Hp → VK → Prop} (ha : PE X o ta) (hv : PE X value tv) (hop : InOp X op rd) : PS X (.AugAssign (.Attribute o f tpos) op value pos) (sFldAug X.K ta tv rd f) := by
  intro pins s σ H D I h
  refine wpAny_AugAssign_AttributeAny (thn (ha pins s σ H _ I h) fun ov s1 ⟨x, H1, I1, rx, a, C, dx, fs, v, ex, ea, c, n, l, q⟩ => ?_)
  subst ex
  obtain rfl : ov = Value.ref a := rx
  refine getattr_ok I1 ea c n l fun u s2 I2 ru => thn (hv pins s2 σ H1 _ I2 q) fun w3 s3 ⟨y, H2, I3, ry, q3⟩ => thn (hop pins s3 σ H2 v y u w3 _ I3 ru ry q3) fun w4 s4 ⟨z, H3, I4, rz, dx', fs', ea', l', q4⟩ => ?_
  exact setattr_ok I4 ea' c n l' rz fun s5 I5 => ⟨σ, _, I5, q4⟩
end
section
variable {X : Cx} {pins : List (Addr × Obj)} {σ : St} {H : Hp} {s : Shared} {A : Around} {E : Value → Shared → Prop} {Q : Value → Shared → Prop} {c : Value} {b : Bool}
end
end L2
namespace L2
open PySem PySem.Spec PyProof.Rows
structure Room (k : Nat) (A : Around) : Prop where
  hd : A.handled = none
  dp : A.depth + 3 * k + 5 < recursionLimit
  un : A.units + 16 * k + 200 < cLine
theorem Room.mono {j k : Nat} {A : Around} (r : Room k A) (h : j ≤ k) : Room j A := ⟨r.hd, by have := r.dp; omega, by have := r.un; omega⟩
theorem Room.deeper {k : Nat} {A : Around} (r : Room (k + 1) A) (env : Env) : Room k (A.deeper env) :=
  ⟨r.hd, by have := r.dp; show A.depth + 1 + 3 * k + 5 < _; omega, by have := r.un; show A.units + 3 + 16 * k + 200 < _; omega⟩
theorem make_depth {A : Around} {C : Addr} {us : List Value} {kw : List (Str × Value)} : (A.under (.builtin "type.__call__" ⟨.ref C :: us, kw⟩)).depth = A.depth + 1 := by
  first | rfl | simp [Around.under, Code.weight, Code.isCreation, Code.isGuard, Code.isCaller, Code.frames, Code.isFrame, guardIds]
theorem make_units {A : Around} {C : Addr} {us : List Value} {kw : List (Str × Value)} : (A.under (.builtin "type.__call__" ⟨.ref C :: us, kw⟩)).units = A.units + 1 := by
  first | rfl | simp [Around.under, Code.cUnits, Code.frames, Code.isFrame]
theorem Room.make {k : Nat} {A : Around} (r : Room (k + 1) A) (C : Addr) (us : List Value) (kw : List (Str × Value)) : Room k (A.under (.builtin "type.__call__" ⟨.ref C :: us, kw⟩)) :=
  ⟨r.hd, by have := r.dp; rw [make_depth]; omega, by have := r.un; rw [make_units]; omega⟩
theorem Room.depth {k : Nat} {A : Around} (r : Room k A) : A.depth < recursionLimit := by have := r.dp; omega
theorem Room.units {k : Nat} {A : Around} (r : Room k A) : A.units + 64 < cLine := by have := r.un; omega
def tNil : TA := fun _ H Q => Q [] H
def tCons (ta : TE) (tr : TA) : TA := fun σ H Q => ta σ H fun x H1 => tr σ H1 fun xs H2 => Q (x :: xs) H2
section
variable {X : Cx} {e : Expr} {es : List Expr} {te : TE} {t : TA} {pos : Pos}
theorem pa_nil : PA X [] tNil := fun _ _ _ _ H Q I h => Calls.spliced_nil ⟨[], H, I, .nil, h⟩
theorem pa_cons (ha : PE X e te) (hr : PA X es t) (hs : starEach (e :: es) X.env = (false, eval e X.env) :: starEach es X.env := by rfl) : PA X (e :: es) (tCons te t) := by
  intro pos pins s σ H Q I h
  rw [hs]
  show wpAny _ _ (spliced ((false, eval e X.env) :: backTo pos (starEach es X.env))) _ _ s
  refine Calls.spliced_cons (thn (ha pins s σ H _ I h) fun u s1 ⟨x, H1, I1, r1, q1⟩ => ?_)
  exact thn (hr pos pins s1 σ H1 _ I1 q1) fun us s2 ⟨xs, H2, I2, r2, q2⟩ => ⟨x :: xs, H2, I2, .cons r1 r2, q2⟩
def tTup (t : TA) : TE := fun σ H Q => t σ H fun xs H1 => xs.length ≤ sizeLine ∧ ∀ p, H1 p = none → Q (.ref p) (upd H1 p (.tup xs))
def tLst (t : TA) : TE := fun σ H Q => t σ H fun xs H1 => xs.length ≤ sizeLine ∧ ∀ p, H1 p = none → Q (.ref p) (upd H1 p (.lst xs))
theorem pe_tup {x1} (h : PA X es t) : PE X (.Tuple es x1 pos) (tTup t) := by
  intro pins s σ H Q I hq
  refine wpAny_Tuple_spliced (thn (h pos pins s σ H _ I hq) fun us s1 ⟨xs, H1, I1, r, z, q⟩ => ⟨by rw [← r.length]; exact z, ?_⟩)
  have hf : H1 s1.heap.objs.size = none := I1.hok.fresh (Nat.le_refl _)
  refine ⟨.ref s1.heap.objs.size, upd H1 s1.heap.objs.size (.tup xs), I1.laid (t' := s1.toks) (fun b u e => Heap.get?_push_of_some _ e) (Nat.le_refl _) ?_, rfl, q _ hf⟩
  exact ⟨z, us, r, ⟨_, Heap.get?_push_size _ rfl, rfl, _, rfl⟩⟩
theorem pe_lst (h : PA X es t) : PE X (.List es pos) (tLst t) := by
  intro pins s σ H Q I hq
  refine wpAny_List_spliced (thn (h pos pins s σ H _ I hq) fun us s1 ⟨xs, H1, I1, r, z, q⟩ => ⟨by rw [← r.length]; exact z, ?_⟩)
  have hf : H1 s1.heap.objs.size = none := I1.hok.fresh (Nat.le_refl _)
  refine ⟨.ref s1.heap.objs.size, upd H1 s1.heap.objs.size (.lst xs), I1.laid (t' := s1.toks) (fun b u e => Heap.get?_push_of_some _ e) (Nat.le_refl _) ?_, rfl, q _ hf⟩
  exact ⟨z, us, 0, r, Heap.get?_push_size _ rfl⟩
end
abbrev Sp := List V → Hp → VK → XK → Prop
abbrev CXT := List Env → Hp → Shared → XK → Value → Shared → Prop
structure Env0 (P : Program) (w : World) (K : PySem.W.Frag) (mg : Str → Option Value) (base : Heap) (A : Around) (outer : List Env) (s : Shared) (H : Hp) : Prop where
  frames : A.frames = some outer
  mod : Mod K mg base
  bs : ∀ b o, base.get? b = some o → s.heap.get? b = some o ∧ H b = none
  bsz : base.objs.size ≤ s.heap.objs.size
  funs : s.heap.FunFrames base outer
  frf : ∀ b ∈ frs outer, H b = none
  hok : HOk P w H s.heap
  bare : AllBare s.gens
def CE (outer : List Env) (P : Program) (w : World) (H : Hp) (s : Shared) (Q : VK) (u : Value) (s' : Shared) : Prop :=
  ∃ v H', s'.os = s.os ∧ AllBare s'.gens ∧ Un (frs outer) [] H H' s.heap s'.heap ∧ HOk P w H' s'.heap ∧ RelV v u ∧ Q v H'
def CR (CX : CXT) (outer : List Env) (P : Program) (w : World) (H : Hp) (s : Shared) (Q : VK) (E : XK) (r : Result) (s' : Shared) : Prop :=
  match r with
  | .ok (.ret u) => CE outer P w H s Q u s'
  | .ok _ => False
  | .error e => CX outer H s E e s'
structure FnOk (P : Program) (w : World) (K : PySem.W.Frag) (mg : Str → Option Value) (base : Heap) (CX : CXT) (k : Nat) (f : Addr) (fd : FuncData) (ps : List Str) (sp : Sp) : Prop where
  len : ∀ vs H Q E, sp vs H Q E → vs.length = ps.length
  run : ∀ (A : Around) (outer : List Env) (s : Shared) (H : Hp) (args : Args) (us : List Value) (vs : List V) (Q : VK) (E : XK), Room k A → Env0 P w K mg base A outer s H → BindsTo s fd args (ps.zip us) → Vals vs us → sp vs H Q E →
    codeAny (model P w) A (.call (.ref f) args) (CR CX outer P w H s Q E) s
theorem FnOk.mono {P : Program} {w : World} {K : PySem.W.Frag} {mg : Str → Option Value} {base : Heap} {CX : CXT} {j k : Nat} {f : Addr} {fd : FuncData} {ps : List Str} {sp : Sp} (F : FnOk P w K mg base CX j f fd ps sp) (h : j ≤ k) :
    FnOk P w K mg base CX k f fd ps sp := ⟨F.len, fun A outer s H args us vs Q E hr => F.run A outer s H args us vs Q E (hr.mono h)⟩
theorem FnOk.imp {P : Program} {w : World} {K : PySem.W.Frag} {mg : Str → Option Value} {base : Heap} {CX : CXT} {k : Nat} {f : Addr} {fd : FuncData} {ps : List Str} {sp sp' : Sp} (F : FnOk P w K mg base CX k f fd ps sp)
    (h : ∀ vs H Q E, sp' vs H Q E → sp vs H Q E) : FnOk P w K mg base CX k f fd ps sp' :=
  ⟨fun vs H Q E q => F.len vs H Q E (h _ _ _ _ q), fun A outer s H args us vs Q E hr he hb hv hs => F.run A outer s H args us vs Q E hr he hb hv (h _ _ _ _ hs)⟩
theorem Env0.make {P : Program} {w : World} {K : PySem.W.Frag} {mg : Str → Option Value} {base : Heap} {A : Around} {outer : List Env} {s : Shared} {H : Hp} (e : Env0 P w K mg base A outer s H) (C : Addr) (us : List Value) (kw : List (Str × Value)) :
    Env0 P w K mg base (A.under (.builtin "type.__call__" ⟨.ref C :: us, kw⟩)) outer s H := ⟨by first | exact e.frames | (simpa [Around.under, Code.envs, Code.isFrame, pushEnvs] using e.frames), e.mod, e.bs, e.bsz, e.funs, e.frf, e.hok, e.bare⟩
section
variable {X : Cx} {pins : List (Addr × Obj)} {σ : St} {H : Hp} {s s' : Shared}
theorem Inv.env0 (I : Inv X pins σ H s) : Env0 X.prog X.w X.K X.mg X.base X.A X.stack s H :=
  ⟨I.ok.frames, I.ok.mod, I.bs, Nat.le_trans I.ok.bsz I.sz, I.stack, I.stkFree, I.hok, I.bare⟩
theorem Inv.after {Q : VK} {u : Value} (I : Inv X pins σ H s) (h : CE X.stack X.prog X.w H s Q u s') : EP X pins σ Q u s' := by
  obtain ⟨v, H', os, bare, un, hok, r, q⟩ := h
  obtain ⟨hh, g, d, t, os'⟩ := s'
  obtain rfl : os' = s.os := os
  exact ⟨v, H', I.call (h' := hh) (g' := g) (d' := d) (t' := t) (ch := []) un hok bare (fun b z => absurd z (by simp)), r, q⟩
end
def tCall (sp : Sp) (dvs : List V) (E : XK) (t : TA) : TE := fun σ H Q => t σ H fun vs H1 => sp (vs ++ dvs) H1 Q E
def tMeth (C : Addr) (m : Str) (sp : Sp) (dvs : List V) (E : XK) (ta : TE) (t : TA) : TE := fun σ H Q => ta σ H fun x H1 => ∃ a dx fs, x = .ref a ∧ H1 a = some (.ins C dx fs) ∧ fs.lookup m = none ∧
  t σ H1 fun vs H2 => sp (x :: (vs ++ dvs)) H2 Q E
def tMake (C : Addr) (sp : Sp) (dvs : List V) (E : XK) (t : TA) : TE := fun σ H Q => t σ H fun vs H1 => ∀ x dx, H1 x = none → H1 dx = none → dx ≠ x →
  sp (.ref x :: (vs ++ dvs)) (upd (upd H1 dx (.own x)) x (.ins C dx [])) (fun v H2 => v = .non ∧ Q (.ref x) H2) E
def Binds (K : PySem.W.Frag) (fd : FuncData) (ps : List Str) (ds : List Value) : Prop :=
  ∀ (s : Shared) (us : List Value), K.In s.heap → (us ++ ds).length = ps.length → BindsTo s fd ⟨us, []⟩ (ps.zip (us ++ ds))
theorem Binds.all {K : PySem.W.Frag} {fd : FuncData} {ps : List Str} (h : ∀ us : List Value, us.length = ps.length → bindArgs fd ⟨us, []⟩ = pure (ps.zip us)) : Binds K fd ps [] := fun s us _ hl => by
  rw [List.append_nil] at hl ⊢
  exact .of_eq (h us hl)
def Passes (CX : CXT) (X : Cx) (E : XK) : Prop := ∀ (pins : List (Addr × Obj)) (σ : St) (H : Hp) (s : Shared) (e : Value) (s' : Shared), Inv X pins σ H s → CX X.stack H s E e s' → X.xe e s'
section
variable {X : Cx} {CX : CXT} {k : Nat} {f C : Addr} {fd : FuncData} {ps : List Str} {sp : Sp} {dvs : List V} {ds : List Value} {E : XK} {x m : Str} {p pos apos : Pos} {e o : Expr} {es : List Expr} {ta : TE} {t : TA}
theorem run_fn {pins : List (Addr × Obj)} {σ : St} {H : Hp} {s : Shared} {Q : VK} {us : List Value} {vs : List V} (F : FnOk X.prog X.w X.K X.mg X.base CX k f fd ps sp) (hr : Room k X.A) (hb : Binds X.K fd ps ds) (hd : Vals dvs ds) (hx : Passes CX X E)
    (I : Inv X pins σ H s) (r : Vals vs us) (h : sp (vs ++ dvs) H Q E) : wpAny (model X.prog X.w) X.A (call (.ref f) us) (EP X pins σ Q) X.xe s := by
  have r2 : Vals (vs ++ dvs) (us ++ ds) := r.append hd
  have hl : (us ++ ds).length = ps.length := by rw [← r2.length]; exact F.len _ _ _ _ h
  refine wpAny_call (codeAny_mono (F.run X.A X.stack s H ⟨us, []⟩ (us ++ ds) (vs ++ dvs) Q E hr I.env0 (hb s us I.kIn hl) r2 h) fun r s' hq => ?_)
  cases r with
  | error e => exact hx pins σ H s e s' I hq
  | ok fl =>
    cases fl with
    | ret u => exact I.after hq
    | next => exact False.elim hq
    | brk => exact False.elim hq
    | cont => exact False.elim hq
theorem pe_call (F : FnOk X.prog X.w X.K X.mg X.base CX k f fd ps sp) (hr : Room k X.A) (hg : Gl X x) (hm : X.mg x = some (.ref f)) (hk : PySem.W.keepIn X.K (.ref f) = true) (hb : Binds X.K fd ps ds) (hd : Vals dvs ds) (hx : Passes CX X E)
    (ha : PA X (e :: es) t) (hdb : (x == ("__debug__" : Str)) = false := by decide) (he : starEach (e :: es) X.env = (false, eval e X.env) :: starEach es X.env := by rfl) (hpl : (backTo pos (starEach es X.env)).any (·.1) = false := by rfl) :
    PE X (.Call (.Name x p) (e :: es) [] pos) (tCall sp dvs E t) := by
  intro pins s σ H Q I h
  refine wpAny_Call_Name_kw (ld_glob I hg hm ?_ hdb)
  refine PySem.W.callWith_K (h₀ := X.base) I.ok.mod.kin hk (thn (ha pos pins s σ H _ I h) fun us s1 ⟨vs, H1, I1, r, q⟩ => ⟨I1.kIn, ?_⟩) he hpl
  exact run_fn F hr hb hd hx I1 r q
theorem pe_meth {pl : Sem Bool} (he : PE X o ta) (c : Cls X.K C) (hm : Meth X.K C m f) (F : FnOk X.prog X.w X.K X.mg X.base CX k f fd ps sp) (hr : Room k X.A) (hb : Binds X.K fd ps ds) (hd : Vals dvs ds) (hx : Passes CX X E) (ha : PA X (e :: es) t)
    (hst : starEach (e :: es) X.env = (false, eval e X.env) :: starEach es X.env := by rfl) (hpl : (backTo pos (starEach es X.env)).any (·.1) = false := by rfl)
    (ht : eval (.Call (.Attribute o m apos) (e :: es) [] pos) X.env = (do
      let ov ← eval o X.env
      standAt apos.atName
      let (f, first) ← holding [ov] (getMethod ov m pl)
      callWith pos f first (backTo pos (starEach (e :: es) X.env)) (backToKw pos (keywordEach [] X.env))) := by rfl) :
    PE X (.Call (.Attribute o m apos) (e :: es) [] pos) (tMeth C m sp dvs E ta t) := by
  intro pins s σ H Q I h
  refine PySem.W.methodCall_KW (pl := pl) (thn (he pins s σ H _ I h) fun u s1 ⟨x, H1, I1, rx, a, dx, fs, ex, ea, l, q⟩ => ?_) ht
  subst ex
  obtain rfl : u = Value.ref a := rx
  refine getmeth_ok I1 ea c hm l ?_
  refine PySem.W.callWith_K (first := [.ref a]) (h₀ := X.base) I.ok.mod.kin hm.kp (thn (ha pos pins s1 σ H1 _ I1 q) fun us s2 ⟨vs, H2, I2, r, q2⟩ => ⟨I2.kIn, ?_⟩) hst hpl
  exact run_fn (us := .ref a :: us) (vs := .ref a :: vs) F hr hb hd hx I2 (.cons rfl r) q2
theorem pe_meth0 {pl : Sem Bool} (he : PE X o ta) (c : Cls X.K C) (hm : Meth X.K C m f) (F : FnOk X.prog X.w X.K X.mg X.base CX k f fd ps sp) (hr : Room k X.A) (hb : Binds X.K fd ps ds) (hd : Vals dvs ds) (hx : Passes CX X E)
    (ht : eval (.Call (.Attribute o m apos) [] [] pos) X.env = (do
      let ov ← eval o X.env
      standAt apos.atName
      let (f, first) ← holding [ov] (getMethod ov m pl)
      callWith pos f first (backTo pos (starEach [] X.env)) (backToKw pos (keywordEach [] X.env))) := by rfl) :
    PE X (.Call (.Attribute o m apos) [] [] pos) (tMeth C m sp dvs E ta tNil) := by
  intro pins s σ H Q I h
  refine PySem.W.methodCall_KW (pl := pl) (thn (he pins s σ H _ I h) fun u s1 ⟨x, H1, I1, rx, a, dx, fs, ex, ea, l, q⟩ => ?_) ht
  subst ex
  obtain rfl : u = Value.ref a := rx
  refine getmeth_ok I1 ea c hm l ?_
  exact PySem.W.callWith_K0 (first := [.ref a]) I1.kIn hm.kp (run_fn (us := [.ref a]) (vs := [.ref a]) F hr hb hd hx I1 (.cons rfl .nil) q)
structure Mk (K : PySem.W.Frag) (C f : Addr) : Prop where
  makes : PySem.W.makesIn K C = true
  init : PySem.W.findIn K (.ref C) "__init__" = some (some (.ref f))
  fn : PySem.W.isFn K (.ref f) = true
  kp : PySem.W.keepIn K (.ref C) = true
theorem run_make {pins : List (Addr × Obj)} {σ : St} {H : Hp} {s : Shared} {Q : VK} {us : List Value} {vs : List V} (M : Mk X.K C f) (F : FnOk X.prog X.w X.K X.mg X.base CX k f fd ps sp) (hr : Room (k + 1) X.A) (hb : Binds X.K fd ps ds) (hd : Vals dvs ds)
    (hx : Passes CX X E) (I : Inv X pins σ H s) (r : Vals vs us)
    (h : ∀ x dx, H x = none → H dx = none → dx ≠ x → sp (.ref x :: (vs ++ dvs)) (upd (upd H dx (.own x)) x (.ins C dx [])) (fun v H2 => v = .non ∧ Q (.ref x) H2) E) :
    wpAny (model X.prog X.w) X.A (call (.ref C) us) (EP X pins σ Q) X.xe s := by
  have hq := h (s.heap.objs.size + 1) s.heap.objs.size (I.hok.fresh (Nat.le_succ _)) (I.hok.fresh (Nat.le_refl _)) (Nat.ne_of_lt (Nat.lt_succ_self _))
  have I2 := Inv.made (C := C) I
  have r2 : Vals (V.ref (s.heap.objs.size + 1) :: (vs ++ dvs)) (Value.ref (s.heap.objs.size + 1) :: (us ++ ds)) := .cons rfl (r.append hd)
  have hl : (Value.ref (s.heap.objs.size + 1) :: us ++ ds).length = ps.length := by
    have e := r2.length
    rw [F.len _ _ _ _ hq] at e
    exact e.symm
  refine wpAny_call (make_map (f := f) I.kIn M.makes M.init (beq_iff_eq.mp M.fn) (codeAny_mono (F.run _ X.stack _ _ ⟨Value.ref (s.heap.objs.size + 1) :: us, []⟩ (Value.ref (s.heap.objs.size + 1) :: (us ++ ds)) _ _ E (hr.make C us [])
    (I2.env0.make C us []) (hb _ (Value.ref (s.heap.objs.size + 1) :: us) I2.kIn hl) r2 hq) fun r s' hq' => ?_))
  cases r with
  | error e => exact hx pins σ _ _ e s' I2 hq'
  | ok fl =>
    cases fl with
    | ret u =>
      obtain ⟨v, H', I3, rv, ev, q3⟩ := I2.after hq'
      subst ev
      exact ⟨rv, ⟨V.ref (s.heap.objs.size + 1), H', I3, rfl, q3⟩⟩
    | next => exact False.elim hq'
    | brk => exact False.elim hq'
    | cont => exact False.elim hq'
theorem pe_make (M : Mk X.K C f) (F : FnOk X.prog X.w X.K X.mg X.base CX k f fd ps sp) (hr : Room (k + 1) X.A) (hg : Gl X x) (hm : X.mg x = some (.ref C)) (hb : Binds X.K fd ps ds) (hd : Vals dvs ds) (hx : Passes CX X E)
    (ha : PA X (e :: es) t) (hdb : (x == ("__debug__" : Str)) = false := by decide) (he : starEach (e :: es) X.env = (false, eval e X.env) :: starEach es X.env := by rfl) (hpl : (backTo pos (starEach es X.env)).any (·.1) = false := by rfl) :
    PE X (.Call (.Name x p) (e :: es) [] pos) (tMake C sp dvs E t) := by
  intro pins s σ H Q I h
  refine wpAny_Call_Name_kw (ld_glob I hg hm ?_ hdb)
  refine PySem.W.callWith_K (h₀ := X.base) I.ok.mod.kin M.kp (thn (ha pos pins s σ H _ I h) fun us s1 ⟨vs, H1, I1, r, q⟩ => ⟨I1.kIn, ?_⟩) he hpl
  exact run_make M F hr hb hd hx I1 r q
theorem pe_make0 (M : Mk X.K C f) (F : FnOk X.prog X.w X.K X.mg X.base CX k f fd ps sp) (hr : Room (k + 1) X.A) (hg : Gl X x) (hm : X.mg x = some (.ref C)) (hb : Binds X.K fd ps ds) (hd : Vals dvs ds) (hx : Passes CX X E)
    (hdb : (x == ("__debug__" : Str)) = false := by decide) : PE X (.Call (.Name x p) [] [] pos) (tMake C sp dvs E tNil) := by
  intro pins s σ H Q I h
  refine wpAny_Call_Name_kw (ld_glob I hg hm ?_ hdb)
  exact PySem.W.callWith_K0 I.kIn M.kp (run_make (us := []) M F hr hb hd hx I .nil h)
end
section
variable {X : Cx} {CX : CXT} {k : Nat} {f C : Addr} {fd : FuncData} {ps ks : List Str} {sp : Sp} {E : XK} {x m : Str} {p pos apos kpos : Pos} {e o : Expr} {es : List Expr} {kws : List Keyword} {te ta : TE} {t tk : TA} {nm : Option Str}
variable {g : List Value → List Value → List Value} {gV : List V → List V → List V}
end
structure FnScope (N P : List Str) (sc : Scope) : Prop where
  kind : sc.kind = .function
  co : sc.isCoroutine = false
  gen : sc.isGenerator = false
  nd : N.Nodup
  pre : N.take P.length = P
  par : ∀ x ∈ P, sc.names.lookup x = some .local ∨ sc.names.lookup x = some .cell
  nofree : ∀ y ∈ sc.names, y.2 ≠ .free
theorem bindL_out {kindOf : Str → Option NameKind} {x : Str} : ∀ {binds : List (Str × Value)} {m : Str → Option Value}, (∀ v, (x, v) ∉ binds) → bindL kindOf binds m x = m x
  | [], _, _ => rfl
  | (n, v) :: r, m, h => by
    unfold bindL
    rw [bindL_out fun w hw => h w (List.mem_cons_of_mem _ hw)]
    split
    · have : x ≠ n := by rintro rfl; exact h v List.mem_cons_self
      simp [this]
    · rfl
theorem bindC_out {kindOf : Str → Option NameKind} {x : Str} : ∀ {binds : List (Str × Value)} {m : Str → Option Value}, (∀ v, (x, v) ∉ binds) → bindC kindOf binds m x = m x
  | [], _, _ => rfl
  | (n, v) :: r, m, h => by
    unfold bindC
    rw [bindC_out fun w hw => h w (List.mem_cons_of_mem _ hw)]
    split
    · rfl
    · have : x ≠ n := by rintro rfl; exact h v List.mem_cons_self
      simp [this]
theorem bindL_get {kindOf : Str → Option NameKind} {x : Str} {v : Value} : ∀ {P : List Str} {vs : List Value} {i : Nat} {m : Str → Option Value}, P.Nodup → P[i]? = some x → vs[i]? = some v → kindOf x = some .local →
    bindL kindOf (P.zip vs) m x = some v
  | [], _, _, _, _, h, _, _ => by simp at h
  | _ :: _, [], _, _, _, _, h, _ => by simp at h
  | p :: P, w :: vs, 0, m, nd, h1, h2, hk => by
    simp at h1 h2; subst h1; subst h2
    show bindL kindOf ((p, w) :: P.zip vs) m p = _
    unfold bindL
    rw [bindL_out fun v hv => (List.nodup_cons.mp nd).1 (List.of_mem_zip hv).1, if_pos hk]
    simp
  | p :: P, w :: vs, i + 1, m, nd, h1, h2, hk => by
    show bindL kindOf ((p, w) :: P.zip vs) m x = _
    unfold bindL
    exact bindL_get (i := i) (List.nodup_cons.mp nd).2 (by simpa using h1) (by simpa using h2) hk
theorem bindC_get {kindOf : Str → Option NameKind} {x : Str} {v : Value} : ∀ {P : List Str} {vs : List Value} {i : Nat} {m : Str → Option Value}, P.Nodup → P[i]? = some x → vs[i]? = some v → kindOf x ≠ some .local →
    bindC kindOf (P.zip vs) m x = some v
  | [], _, _, _, _, h, _, _ => by simp at h
  | _ :: _, [], _, _, _, _, h, _ => by simp at h
  | p :: P, w :: vs, 0, m, nd, h1, h2, hk => by
    simp at h1 h2; subst h1; subst h2
    show bindC kindOf ((p, w) :: P.zip vs) m p = _
    unfold bindC
    rw [bindC_out fun v hv => (List.nodup_cons.mp nd).1 (List.of_mem_zip hv).1, if_neg hk]
    simp
  | p :: P, w :: vs, i + 1, m, nd, h1, h2, hk => by
    show bindC kindOf ((p, w) :: P.zip vs) m x = _
    unfold bindC
    exact bindC_get (i := i) (List.nodup_cons.mp nd).2 (by simpa using h1) (by simpa using h2) hk
def start (N : List Str) (vs : List V) : St := vs.map some ++ List.replicate (N.length - vs.length) none
def cxOf (CX : CXT) (P : Program) (w : World) (K : PySem.W.Frag) (mg : Str → Option Value) (base : Heap) (N : List Str) (qual : Str) (scope : Scope) (f : Addr) (cd : Value) (A : Around) (outer : List Env) (s : Shared) (H : Hp) (E : XK) : Cx where
  prog := P
  w := w
  K := K
  mg := mg
  base := base
  A := A.deeper (envOfC qual scope s.heap.objs.size f cd)
  N := N
  s_0 := s
  H_0 := H
  env := envOfC qual scope s.heap.objs.size f cd
  outer := outer
  stack := envOfC qual scope s.heap.objs.size f cd :: outer
  ex := []
  calm := true
  fn := fun _ => true
  pn := []
  xe := fun e s' => wpAny (model P w) (A.deeper (envOfC qual scope s.heap.objs.size f cd)) (leaving (envOfC qual scope s.heap.objs.size f cd) e) (fun _ s'' => CX outer H s E e s'') (fun e' s'' => CX outer H s E e' s'') s'
theorem cell_has {sc : Scope} {n : Nat} {x : Str} (h : sc.names.lookup x = some .cell) : ∃ c, (cellsFrom n sc.names []).lookup x = some c := by
  have q := PySem.W.cellsFrom_some sc.names n [] (.inl h)
  exact Option.isSome_iff_exists.mp q
theorem inv_start {CX : CXT} {P : Program} {w : World} {K : PySem.W.Frag} {mg : Str → Option Value} {base : Heap} {N ps : List Str} {qual : Str} {scope : Scope} {f : Addr} {cd : Value} {A : Around} {outer : List Env} {s s1 : Shared} {H : Hp} {E : XK} {us : List Value} {vs : List V}
    (S : FnScope N ps scope) (hd : A.handled = none) (e0 : Env0 P w K mg base A outer s H) (hl : vs.length = ps.length) (r : Vals vs us)
    (x : InCallC s s.heap.objs.size (bindL (envOfC qual scope s.heap.objs.size f cd).kindOf (ps.zip us) fun _ => none) (cellsFrom (s.heap.objs.size + 1) scope.names []) (bindC (envOfC qual scope s.heap.objs.size f cd).kindOf (ps.zip us) fun _ => none) s1) :
    Inv (cxOf CX P w K mg base N qual scope f cd A outer s H E) [] (start N vs) H s1 := by
  have hpl : ps.length ≤ N.length := by have := congrArg List.length S.pre; rw [List.length_take] at this; omega
  obtain ⟨h1, tk, rfl, hk⟩ := x.done
  have noA : ∀ b : Addr, b ∉ (cxOf CX P w K mg base N qual scope f cd A outer s H E).ex := fun b z => absurd (show b ∈ ([] : List Addr) from z) (by simp)
  refine ⟨⟨e0.mod, S.kind, rfl, rfl, Nat.le_refl _, fun y z c h1 h2 => ?_, fun y hy => ?_, fun y c _ h => ?_, fun _ => hd, Around.frames_deeper e0.frames, .inr ⟨rfl, rfl⟩, fun b z => absurd z (noA b), e0.bs, e0.bsz, fun b _ _ => noA b, fun b z => absurd z (noA b), e0.funs, e0.frf⟩,
    rfl, e0.bare, Un.kept hk, ⟨_, x.toInCall.ns, fun i y v h1 h2 h3 => ?_⟩, fun y c h => ⟨_, x.cell y c h⟩, e0.hok.fresh (Nat.le_refl _), fun y c h => ?_, fun p hp => absurd (show p ∈ ([] : List (Addr × Obj)) from hp) (by simp), e0.hok.kept hk, ?_⟩
  · exact name_of_addr x.apart (PySem.mem_of_lookup h1) (PySem.mem_of_lookup h2)
  · have hy : scope.names.lookup y = some .cell ∨ scope.names.lookup y = some .free := hy
    rcases hy with hy | hy
    · exact cell_has hy
    · exact absurd rfl (S.nofree _ (PySem.mem_of_lookup hy))
  · exact Nat.le_of_lt (x.above y c (PySem.mem_of_lookup h))
  · have hi : i < vs.length := by
      unfold start at h2
      by_cases hi : i < vs.length
      · exact hi
      · rw [List.getElem?_append_right (by simpa using hi)] at h2
        rw [List.getElem?_replicate] at h2
        split at h2 <;> cases h2
    have ha : vs[i]? = some v := by
      unfold start at h2
      rw [List.getElem?_append_left (by simpa using hi), List.getElem?_map] at h2
      cases e : vs[i]? with
      | none => rw [e] at h2; cases h2
      | some a => rw [e] at h2; cases h2; rfl
    obtain ⟨u, hu, rv⟩ := r.get ha
    have hp : ps[i]? = some y := by
      rw [← S.pre, List.getElem?_take_of_lt (by omega)]; exact h1
    have ndP : ps.Nodup := by rw [← S.pre]; exact S.nd.sublist (List.take_sublist _ _)
    refine ⟨u, rv, ?_⟩
    rcases S.par y (List.mem_of_getElem? hp) with k | k
    · exact .inl ⟨k, bindL_get ndP hp hu k⟩
    · obtain ⟨c, e⟩ := cell_has (n := s.heap.objs.size + 1) k
      refine .inr ⟨.inl k, c, e, ?_⟩
      have q := x.cell y c e
      rw [bindC_get ndP hp hu (by show scope.names.lookup y ≠ _; rw [k]; decide)] at q
      exact q
  · exact e0.hok.fresh (Nat.le_of_lt (x.above y c (PySem.mem_of_lookup h)))
  · unfold start
    show _ = N.length
    rw [List.length_append, List.length_map, List.length_replicate]
    omega
theorem fn_of {CX : CXT} {P : Program} {w : World} {K : PySem.W.Frag} {mg : Str → Option Value} {base : Heap} {k : Nat} {f : Addr} {name qual : Str} {params : Arguments} {body : List Stmt} {scope : Scope} {dV kV doc pm cdv ct oc : Value} {an od : Option Addr}
    {osl : Array (Option Value)} {N ps : List Str} {sp : Sp} (lk : K.lookup f = some ⟨oc, od, .func (PySem.W.fnOf name qual params body scope dV kV doc pm an cdv ct), osl⟩) (hcd : PySem.W.codeIn K cdv qual = true) (S : FnScope N ps scope)
    (len : ∀ vs H Q E, sp vs H Q E → vs.length = ps.length)
    (hbody : ∀ (A : Around) (outer : List Env) (s : Shared) (H : Hp) (vs : List V) (Q : VK) (E : XK), Room k (A.deeper (envOfC qual scope s.heap.objs.size f cdv)) → sp vs H Q E →
      ∃ t, PSs (cxOf CX P w K mg base N qual scope f cdv A outer s H E) body t ∧ t { nx := fun _ H' => Q .non H', rt := Q } (start N vs) H) :
    FnOk P w K mg base CX (k + 1) f (PySem.W.fnOf name qual params body scope dV kV doc pm an cdv ct) ps sp := by
  refine ⟨len, fun A outer s H args us vs Q E hr e0 hb r hsp => ?_⟩
  have hl := len _ _ _ _ hsp
  have KX : K.In s.heap := e0.mod.kin.keeps fun b o e => (e0.bs b o e).1
  have lim : s.heap.NoLimit := e0.mod.nolimit.keeps fun b o e => (e0.bs b o e).1
  have hkind : ∀ y ∈ ps.zip us, scope.names.lookup y.1 = some .local ∨ (scope.names.lookup y.1 = some .cell ∧ ((cellsFrom (s.heap.objs.size + 1) scope.names []).lookup y.1).isSome = true) := fun ⟨n, v⟩ hy => by
    rcases S.par n (List.of_mem_zip hy).1 with q | q
    · exact .inl q
    · exact .inr ⟨q, PySem.W.cellsFrom_some _ _ _ (.inl q)⟩
  refine codeAny_call_function hr.depth (KX _ _ lk) rfl S.co S.gen rfl (PySem.W.codeRec_of KX hcd) (hb _ _ _ _ ?_)
  refine wpAny_newFunctionEnv_cells S.kind hkind fun env he s1 x => ?_
  subst he
  refine ⟨lim.keeps x.toInCall.keep, codeAny_func ?_⟩
  obtain ⟨t, ht, hq⟩ := hbody A outer s H vs Q E (hr.deeper _) hsp
  have I : Inv (cxOf CX P w K mg base N qual scope f cdv A outer s H E) [] (start N vs) H s1 := inv_start S hr.hd e0 hl r x
  refine wpAny_mono (ht [] s1 (start N vs) H _ I hq) (fun fl s' hs => ?_) fun e s' hs => hs
  have fin : ∀ {σ' : St} {H' : Hp} {v : V} {u : Value}, Inv (cxOf CX P w K mg base N qual scope f cdv A outer s H E) [] σ' H' s' → RelV v u → Q v H' → CE outer P w H s Q u s' :=
    fun {σ' H' v u} J rv q => ⟨v, H', J.os, J.bare, J.base, J.hok, rv, q⟩
  cases fl with
  | ret u =>
    obtain ⟨v, σ', H', J, rv, q⟩ := hs
    exact fin J rv q
  | next =>
    obtain ⟨σ', H', J, q⟩ := hs
    exact fin (v := V.non) (u := Value.none) J rfl q
  | brk =>
    obtain ⟨_, _, _, q⟩ := hs
    exact False.elim q
  | cont =>
    obtain ⟨_, _, _, q⟩ := hs
    exact False.elim q
end L2
namespace L2
open PySem PySem.Spec PyProof.Rows
section
variable {X : Cx} {x : Str} {p pos : Pos} {e : Expr} {es : List Expr} {t : TA} {id T : String} {r : List V → Hp → VK → Prop}
def tCB (r : List V → Hp → VK → Prop) (t : TA) : TE := fun σ H Q => t σ H fun vs H1 => r vs H1 Q
theorem pe_callB (hc : CallR X (.builtin id) r) (hg : Gl X x) (hm : X.mg x = none) (hv : bootBuiltins x = some (.builtin id)) (ha : PA X (e :: es) t) (hn : x ≠ "__name__" := by decide) (hdb : (x == ("__debug__" : Str)) = false := by decide)
    (he : starEach (e :: es) X.env = (false, eval e X.env) :: starEach es X.env := by rfl) (hpl : (backTo pos (starEach es X.env)).any (·.1) = false := by rfl) : PE X (.Call (.Name x p) (e :: es) [] pos) (tCB r t) := by
  intro pins s σ H Q I h
  refine wpAny_Call_Name_kw (ld_blt I hg hm hv ?_ hn hdb)
  exact PyProof.Rows.callWith_builtin1 (thn (ha pos pins s σ H _ I h) fun us s1 ⟨vs, H1, I1, r1, q1⟩ => hc pins s1 σ H1 vs us Q I1 r1 q1) he hpl
theorem pe_callTy (hc : CallR X (.type T) r) (hg : Gl X x) (hm : X.mg x = none) (hv : bootBuiltins x = some (.type T)) (ha : PA X (e :: es) t) (hn : x ≠ "__name__" := by decide) (hdb : (x == ("__debug__" : Str)) = false := by decide)
    (he : starEach (e :: es) X.env = (false, eval e X.env) :: starEach es X.env := by rfl) (hpl : (backTo pos (starEach es X.env)).any (·.1) = false := by rfl) : PE X (.Call (.Name x p) (e :: es) [] pos) (tCB r t) := by
  intro pins s σ H Q I h
  refine wpAny_Call_Name_kw (ld_blt I hg hm hv ?_ hn hdb)
  exact PyProof.Rows.callWith_type1 (thn (ha pos pins s σ H _ I h) fun us s1 ⟨vs, H1, I1, r1, q1⟩ => hc pins s1 σ H1 vs us Q I1 r1 q1) he hpl
end
end L2
namespace HT
open PySem PyProof.Rows
section
open PySem.SeqAt
open PySem.AutoSeq1 (wpAny_loadPart')
open PySem.MeetsSeq PySem.MeetsSeq2 PySem.MeetsSeq3
end
section
variable {prog : Program} {w : World} {A : Around} {E : Value → Shared → Prop} {s : Shared}
def sIx (n d : Nat) : Option Int → Nat
  | none => d
  | some v => if v < 0 then (v + (n : Int)).toNat else min v.toNat n
theorem sIx_nat (n d k : Nat) : sIx n d (some (k : Int)) = min k n := by
  show (if (k : Int) < 0 then ((k : Int) + (n : Int)).toNat else min (k : Int).toNat n) = min k n
  rw [if_neg (by omega), Int.toNat_natCast]
end
end HT
namespace L2
open PySem PySem.Spec PyProof.Rows
abbrev TO := St → Hp → (Option Int → Hp → Prop) → Prop
def PO (X : Cx) (e : Option Expr) (t : TO) : Prop :=
  ∀ (pins : List (Addr × Obj)) (s : Shared) (σ : St) (H : Hp) (Q : Option Int → Hp → Prop), Inv X pins σ H s → t σ H Q →
    wpAny (model X.prog X.w) X.A (evalPart e X.env) (fun u s' => ∃ o H', Inv X pins σ H' s' ∧ IsPart u o ∧ Q o H') X.xe s
def tPart (t : TE) : TO := fun σ H Q => t σ H fun x H1 => ∃ i, x = .int i ∧ Q (some i) H1
section
variable {X : Cx} {e : Expr} {te : TE} {lo hi : Option Expr} {tl th : TO} {pos p2 : Pos}
theorem po_some (h : PE X e te) : PO X (some e) (tPart te) := by
  intro pins s σ H Q I hw
  rw [evalPart_some]
  refine thn (h pins s σ H _ I hw) fun u s1 ⟨x, H1, I1, r1, q1⟩ => ?_
  obtain ⟨i, rfl, q⟩ := q1
  obtain ⟨t, rfl⟩ := r1
  exact ⟨some i, H1, I1, .int i t, q⟩
def SlR (X : Cx) (r : V → Option Int → Option Int → Hp → VK → Prop) : Prop :=
  ∀ (pins : List (Addr × Obj)) (s : Shared) (σ : St) (H : Hp) (x : V) (v vl vu : Value) (lo hi : Option Int) (sl : Addr) (Q : VK), Inv X pins σ H s → RelV x v → s.heap.IsSliceOf sl vl vu .none → IsPart vl lo → IsPart vu hi → r x lo hi H Q →
    ∃ T id, typeLookup (.type T) "__getitem__" = pure (some (.builtin id)) ∧ s.TypeIs v T ∧ wpAny (model X.prog X.w) X.A (getItem v (.ref sl)) (EP X pins σ Q) X.xe s
def tSl (r : V → Option Int → Option Int → Hp → VK → Prop) (te : TE) (tl th : TO) : TE := fun σ H Q => te σ H fun x H1 => tl σ H1 fun l H2 => th σ H2 fun u H3 => r x l u H3 Q
theorem pe_slice {r : V → Option Int → Option Int → Hp → VK → Prop} (hr : SlR X r) (he : PE X e te) (hl : PO X lo tl) (hu : PO X hi th) : PE X (.Subscript e (.Slice lo hi none p2) pos) (tSl r te tl th) := by
  intro pins s σ H Q I h
  refine Subscript_ (thn (he pins s σ H _ I h) fun v s1 ⟨x, H1, I1, r1, q1⟩ => ?_)
  refine wpAny_Slice (thn (hl pins s1 σ H1 _ I1 q1) fun vl s2 ⟨l, H2, I2, pl, q2⟩ => thn (hu pins s2 σ H2 _ I2 q2) fun vu s3 ⟨u, H3, I3, pu, q3⟩ => ?_)
  rw [evalPart_none]
  refine wpAny_pure ?_
  have I4 : Inv X pins σ H3 { s3 with heap := s3.heap.push { cls := .type "slice", data := .fields #[vl, vu, .none] } } := I3.kept (t' := s3.toks) fun b ob q => Heap.get?_push_of_some _ q
  obtain ⟨T, id, hT, ht, hg⟩ := hr pins { s3 with heap := s3.heap.push { cls := .type "slice", data := .fields #[vl, vu, .none] } } σ H3 x v vl vu l u s3.heap.objs.size Q I4 r1 (Heap.IsSliceOf.new ..) pl pu q3
  show wpAny (model X.prog X.w) X.A (subscriptTail e (.Slice lo hi none p2) v (.ref s3.heap.objs.size)) (EP X pins σ Q) X.xe { s3 with heap := s3.heap.push { cls := .type "slice", data := .fields #[vl, vu, .none] } }
  exact tail_any (ops := [.ref s3.heap.objs.size, v]) ht hT hg (by with_unfolding_all rfl)
def cutV (xs : List V) (lo hi : Option Int) : List V := (xs.drop (HT.sIx xs.length 0 lo)).take (HT.sIx xs.length xs.length hi - HT.sIx xs.length 0 lo)
theorem cutV_length (xs : List V) (lo hi : Option Int) : (cutV xs lo hi).length ≤ xs.length := by
  unfold cutV
  rw [List.length_take, List.length_drop]
  omega
end
end L2
namespace L2
open PySem PySem.Spec PyProof.Rows
def ixN (n : Nat) (i : Int) : Option Nat := if 0 ≤ i then (if i < n then some i.toNat else none) else if -(n : Int) ≤ i then some (i + n).toNat else none
def atI {α : Type} (xs : List α) (i : Int) : Option α := (ixN xs.length i).bind fun j => xs[j]?
theorem ixN_seq {n : Nat} {i : Int} {j : Nat} (h : ixN n i = some j) : seqIndex? i n = some j ∧ j < n ∧ -(n : Int) ≤ i ∧ i < n := by
  unfold ixN at h
  by_cases h0 : 0 ≤ i
  · rw [if_pos h0] at h
    by_cases h1 : i < n
    · rw [if_pos h1] at h
      have e : i.toNat = j := Option.some.inj h
      exact ⟨by rw [seqIndex_of h0 h1, e], by omega, by omega, h1⟩
    · rw [if_neg h1] at h; cases h
  · rw [if_neg h0] at h
    by_cases h1 : -(n : Int) ≤ i
    · rw [if_pos h1] at h
      have e : (i + n).toNat = j := Option.some.inj h
      exact ⟨by rw [seqIndex_neg (by omega) h1, e], by omega, h1, by omega⟩
    · rw [if_neg h1] at h; cases h
theorem atI_get {α : Type} {xs : List α} {i : Int} {v : α} (h : atI xs i = some v) : ∃ j, seqIndex? i xs.length = some j ∧ xs[j]? = some v ∧ j < xs.length ∧ -(xs.length : Int) ≤ i ∧ i < xs.length := by
  unfold atI at h
  cases e : ixN xs.length i with
  | none => rw [e] at h; cases h
  | some j =>
    rw [e] at h
    obtain ⟨h1, h2, h3, h4⟩ := ixN_seq e
    exact ⟨j, h1, h, h2, h3, h4⟩
theorem atI_nat {α : Type} {xs : List α} {j : Nat} {v : α} (h : xs[j]? = some v) : atI xs (j : Int) = some v := by
  have hj : j < xs.length := (List.getElem?_eq_some_iff.mp h).1
  have e : ixN xs.length (j : Int) = some j := by
    unfold ixN
    rw [if_pos (by omega), if_pos (by omega)]; simp
  unfold atI; rw [e]; exact h
def PlainIx (b : Expr) : Prop := ∀ o i, subscripted b false o i = operate [o, i] (getItem o i)
def IxR (X : Cx) (r : R2) : Prop :=
  ∀ (value slice : Expr) (pins : List (Addr × Obj)) (s : Shared) (σ : St) (H : Hp) (x y : V) (v u : Value) (Q : VK), Inv X pins σ H s → RelV x v → RelV y u → r x y H Q →
    subscripted slice false v u = operate [v, u] (getItem v u) → wpAny (model X.prog X.w) X.A (subscriptTail value slice v u) (EP X pins σ Q) X.xe s
def MtR (X : Cx) (id : String) (r : V → List V → Hp → VK → Prop) : Prop :=
  ∀ (pins : List (Addr × Obj)) (s : Shared) (σ : St) (H : Hp) (x : V) (xs : List V) (v : Value) (us : List Value) (Q : VK), Inv X pins σ H s → RelV x v → Vals xs us → r x xs H Q →
    wpAny (model X.prog X.w) X.A (call (.builtin id) (v :: us)) (EP X pins σ Q) X.xe s
section
variable {X : Cx} {a b : Expr} {ta tb : TE} {pos : Pos}
theorem pe_ix {r : R2} (hr : IxR X r) (ha : PE X a ta) (hb : PE X b tb) (hs : PlainIx b) : PE X (.Subscript a b pos) (tOp r ta tb) := by
  intro pins s σ H Q I h
  exact Subscript_ (binT ha hb I h fun v u s2 x y H2 I2 rx ry q => hr a b pins s2 σ H2 x y v u Q I2 rx ry q (hs _ _))
def rIxL (K : PySem.W.Frag) : R2 := fun x y H Q => ∃ p xs i v, x = .ref p ∧ y = .int i ∧ SqL K H p xs ∧ atI xs i = some v ∧ Q v H
def rIxT (K : PySem.W.Frag) : R2 := fun x y H Q => ∃ p xs i v, x = .ref p ∧ y = .int i ∧ SqT K H p xs ∧ atI xs i = some v ∧ Q v H
theorem ix_list : IxR X (rIxL X.K) := by
  intro value slice pins s σ H x y v u Q I rx ry h hs
  obtain ⟨p, xs, i, z, rfl, rfl, hq, he, q⟩ := h
  cases rx
  obtain ⟨t, rfl⟩ := ry
  obtain ⟨its, r, pl, hz⟩ := I.list hq
  obtain ⟨j, h1, h2, h3, h4, h5⟩ := atI_get he
  obtain ⟨w, ew, rw'⟩ := r.get h2
  have hl := r.length
  have hn := line63
  have fin : EP X pins σ Q w s := ⟨z, H, I, rw', q⟩
  by_cases h0 : 0 ≤ i
  · have hj : i.toNat = j := by
      rw [seqIndex_of h0 h5] at h1
      exact Option.some.inj h1
    exact item_listR pl.isList h0 (by omega) (by rw [hj]; simpa using ew) fin hs
  · have hj : (i + (its.toArray.size : Int)).toNat = j := by
      rw [seqIndex_neg (by omega) h4] at h1
      rw [List.size_toArray, ← hl]
      exact Option.some.inj h1
    exact subscriptTail_builtinR (x := w) pl.isList.typeIs slot_list_getitem.lookup
      (wpAny_getItem_list_neg (Q := fun r s' => r = w ∧ EP X pins σ Q r s') pl.isList (by omega) (by rw [List.size_toArray] <;> omega) (by omega) (by rw [hj]; simpa using ew) ⟨rfl, fin⟩) hs
theorem ix_tup : IxR X (rIxT X.K) := by
  intro value slice pins s σ H x y v u Q I rx ry h hs
  obtain ⟨p, xs, i, z, rfl, rfl, hq, he, q⟩ := h
  cases rx
  obtain ⟨t, rfl⟩ := ry
  obtain ⟨its, r, pl, hz⟩ := I.tuple hq
  obtain ⟨j, h1, h2, h3, h4, h5⟩ := atI_get he
  obtain ⟨w, ew, rw'⟩ := r.get h2
  have hl := r.length
  have hn := line63
  have fin : EP X pins σ Q w s := ⟨z, H, I, rw', q⟩
  exact subscriptTail_builtinR (x := w) pl.typeIs slot_tuple_getitem.lookup
    (getItem_tuple (j := j) (Q := fun r s' => r = w ∧ EP X pins σ Q r s') pl (by omega) (by omega) (by rw [List.size_toArray, ← hl]; exact h1) (by simpa using ew) ⟨rfl, fin⟩) hs
theorem mapSeq_set (its : List Value) (n j : Nat) (u : Value) : Obj.mapSeq (·.setIfInBounds j u) { cls := .type "list", data := .seq its.toArray n } = { cls := .type "list", data := .seq (its.set j u).toArray n } := by
  simp [Obj.mapSeq]
theorem Inv.lst {pins : List (Addr × Obj)} {σ : St} {H : Hp} {s : Shared} {p : Addr} {xs : List V} (I : Inv X pins σ H s) (h : H p = some (.lst xs)) :
    ∃ (its : List Value) (n : Nat), Vals xs its ∧ s.heap.get? p = some { cls := .type "list", data := .seq its.toArray n } ∧ xs.length ≤ sizeLine := by
  obtain ⟨z, its, n, r, e⟩ := I.hok p _ h
  exact ⟨its, n, r, e, z⟩
theorem Inv.lstUpd {pins : List (Addr × Obj)} {σ : St} {H : Hp} {s : Shared} {p : Addr} {xs ys : List V} {its its' : List Value} {n n' : Nat} {f : Obj → Obj} (I : Inv X pins σ H s) (h : H p = some (.lst xs))
    (ho : s.heap.get? p = some { cls := .type "list", data := .seq its.toArray n }) (hf : f { cls := .type "list", data := .seq its.toArray n } = { cls := .type "list", data := .seq its'.toArray n' }) (r : Vals ys its') (hz : ys.length ≤ sizeLine) (t : Nat) :
    Inv X pins σ (upd H p (.lst ys)) { s with heap := s.heap.update p f, toks := t } := by
  have e : (s.heap.update p f).get? p = some { cls := .type "list", data := .seq its'.toArray n' } := by
    rw [Heap.get?_update_self f ho (by rw [hf] <;> rfl), hf]
  refine I.write (x := p) (e := p) (by rw [h]; trivial) (.inl rfl) (fun b u hb q => (Heap.get?_update_other _ _ (Ne.symm hb)).trans q) ⟨_, e⟩ ?_
  exact ⟨hz, its', n', r, e⟩
def rSetL : V → V → V → Hp → (Hp → Prop) → Prop := fun o i v H Q => ∃ p xs k j, o = .ref p ∧ i = .int k ∧ H p = some (.lst xs) ∧ ixN xs.length k = some j ∧ Q (upd H p (.lst (xs.set j v)))
theorem set_list : PSet X rSetL := by
  intro pins s σ H o i v ov iv u Q I ro ri rv h
  obtain ⟨p, xs, k, j, rfl, rfl, hp, hj, q⟩ := h
  cases ro
  obtain ⟨t, rfl⟩ := ri
  obtain ⟨its, n, r, ho, hz⟩ := I.lst hp
  obtain ⟨h1, h2, h3, h4⟩ := ixN_seq hj
  have hl := r.length
  have hn := line63
  have I' : Inv X pins σ (upd H p (.lst (xs.set j v))) { s with heap := s.heap.update p (Obj.mapSeq (·.setIfInBounds j u)) } :=
    I.lstUpd hp ho (mapSeq_set its n j u) (r.set rv j) (by rw [List.length_set]; exact hz) s.toks
  by_cases h0 : 0 ≤ k
  · have hk : k.toNat = j := by
      rw [seqIndex_of h0 h4] at h1
      exact Option.some.inj h1
    exact PySem.W.ki_setAt ho h0 (by omega) (by rw [List.size_toArray, ← hl]; exact h4) (by rw [hk]; exact ⟨_, I', q⟩)
  · have hk : (k + (its.toArray.size : Int)).toNat = j := by
      rw [seqIndex_neg (by omega) h3] at h1
      rw [List.size_toArray, ← hl]
      exact Option.some.inj h1
    exact PySem.W.ki_setBack ho (by omega) (by rw [List.size_toArray, ← hl]; exact h3) (by omega) (by rw [hk]; exact ⟨_, I', q⟩)
theorem slice_bounds (lo hi : Option Int) (n : Nat) : (sliceBounds lo hi none n).1 = ((HT.sIx n 0 lo : Nat) : Int) ∧ (sliceBounds lo hi none n).2.1 = ((HT.sIx n n hi : Nat) : Int) ∧ (sliceBounds lo hi none n).2.2 = 1 := by
  refine ⟨?_, ?_, rfl⟩
  · cases lo with
    | none => simp [sliceBounds, HT.sIx]
    | some i =>
      simp only [sliceBounds, HT.sIx, Option.getD_none, show (1 : Int) > 0 by decide, if_true]
      by_cases h : i < 0
      · simp only [h, if_true] <;> omega
      · simp only [h, if_false] <;> omega
  · cases hi with
    | none => simp [sliceBounds, HT.sIx]
    | some i =>
      simp only [sliceBounds, HT.sIx, Option.getD_none, show (1 : Int) > 0 by decide, if_true]
      by_cases h : i < 0
      · simp only [h, if_true] <;> omega
      · simp only [h, if_false] <;> omega
theorem slicePick_cut (its : List Value) (lo hi : Option Int) : slicePick its.toArray lo hi none = ((its.drop (HT.sIx its.length 0 lo)).take (HT.sIx its.length its.length hi - HT.sIx its.length 0 lo)).toArray := by
  obtain ⟨h1, h2, h3⟩ := slice_bounds lo hi its.toArray.size
  unfold slicePick
  rw [h1, h2, h3]
  simp only [sliceRange_one, pick_run, List.size_toArray] <;> rfl
def rSlL (K : PySem.W.Frag) : V → Option Int → Option Int → Hp → VK → Prop := fun x lo hi H Q => ∃ a xs, x = .ref a ∧ SqL K H a xs ∧ ∀ p, H p = none → Q (.ref p) (upd H p (.lst (cutV xs lo hi)))
theorem sl_list : SlR X (rSlL X.K) := by
  intro pins s σ H x v vl vu lo hi sl Q I rx hs pl pu h
  obtain ⟨a, xs, rfl, hx, q⟩ := h
  cases rx
  obtain ⟨its, r, ht, hz⟩ := I.list hx
  have hlen := r.length
  refine ⟨"list", _, slot_list_getitem.lookup, ht.isList.typeIs, ?_⟩
  refine wpAny_getItem_list_slice ht.isList hs pl pu .none (by simp) ?_ (by rw [List.size_toArray] <;> omega)
  rw [slicePick_cut, ← hlen]
  refine ⟨.ref s.heap.objs.size, _, I.laid (t' := s.toks) (o := .lst (cutV xs lo hi)) (fun b ob q => Heap.get?_push_of_some _ q) (Nat.le_refl _) ?_, rfl, q _ (I.hok.fresh (Nat.le_refl _))⟩
  exact ⟨Nat.le_trans (cutV_length xs lo hi) hz, _, 0, (r.drop (HT.sIx xs.length 0 lo)).take (HT.sIx xs.length xs.length hi - HT.sIx xs.length 0 lo), Heap.get?_push_size _ rfl⟩
def flatV : V → Bool
  | .non => true
  | .bl _ => true
  | .int _ => true
  | .str _ => true
  | _ => false
def eqV : V → V → Bool
  | .non, .non => true
  | .bl a, .bl b => a == b
  | .bl a, .int b => (if a then 1 else 0) == b
  | .int a, .bl b => a == (if b then 1 else 0)
  | .int a, .int b => a == b
  | .str a, .str b => a == b
  | _, _ => false
theorem eqAt_V {A : Around} {s : Shared} {y x : V} {u v : Value} (ry : RelV y u) (rx : RelV x v) (fy : flatV y = true) (fx : flatV x = true) : SeqAt.EqAt A s u v (eqV y x) := by
  cases y with
  | non =>
    cases ry
    cases x with
    | non => cases rx; exact SeqAt.EqAt.same _
    | bl b => cases rx; exact SeqAt.EqAt.none_bool b
    | int b => obtain ⟨t, rfl⟩ := rx; exact SeqAt.EqAt.none_int b t
    | str b => obtain ⟨t, rfl⟩ := rx; exact SeqAt.EqAt.none_str b t
    | _ => exact absurd (show false = true from fx) Bool.false_ne_true
  | bl a =>
    cases ry
    cases x with
    | non => cases rx; exact SeqAt.EqAt.bool_none a
    | bl b => cases rx; exact SeqAt.EqAt.bool_bool a b
    | int b => obtain ⟨t, rfl⟩ := rx; exact SeqAt.EqAt.bool_int a b t
    | str b => obtain ⟨t, rfl⟩ := rx; exact SeqAt.EqAt.bool_str a b t
    | _ => exact absurd (show false = true from fx) Bool.false_ne_true
  | int a =>
    obtain ⟨t', rfl⟩ := ry
    cases x with
    | non => cases rx; exact SeqAt.EqAt.int_none a t'
    | bl b => cases rx; exact SeqAt.EqAt.int_bool a t' b
    | int b => obtain ⟨t, rfl⟩ := rx; exact SeqAt.EqAt.int_int a t' b t
    | str b => obtain ⟨t, rfl⟩ := rx; exact SeqAt.EqAt.int_str a t' b t
    | _ => exact absurd (show false = true from fx) Bool.false_ne_true
  | str a =>
    obtain ⟨t', rfl⟩ := ry
    cases x with
    | non => cases rx; exact SeqAt.EqAt.str_none a t'
    | bl b => cases rx; exact SeqAt.EqAt.str_bool a t' b
    | int b => obtain ⟨t, rfl⟩ := rx; exact SeqAt.EqAt.str_int a t' b t
    | str b => obtain ⟨t, rfl⟩ := rx; exact SeqAt.EqAt.str_str a t' b t
    | _ => exact absurd (show false = true from fx) Bool.false_ne_true
  | _ => exact absurd (show false = true from fy) Bool.false_ne_true
def eqU (x : V) (u : Value) : Bool := match u with
  | .none => eqV .non x
  | .bool b => eqV (.bl b) x
  | .int i _ => eqV (.int i) x
  | .str z _ => eqV (.str z) x
  | _ => false
theorem eqU_of {x y : V} {u : Value} (r : RelV y u) (f : flatV y = true) : eqU x u = eqV y x := by
  cases y with
  | non => cases r; rfl
  | bl b => cases r; rfl
  | int i => obtain ⟨t, rfl⟩ := r; rfl
  | str z => obtain ⟨t, rfl⟩ := r; rfl
  | _ => exact absurd (show false = true from f) Bool.false_ne_true
theorem any_eqU {x : V} : ∀ {xs : List V} {us : List Value}, Vals xs us → xs.all flatV = true → us.any (eqU x) = xs.any fun y => eqV y x
  | _, _, .nil, _ => rfl
  | y :: xs, u :: us, .cons r t, f => by
    rw [List.all_cons, Bool.and_eq_true] at f
    rw [List.any_cons, List.any_cons, eqU_of r f.1, any_eqU t f.2]
theorem mem_eqAt {A : Around} {s : Shared} {x : V} {v : Value} (rx : RelV x v) (fx : flatV x = true) : ∀ {xs : List V} {us : List Value}, Vals xs us → xs.all flatV = true → ∀ u ∈ us, SeqAt.EqAt A s u v (eqU x u)
  | _, _, .nil, _ => fun u hu => by cases hu
  | y :: xs, u :: us, .cons r t, f => fun u' hu => by
    rw [List.all_cons, Bool.and_eq_true] at f
    rcases List.mem_cons.mp hu with rfl | hu
    · rw [eqU_of r f.1]; exact eqAt_V r rx f.1 fx
    · exact mem_eqAt rx fx t f.2 u' hu
def inV (x : V) (xs : List V) : Bool := xs.any fun y => eqV y x
def rIn (K : PySem.W.Frag) (neg : Bool) : R2 := fun x y H Q => ∃ p xs, y = .ref p ∧ (SqL K H p xs ∨ SqT K H p xs) ∧ flatV x = true ∧ xs.all flatV = true ∧ Q (.bl (if neg then !inV x xs else inV x xs)) H
theorem op_in_seq : OpR X (compareOp .In) (rIn X.K false) := by
  intro pins s σ H x y v u Q I rx ry h
  obtain ⟨p, xs, rfl, hq, fx, fs, q⟩ := h
  cases ry
  rcases hq with hq | hq
  · obtain ⟨its, r, pl, hz⟩ := I.list hq
    refine SeqAt.in_listAt (eqU x) pl.isList (fun w hw => mem_eqAt rx fx r fs w (by simpa using hw)) ⟨.bl _, H, I, rfl, ?_⟩
    rw [show its.toArray.any (eqU x) = its.any (eqU x) by simp, any_eqU r fs]
    exact q
  · obtain ⟨its, r, pl, hz⟩ := I.tuple hq
    refine SeqAt.in_tupleAt (eqU x) pl (fun w hw => mem_eqAt rx fx r fs w (by simpa using hw)) ⟨.bl _, H, I, rfl, ?_⟩
    rw [show its.toArray.any (eqU x) = its.any (eqU x) by simp, any_eqU r fs]
    exact q
theorem op_notIn_seq : OpR X (compareOp .NotIn) (rIn X.K true) := by
  intro pins s σ H x y v u Q I rx ry h
  obtain ⟨p, xs, rfl, hq, fx, fs, q⟩ := h
  cases ry
  rcases hq with hq | hq
  · obtain ⟨its, r, pl, hz⟩ := I.list hq
    refine SeqAt.notIn_listAt (eqU x) pl.isList (fun w hw => mem_eqAt rx fx r fs w (by simpa using hw)) ⟨.bl _, H, I, rfl, ?_⟩
    rw [show its.toArray.any (eqU x) = its.any (eqU x) by simp, any_eqU r fs]
    exact q
  · obtain ⟨its, r, pl, hz⟩ := I.tuple hq
    refine SeqAt.notIn_tupleAt (eqU x) pl (fun w hw => mem_eqAt rx fx r fs w (by simpa using hw)) ⟨.bl _, H, I, rfl, ?_⟩
    rw [show its.toArray.any (eqU x) = its.any (eqU x) by simp, any_eqU r fs]
    exact q
theorem call_len_seq : CallR X (.builtin "len") (fun xs H Q => ∃ p ys, xs = [.ref p] ∧ (SqL X.K H p ys ∨ SqT X.K H p ys) ∧ Q (.int ys.length) H) := by
  intro pins s σ H xs us Q I r h
  obtain ⟨p, ys, rfl, hq, q⟩ := h
  obtain ⟨u, rfl, rx⟩ := vals1 r
  cases rx
  have hn := line63
  rcases hq with hq | hq
  · obtain ⟨its, r', pl, hz⟩ := I.list hq
    have hlen := r'.length
    exact Calls.call_len_list pl.isList (by simp only [List.size_toArray] <;> omega) ⟨.int ys.length, H, I.tok _, ⟨s.toks + 1, by rw [List.size_toArray, hlen]⟩, q⟩
  · obtain ⟨its, r', pl, hz⟩ := I.tuple hq
    have hlen := r'.length
    exact len_tuple pl (by simp only [List.size_toArray] <;> omega) ⟨.int ys.length, H, I.tok _, ⟨s.toks + 1, by rw [List.size_toArray, hlen]⟩, q⟩
theorem call_list_of : CallR X (.type "list") (fun xs H Q => ∃ p ys, xs = [.ref p] ∧ (SqL X.K H p ys ∨ SqT X.K H p ys) ∧ ∀ l, H l = none → Q (.ref l) (upd H l (.lst ys))) := by
  intro pins s σ H xs us Q I r h
  obtain ⟨p, ys, rfl, hq, q⟩ := h
  obtain ⟨u, rfl, rx⟩ := vals1 r
  cases rx
  have fin : ∀ (its : List Value), Vals ys its → ys.length ≤ sizeLine → ∀ (h' : Heap) (c' : Nat), (∀ b o', s.heap.get? b = some o' → h'.get? b = some o') →
      h'.get? s.heap.objs.size = some { cls := .type "list", dict := none, data := .seq its.toArray c', slots := #[] } → EP X pins σ Q (.ref s.heap.objs.size) { s with heap := h' } := fun its r' hz h' c' kp e =>
    ⟨.ref s.heap.objs.size, _, I.laid (t' := s.toks) kp (Nat.le_refl _) (show ObjOk X.prog X.w _ h' _ (.lst ys) from ⟨hz, its, c', r', e⟩), rfl, q _ (I.hok.fresh (Nat.le_refl _))⟩
  rcases hq with hq | hq
  · obtain ⟨its, r', pl, hz⟩ := I.list hq
    have hlen := r'.length
    obtain ⟨o, ho, hc, n, hd⟩ := pl.isList
    exact call_list_seq p (.inl rfl) ho hc hd (fun h' c' kp e => fin its r' hz h' c' kp e) (by simp only [List.size_toArray] <;> omega)
  · obtain ⟨its, r', pl, hz⟩ := I.tuple hq
    have hlen := r'.length
    obtain ⟨o, ho, hc, n, hd⟩ := pl
    exact call_list_seq p (.inr rfl) ho hc hd (fun h' c' kp e => fin its r' hz h' c' kp e) (by simp only [List.size_toArray] <;> omega)
def tyV (K : PySem.W.Frag) (T : String) (x : V) (H : Hp) : Prop := match x with
  | .str _ => T = "str"
  | .int _ => T = "int"
  | .ref p => (T = "list" ∧ ∃ xs, SqL K H p xs) ∨ (T = "tuple" ∧ ∃ o, K.lookup p = some o ∧ o.cls = .type "tuple" ∧ o.dict = none) ∨
      (T = "dict" ∧ ((∃ kvs, H p = some (.dK kvs)) ∨ ∃ kvs, H p = some (.dT kvs))) ∨ (T = "set" ∧ ∃ S n, H p = some (.set S n))
  | _ => False
theorem tyV_is {pins : List (Addr × Obj)} {σ : St} {H : Hp} {s : Shared} {T : String} {x : V} {v : Value} (I : Inv X pins σ H s) (r : RelV x v) (ty : tyV X.K T x H) :
    s.TypeIs v T ∧ ∀ a, v = .ref a → ∃ ob, s.heap.get? a = some ob ∧ ob.dict = none := by
  cases x with
  | str z =>
    obtain ⟨t, rfl⟩ := r
    cases (show T = "str" from ty)
    exact ⟨typeIs_str s z t, fun _ e => nomatch e⟩
  | int i =>
    obtain ⟨t, rfl⟩ := r
    cases (show T = "int" from ty)
    exact ⟨typeIs_int s i t, fun _ e => nomatch e⟩
  | ref p =>
    cases r
    rcases ty with ⟨rfl, xs, hq⟩ | ⟨rfl, o, hk, hc, hd⟩ | ⟨rfl, hk⟩ | ⟨rfl, S, n, hk⟩
    · obtain ⟨its, _, pl, _⟩ := I.list hq
      refine ⟨pl.isList.typeIs, fun a e => ?_⟩
      cases e
      obtain ⟨o, n, e, c, hd, _⟩ := pl
      exact ⟨o, e, hd⟩
    · refine ⟨⟨o, I.kIn p o hk, hc⟩, fun a e => ?_⟩
      cases e
      exact ⟨o, I.kIn _ o hk, hd⟩
    · have z : ∃ o, s.heap.get? p = some o ∧ o.ExactDict := by
        rcases hk with ⟨kvs, hk⟩ | ⟨kvs, hk⟩
        · obtain ⟨_, _, _, _, o, _, _, e, ex, _⟩ := I.hok p _ hk
          exact ⟨o, e, ex⟩
        · obtain ⟨_, _, _, _, o, _, _, e, ex, _⟩ := I.hok p _ hk
          exact ⟨o, e, ex⟩
      obtain ⟨o, e, ex⟩ := z
      refine ⟨⟨o, e, ex.1⟩, fun a e2 => ?_⟩
      cases e2
      exact ⟨o, e, ex.2.1⟩
    · obtain ⟨o, _, _, _, e, ex, _⟩ := I.hok p _ hk
      refine ⟨⟨o, e, ex.1⟩, fun a e2 => ?_⟩
      cases e2
      exact ⟨o, e, ex.2.1⟩
  | _ => exact False.elim ty
def tBM0 (K : PySem.W.Frag) (T : String) (r : V → List V → Hp → VK → Prop) (to : TE) : TE := fun σ H Q => to σ H fun x H1 => tyV K T x H1 ∧ r x [] H1 Q
def tBM (K : PySem.W.Frag) (T : String) (r : V → List V → Hp → VK → Prop) (to : TE) (t : TA) : TE := fun σ H Q => to σ H fun x H1 => tyV K T x H1 ∧ t σ H1 fun xs H2 => r x xs H2 Q
variable {o e : Expr} {es : List Expr} {to : TE} {t : TA} {name : Str} {apos cpos : Pos} {T id : String} {r : V → List V → Hp → VK → Prop}
theorem pe_bm0 (pa : PlainAttrs T) (slot : Slot T name id) (hty : typeOf (.builtin id) = pure (.type "method_descriptor")) (hm : MtR X id r) (ho : PE X o to)
    (hbase : attributeBase o name X.env (eval o X.env) = eval o X.env := by rfl) (hline : (apos.endLine == cpos.line) = true := by rfl) : PE X (.Call (.Attribute o name apos) [] [] cpos) (tBM0 X.K T r to) := by
  intro pins s σ H Q I h
  refine wpAny_Call_method0_late hbase hline (thn (ho pins s σ H _ I h) fun v s1 ⟨x, H1, I1, r1, ty, q1⟩ => ?_)
  obtain ⟨h1, h2⟩ := tyV_is I1 r1 ty
  exact ⟨T, id, pa, slot, hty, h1, h2, Calls.callWith_builtin rfl (PySem.evalArgs_none (hm pins s1 σ H1 x [] v [] Q I1 r1 .nil q1))⟩
theorem pe_bm (pa : PlainAttrs T) (slot : Slot T name id) (hty : typeOf (.builtin id) = pure (.type "method_descriptor")) (hm : MtR X id r) (ho : PE X o to) (ha : PA X (e :: es) t)
    (hbase : attributeBase o name X.env (eval o X.env) = eval o X.env := by rfl)
    (hfew : ((backTo cpos (starEach (e :: es) X.env)).all (fun x => !x.1) && (backToKw cpos (keywordEach [] X.env)).all (fun x => x.1.isSome)
      && decide ((e :: es).length + ([] : List Keyword).length + (if ([] : List Keyword).isEmpty then 0 else 1) < 30)) = true := by rfl)
    (hline : (apos.endLine == cpos.line) = true := by rfl) (hs : starEach (e :: es) X.env = (false, eval e X.env) :: starEach es X.env := by rfl) (hplain : (backTo cpos (starEach es X.env)).any (·.1) = false := by rfl) :
    PE X (.Call (.Attribute o name apos) (e :: es) [] cpos) (tBM X.K T r to t) := by
  intro pins s σ H Q I h
  refine wpAny_Call_method_late hbase hfew hline rfl (thn (ho pins s σ H _ I h) fun v s1 ⟨x, H1, I1, r1, ty, q1⟩ => ?_)
  obtain ⟨h1, h2⟩ := tyV_is I1 r1 ty
  refine ⟨T, id, pa, slot, hty, h1, h2, ?_⟩
  have hA := ha cpos pins s1 σ H1 _ I1 q1
  rw [hs] at hA ⊢
  refine Calls.callWith_builtin (by show (false || (backTo cpos (starEach es X.env)).any (·.1)) = false; rw [hplain] <;> rfl) (Calls.evalArgs_plain ?_)
  exact thn hA fun us s2 ⟨vs, H2, I2, r2, q2⟩ => hm pins s2 σ H2 x vs v us Q I2 r1 r2 q2
end
end L2
namespace L2
open PySem PySem.Spec PyProof.Rows
def MtM (X : Cx) (id : String) (r : V → List V → Hp → VK → Prop) : Prop :=
  ∀ (pins : List (Addr × Obj)) (s : Shared) (σ : St) (H : Hp) (x : V) (xs : List V) (v : Value) (us : List Value) (Q : VK), Inv X pins σ H s → RelV x v → Vals xs us → r x xs H Q →
    wpAny (model X.prog X.w) X.A (call (.builtin id) (v :: us)) (EP X pins σ Q) X.xe s
theorem Vals.one : ∀ {x : V} {us : List Value}, Vals [x] us → ∃ u, us = [u] ∧ RelV x u
  | _, _, .cons r .nil => ⟨_, rfl, r⟩
theorem Vals.zero : ∀ {us : List Value}, Vals [] us → us = []
  | _, .nil => rfl
theorem Vals.dropLast {xs : List V} {us : List Value} (h : Vals xs us) : Vals xs.dropLast us.dropLast := by
  induction h with
  | nil => exact .nil
  | cons r t ih =>
    cases t with
    | nil => exact .nil
    | cons q t' => exact .cons r ih
theorem Vals.rep {xs : List V} {us : List Value} (h : Vals xs us) : ∀ k : Nat, Vals (List.replicate k xs).flatten (List.replicate k us).flatten
  | 0 => .nil
  | k + 1 => by
    rw [List.replicate_succ, List.replicate_succ, List.flatten_cons, List.flatten_cons]
    exact Vals.append h (Vals.rep h k)
theorem erase_last {α : Type} (l : List α) : l.eraseIdx (l.length - 1) = l.dropLast := by
  induction l with
  | nil => rfl
  | cons a r ih =>
    cases r with
    | nil => rfl
    | cons b r =>
      have e : (a :: b :: r).length - 1 = ((b :: r).length - 1) + 1 := by
        have h1 : (a :: b :: r).length = r.length + 2 := rfl
        have h2 : (b :: r).length = r.length + 1 := rfl
        omega
      rw [e, List.eraseIdx_cons_succ, ih]
      all_goals rfl
theorem foldl_rep (its : List Value) : ∀ (k : Nat) (acc : List Value),
    List.foldl (fun x1 x2 => x1 ++ x2) acc.toArray (List.replicate k its.toArray) = (acc ++ (List.replicate k its).flatten).toArray
  | 0, acc => by simp
  | k + 1, acc => by
    have e : acc.toArray ++ its.toArray = (acc ++ its).toArray := by simp
    have e2 : (acc ++ its) ++ (List.replicate k its).flatten = acc ++ (List.replicate (k + 1) its).flatten := by
      rw [List.replicate_succ, List.flatten_cons, List.append_assoc]
    rw [← e2, ← foldl_rep its k (acc ++ its), ← e, List.replicate_succ, List.foldl_cons]
section
variable {X : Cx} {pins : List (Addr × Obj)} {σ : St} {H : Hp} {s : Shared} {l b : Addr} {xs ys zs : List V}
theorem Inv.lset {its its' : List Value} {n : Nat} {f : Array Value → Array Value} {t' : Nat} (I : Inv X pins σ H s) (hH : H l = some (.lst xs))
    (e : s.heap.get? l = some { cls := .type "list", data := .seq its.toArray n }) (hf : f its.toArray = its'.toArray) (hv : Vals ys its') (hz : ys.length ≤ sizeLine) :
    Inv X pins σ (upd H l (.lst ys)) { s with heap := s.heap.update l (Obj.mapSeq f), toks := t' } := by
  have q := PySem.IsL.update e f
  rw [hf] at q
  refine I.write (x := l) (e := l) (by rw [hH]; exact trivial) (.inl rfl) (fun b' u hb hu => (Heap.get?_update_other s.heap (Obj.mapSeq f) (Ne.symm hb)).trans hu) ⟨_, q⟩ ?_
  exact ⟨hz, its', _, hv, q⟩
theorem Inv.lnew {its : List Value} {t' : Nat} (I : Inv X pins σ H s) (hv : Vals ys its) (hz : ys.length ≤ sizeLine) :
    Inv X pins σ (upd H s.heap.objs.size (.lst ys)) { s with heap := s.heap.push { cls := .type "list", data := .seq its.toArray }, toks := t' } :=
  I.laid (fun _ _ q => Heap.get?_push_of_some _ q) (Nat.le_refl _) ⟨hz, its, 0, hv, Heap.get?_push_size _ rfl⟩
theorem Inv.fresh (I : Inv X pins σ H s) : H s.heap.objs.size = none := I.hok.fresh (Nat.le_refl _)
theorem Inv.lstM (I : Inv X pins σ H s) (hH : H l = some (.lst xs)) : xs.length ≤ sizeLine ∧ ∃ (its : List Value) (n : Nat), Vals xs its ∧ xs.length = its.length ∧ s.heap.get? l = some { cls := .type "list", data := .seq its.toArray n } := by
  obtain ⟨z, its, n, r, e⟩ := I.hok l _ hH
  exact ⟨z, its, n, r, r.length, e⟩
theorem notLongL {n : Nat} (h : n ≤ sizeLine) : Builtin.List.listTooLong n = false := by
  unfold Builtin.List.listTooLong
  exact decide_eq_false (by omega)
end
section
variable {X : Cx}
def rAppend : V → List V → Hp → VK → Prop := fun x vs H Q => ∃ l xs y, x = .ref l ∧ vs = [y] ∧ H l = some (.lst xs) ∧ xs.length < sizeLine ∧ Q .non (upd H l (.lst (xs ++ [y])))
theorem mt_append : MtM X "list.append" rAppend := by
  intro pins s σ H x vs v us Q I rx rv h
  obtain ⟨l, xs, y, rfl, rfl, hH, hz, q⟩ := h
  cases rx
  obtain ⟨u, rfl, ru⟩ := rv.one
  obtain ⟨z, its, n, r, hl, e⟩ := I.lstM hH
  refine call_meets F.slot_list_append ⟨_, e, rfl⟩ F.entry_list_append (F.args_list_append_2 _ _) (PySem.list_append l its.toArray n u (by rw [List.size_toArray]; omega)) ⟨e, ?_⟩
  refine ⟨.non, _, I.lset (its' := its ++ [u]) hH e (by simp) (r.append (.cons ru .nil)) ?_, rfl, q⟩
  rw [List.length_append, List.length_singleton]
  omega
def rExtend : V → List V → Hp → VK → Prop := fun x vs H Q => ∃ l b xs zs, x = .ref l ∧ vs = [.ref b] ∧ H l = some (.lst xs) ∧ H b = some (.lst zs) ∧ xs.length + zs.length ≤ sizeLine ∧ Q .non (upd H l (.lst (xs ++ zs)))
theorem mt_extend : MtM X "list.extend" rExtend := by
  intro pins s σ H x vs v us Q I rx rv h
  obtain ⟨l, b, xs, zs, rfl, rfl, hH, hB, hz, q⟩ := h
  cases rx
  obtain ⟨u, rfl, ru⟩ := rv.one
  cases ru
  obtain ⟨z, its, n, r, hl, e⟩ := I.lstM hH
  obtain ⟨z2, its2, n2, r2, hl2, e2⟩ := I.lstM hB
  have hsz : its.toArray.size + its2.toArray.size ≤ sizeLine := by rw [List.size_toArray, List.size_toArray]; omega
  have hlong : ¬ (!its.toArray.isEmpty && Builtin.List.listTooLong (its.toArray.size + its2.toArray.size)) = true := by
    rw [notLongL hsz, Bool.and_false]
    exact Bool.false_ne_true
  refine call_meets F.slot_list_extend ⟨_, e, rfl⟩ F.entry_list_extend (F.args_list_extend_2 _ _)
    (AutoSeq1.list_extend_list_list_0 l its.toArray n b its2.toArray n2 hlong (by rw [List.size_toArray]; omega) (by omega)) ⟨e, e2, ?_⟩
  refine ⟨.non, _, I.lset (its' := its ++ its2) hH e (by simp) (r.append r2) ?_, rfl, q⟩
  rw [List.length_append]
  omega
def rPop : V → List V → Hp → VK → Prop := fun x vs H Q => ∃ l xs y, x = .ref l ∧ vs = [] ∧ H l = some (.lst xs) ∧ xs[xs.length - 1]? = some y ∧ Q y (upd H l (.lst xs.dropLast))
theorem mt_pop : MtM X "list.pop" rPop := by
  intro pins s σ H x vs v us Q I rx rv h
  obtain ⟨l, xs, y, rfl, rfl, hH, hy, q⟩ := h
  cases rx
  have hus := rv.zero
  subst hus
  obtain ⟨z, its, n, r, hl, e⟩ := I.lstM hH
  obtain ⟨u, hu, ru⟩ := r.get hy
  have hy' : its.toArray[its.toArray.size - 1]? = some u := by
    show its.toArray[its.length - 1]? = some u
    rw [← Array.getElem?_toList, ← hl]
    exact hu
  refine call_meets F.slot_list_pop ⟨_, e, rfl⟩ F.entry_list_pop (F.args_list_pop_1 _) (MeetsSeq.list_pop_last l its.toArray n u hy' (by rw [List.size_toArray]; omega)) ⟨e, ?_⟩
  refine ⟨y, _, I.lset (its' := its.dropLast) hH e ?_ r.dropLast ?_, ru, q⟩
  · show its.toArray.eraseIdxIfInBounds (its.toArray.size - 1) = its.dropLast.toArray
    rw [List.size_toArray, List.eraseIdxIfInBounds_toArray, erase_last]
  · rw [List.length_dropLast]
    omega
def rCat : R2 := fun x y H Q => ∃ l b xs zs, x = .ref l ∧ y = .ref b ∧ H l = some (.lst xs) ∧ H b = some (.lst zs) ∧ xs.length + zs.length ≤ sizeLine ∧ ∀ p, H p = none → Q (.ref p) (upd H p (.lst (xs ++ zs)))
theorem op_cat : OpR X (binaryOp .Add) rCat := by
  intro pins s σ H x y v u Q I rx ry h
  obtain ⟨l, b, xs, zs, rfl, rfl, hH, hB, hz, q⟩ := h
  cases rx
  cases ry
  obtain ⟨z, its, n, r, hl, e⟩ := I.lstM hH
  obtain ⟨z2, its2, n2, r2, hl2, e2⟩ := I.lstM hB
  refine PySem.P.add_list e e2 ?_ (by rw [List.size_toArray, List.size_toArray]; omega)
  have ea : its.toArray ++ its2.toArray = (its ++ its2).toArray := by simp
  rw [ea]
  exact ⟨.ref _, _, I.lnew (t' := s.toks) (r.append r2) (by rw [List.length_append]; omega), rfl, q _ I.fresh⟩
def rRep : R2 := fun x y H Q => ∃ l k xs, x = .ref l ∧ y = .int k ∧ H l = some (.lst xs) ∧ -(2 ^ 63) ≤ k ∧ k < 2 ^ 63 ∧ xs.length * k.toNat ≤ sizeLine ∧
  ∀ p, H p = none → Q (.ref p) (upd H p (.lst (List.replicate k.toNat xs).flatten))
theorem len_rep {α : Type} (xs : List α) (k : Nat) : (List.replicate k xs).flatten.length = k * xs.length := by
  induction k with
  | zero => simp
  | succ k ih => rw [List.replicate_succ, List.flatten_cons, List.length_append, ih, Nat.succ_mul, Nat.add_comm]
theorem op_rep : OpR X (binaryOp .Mult) rRep := by
  intro pins s σ H x y v u Q I rx ry h
  obtain ⟨l, k, xs, rfl, rfl, hH, h1, h2, hz, q⟩ := h
  cases rx
  obtain ⟨t, rfl⟩ := ry
  obtain ⟨z, its, n, r, hl, e⟩ := I.lstM hH
  have hlen : its.toArray.size * k.toNat ≤ sizeLine := by rw [List.size_toArray, ← hl]; exact hz
  have hcap : ¬ its.toArray.size * k.toNat > (2 ^ 63 - 1) / 8 := by
    have : (sizeLine : Nat) ≤ (2 ^ 63 - 1) / 8 := by decide
    omega
  have hfit : ¬ (!Builtin.List.listFitsIndex k) = true := by
    rw [fitsIndex_both h1 h2]
    exact Bool.false_ne_true
  have hlong : ¬ Builtin.List.listTooLong (its.toArray.size * k.toNat) = true := by
    rw [notLongL hlen]
    exact Bool.false_ne_true
  have hnew : List.foldl (fun x1 x2 => x1 ++ x2) #[] (List.replicate (if its.toArray.isEmpty = true then 0 else k.toNat) its.toArray) = (List.replicate k.toNat its).flatten.toArray := by
    have f0 : ∀ m : Nat, List.foldl (fun x1 x2 => x1 ++ x2) #[] (List.replicate m its.toArray) = (List.replicate m its).flatten.toArray := fun m => by
      have := foldl_rep its m []
      rw [List.nil_append] at this
      exact this
    rw [f0]
    cases its with
    | nil => simp
    | cons a r' => rw [if_neg (by simp)]
  refine wpAny_binaryOp_repeat_ref (T := "list") (U := "int") (by decide) ⟨_, e, rfl⟩ (fun s' => typeIs_int s' k t) noFill_list_mul F.fills_int_mul F.slot_int_rmul repeat_list F.slot_int_index.lookup
    (call_meets F.slot_int_rmul (typeIs_int s k t) F.entry_int_rmul (F.args_int_rmul_2 _ _) (int___rmul___int_list k t l its.toArray n)
      ⟨e, rfl, ⟨_, e, rfl⟩, call_meets F.slot_list_mul ⟨_, e, rfl⟩ F.entry_list_mul (F.args_list_mul_2 _ _) (AutoListH.list___mul___list_int_3 l its.toArray n k t hfit hcap hlong) ⟨e, ?_⟩⟩)
  rw [hnew]
  exact ⟨.ref _, _, I.lnew (t' := s.toks) (r.rep k.toNat) (by rw [len_rep, Nat.mul_comm]; exact hz), rfl, q _ I.fresh⟩
end
section
variable {prog : Program} {w : World} {A : Around} {E : Value → Shared → Prop} {s : Shared}
set_option maxRecDepth 100000 in
end
section
variable {X : Cx}
end
end L2
namespace L2
open PySem PySem.Spec PyProof.Rows
theorem Vals.ints : ∀ {ns : List Int} {us : List Value}, Vals (ns.map V.int) us → IntsAre us ns
  | [], us, h => by
    rw [List.map_nil] at h
    cases h
    exact IntsAre.nil
  | n :: ns, us, h => by
    rw [List.map_cons] at h
    cases h with
    | cons r t =>
      obtain ⟨k, rfl⟩ := r
      exact IntsAre.cons n k (Vals.ints t)
theorem Vals.bls : ∀ {bs : List Bool} {us : List Value}, Vals (bs.map V.bl) us → us = bs.map Value.bool
  | [], us, h => by
    rw [List.map_nil] at h
    cases h
    rfl
  | b :: bs, us, h => by
    rw [List.map_cons] at h
    cases h with
    | cons r t =>
      cases r
      rw [Vals.bls t, List.map_cons]
theorem Vals.ref1 {a : Addr} {us : List Value} (r : Vals [V.ref a] us) : us = [Value.ref a] := by
  cases r with
  | cons r t =>
    cases t
    cases r
    rfl
section
variable {prog : Program} {w : World} {A : Around} {E : Value → Shared → Prop} {s : Shared} {l : Addr} {its : List Value} {ns : List Int} {Q : Value → Shared → Prop}
theorem max_raw (hh : A.handled = none) (hl : s.heap.IsList l its.toArray) (hi : IntsAre its ns) (hne : 0 < ns.length)
    (h : ∀ h' tk M t', (∀ b o, s.heap.get? b = some o → h'.get? b = some o) → M ∈ ns → (∀ a, a ∈ ns → a ≤ M) → Q (.int M t') { s with heap := h', toks := tk }) : wpAny (model prog w) A (call (.builtin "max") [.ref l]) Q E s := by
  obtain ⟨xs, e⟩ := hi.allInts.items
  have hn : numsOf (intItems xs).toList = ns := by rw [← e]; exact hi.numsOf
  rw [nums_intItems] at hn
  subst hn
  rw [e] at hl
  have hsz : 0 < xs.size := by simpa using hne
  refine PySem.max_intList hh hl hsz fun v h' tk hv hk => ?_
  obtain ⟨t, rfl⟩ := intItems_at hv
  obtain ⟨h1, h2⟩ := argBest_gt (numAt xs) (xs.size - 1)
  refine h h' tk _ t hk ?_ fun a ha => ?_
  · rw [numAt_eq]; exact PySem.getD_mem (by rw [List.length_map, Array.length_toList]; omega)
  · obtain ⟨j, hj, rfl⟩ := mem_getD ha
    rw [List.length_map, Array.length_toList] at hj
    rw [← numAt_eq]; exact h2 j (by omega)
end
section
variable {X : Cx}
def rMax (K : PySem.W.Frag) : List V → Hp → VK → Prop := fun vs H Q => ∃ (a : Addr) (ns : List Int), vs = [V.ref a] ∧ SqL K H a (ns.map V.int) ∧ 0 < ns.length ∧ ∀ m, m ∈ ns → (∀ y, y ∈ ns → y ≤ m) → Q (.int m) H
theorem cr_max (hc : X.calm = true) : CallR X (.builtin "max") (rMax X.K) := by
  intro pins s σ H vs us Q I r h
  obtain ⟨a, ns, rfl, hs, hne, q⟩ := h
  obtain ⟨its, rv, hl, _⟩ := I.list hs
  rw [Vals.ref1 r]
  exact max_raw (I.ok.hd hc) hl.isList rv.ints hne fun h' tk m t' hk h1 h2 => ⟨.int _, H, I.kept hk, ⟨_, rfl⟩, q m h1 h2⟩
end
section
variable {X : Cx}
end
section
variable {X : Cx}
end
theorem iter_any {prog : Program} {w : World} {A : Around} {E : Value → Shared → Prop} {s : Shared} {l : Addr} {items : Array Value} {Q : Value → Shared → Prop} (hl : s.heap.IsList l items)
    (h : ∀ s₂ : Shared, s₂ = { s with heap := s.heap.push { cls := .type "list_iterator", data := .fields #[.ref l, .int 0 0] } } →
      (s₂.heap.IsListIter s.heap.objs.size l 0 ∧ s₂.heap.IsList l items) → l ≠ s.heap.objs.size → Q (.ref s.heap.objs.size) s₂) : wpAny (model prog w) A (pyIter (.ref l)) Q E s := by
  have hlt : l < s.heap.objs.size := by obtain ⟨_, e, _⟩ := hl; exact Heap.lt_size e
  exact wpAny_pyIter_list hl (h _ rfl ⟨⟨_, Heap.get?_push_size _ rfl, rfl, rfl⟩, hl.push _⟩ (Nat.ne_of_lt hlt))
theorem truth_bools {prog : Program} {w : World} {A : Around} {bs : List Bool} {its : List Value} (e : its = bs.map Value.bool) :
    TruthOf prog w A (fun i v => its.toArray[i]? = some v) (fun i => bs.getD i false) := fun i v s Q E hv hq => by
  have hv' : its[i]? = some v := by simpa using hv
  rw [e, List.getElem?_map] at hv'
  obtain ⟨b, hb, rfl⟩ := Option.map_eq_some_iff.mp hv'
  have hg : bs.getD i false = b := by rw [List.getD_eq_getElem?_getD, hb] <;> rfl
  have hq' : Q (bs.getD i false) s := hq
  rw [hg] at hq'
  exact wpAny_truthy_bool hq'
theorem all_range : ∀ bs : List Bool, (List.range bs.length).all (fun i => bs.getD i false) = bs.all id
  | [] => rfl
  | b :: bs => by
    rw [List.length_cons, List.range_succ_eq_map, List.all_cons, List.all_map, List.all_cons, ← all_range bs]
    all_goals rfl
section
variable {X : Cx}
def rAll (K : PySem.W.Frag) : List V → Hp → VK → Prop := fun vs H Q => ∃ (a : Addr) (bs : List Bool), vs = [V.ref a] ∧ SqL K H a (bs.map V.bl) ∧ Q (.bl (bs.all id)) H
theorem cr_all (hc : X.calm = true) : CallR X (.builtin "all") (rAll X.K) := by
  intro pins s σ H vs us Q I r h
  obtain ⟨a, bs, rfl, hs, q⟩ := h
  obtain ⟨its, rv, hl, _⟩ := I.list hs
  rw [Vals.ref1 r]
  have hb := rv.bls
  refine call_all_walk (iter_any hl.isList fun s₂ e2 st hne => ?_)
  subst e2
  refine ⟨_, _, _, _, _, _, _, rfl, Walks.list (A := X.A.in1) (I.ok.hd hc) _ a hne its.toArray, st, truth_bools hb, fun h' tk hk => ?_⟩
  refine ⟨.bl _, H, I.kept fun b o eo => hk b o (fun hmem => ?_) (Heap.get?_push_of_some _ eo), ?_, q⟩
  · rcases List.mem_cons.mp hmem with e1 | hmem
    · exact absurd (e1 ▸ Heap.lt_size eo) (Nat.lt_irrefl _)
    · cases hmem
  · show Value.bool _ = Value.bool _
    rw [← all_range, hb, List.size_toArray, List.length_map]
end
section
variable {X : Cx} {pins : List (Addr × Obj)} {σ : St} {H : Hp} {s : Shared}
end
section
variable {X : Cx}
end
end L2
namespace L2
open PySem PySem.Spec PyProof.Rows
abbrev CellAt (h : Heap) (c : Addr) (v : Option Value) : Prop := h.IsCell c v
def relS (scope sc : Scope) : Scope :=
  { scope with names := scope.names.map fun (n, k) => if (k == .free && sc.kind == .function && sc.names.lookup n == some .cell) then (n, .cell) else (n, k) }
def cloFrom (cells : List (Str × Addr)) : List (Str × NameKind) → List (Str × Addr) → List (Str × Addr)
  | [], acc => acc
  | (n, k) :: r, acc => if k == .free then cloFrom cells r ((n, (cells.lookup n).getD 0) :: acc) else cloFrom cells r acc
theorem closure_loop (env : Env) (f : Str × NameKind → List (Str × Addr) → Sem (ForInStep (List (Str × Addr))))
    (hf : ∀ n k c, f (n, k) c = if k == .free then (do let a ← cellOf env n; pure (.yield ((n, a) :: c))) else pure (.yield c)) :
    ∀ (names : List (Str × NameKind)) (acc : List (Str × Addr)), (∀ y ∈ names, y.2 = .free → ∃ c, env.cells.lookup y.1 = some c) → forIn names acc f = pure (cloFrom env.cells names acc)
  | [], acc, _ => by rw [List.forIn_nil]; rfl
  | (n, k) :: r, acc, h => by
    rw [List.forIn_cons, hf]
    have ih := fun acc => closure_loop env f hf r acc fun y hy => h y (List.mem_cons_of_mem _ hy)
    unfold cloFrom
    by_cases hk : (k == NameKind.free) = true
    · rw [if_pos hk, if_pos hk]
      obtain ⟨c, hc⟩ := h (n, k) List.mem_cons_self (by simpa using hk)
      have e : cellOf env n = pure c := by unfold cellOf; rw [hc]
      rw [e]
      have e2 : (env.cells.lookup n).getD 0 = c := by rw [hc]; rfl
      rw [e2]
      exact ih _
    · rw [if_neg hk, if_neg hk]
      exact ih _
theorem closure_ok {scope : Scope} {env : Env} (h : ∀ y ∈ scope.names, y.2 = .free → ∃ c, env.cells.lookup y.1 = some c) : closureFor scope env = pure (cloFrom env.cells scope.names []) := by
  simp only [closureFor]
  rw [closure_loop env _ (fun n k c => rfl) scope.names [] h]
  rfl
theorem mem_lookup {α : Type} : ∀ {l : List (Str × α)} {n : Str} {c : α}, (n, c) ∈ l → ∃ c', l.lookup n = some c'
  | (k, v) :: r, n, c, h => by
    rw [List.lookup_cons]
    cases hb : n == k with
    | true => exact ⟨_, rfl⟩
    | false =>
      rcases List.mem_cons.mp h with e | h
      · cases e; simp at hb
      · exact mem_lookup h
theorem cloFrom_mem {cells : List (Str × Addr)} : ∀ {names : List (Str × NameKind)} {acc : List (Str × Addr)} {n : Str} {c : Addr}, (n, c) ∈ cloFrom cells names acc → (n, c) ∈ acc ∨ ((n, .free) ∈ names ∧ c = (cells.lookup n).getD 0)
  | [], _, _, _, h => .inl h
  | (m, k) :: r, acc, n, c, h => by
    unfold cloFrom at h
    split at h
    · rename_i hk
      have hk : k = .free := by simpa using hk
      rcases cloFrom_mem h with h | ⟨h1, h2⟩
      · rcases List.mem_cons.mp h with e | h
        · cases e; exact .inr ⟨hk ▸ List.mem_cons_self, rfl⟩
        · exact .inl h
      · exact .inr ⟨List.mem_cons_of_mem _ h1, h2⟩
    · rcases cloFrom_mem h with h | ⟨h1, h2⟩
      · exact .inl h
      · exact .inr ⟨List.mem_cons_of_mem _ h1, h2⟩
theorem cloFrom_acc {cells : List (Str × Addr)} : ∀ {names : List (Str × NameKind)} {acc : List (Str × Addr)} {p : Str × Addr}, p ∈ acc → p ∈ cloFrom cells names acc
  | [], _, _, h => h
  | (m, k) :: r, acc, p, h => by
    unfold cloFrom
    split
    · exact cloFrom_acc (List.mem_cons_of_mem _ h)
    · exact cloFrom_acc h
theorem cloFrom_has {cells : List (Str × Addr)} : ∀ {names : List (Str × NameKind)} {acc : List (Str × Addr)} {n : Str}, (n, .free) ∈ names → (n, (cells.lookup n).getD 0) ∈ cloFrom cells names acc
  | (m, k) :: r, acc, n, h => by
    unfold cloFrom
    rcases List.mem_cons.mp h with e | h
    · cases e
      exact cloFrom_acc List.mem_cons_self
    · split
      · exact cloFrom_has h
      · exact cloFrom_has h
theorem cells_mem : ∀ {names : List (Str × NameKind)} {h : Heap} {acc : List (Str × Addr)} {x : Str} {c : Addr}, (x, c) ∈ cellsFrom h.objs.size names acc →
    (x, c) ∈ acc ∨ ((x, .cell) ∈ names ∧ h.objs.size ≤ c ∧ CellAt (pushCells h names) c none)
  | [], _, _, _, _, h => .inl h
  | (n, k) :: r, h, acc, x, c, hm => by
    unfold cellsFrom at hm
    unfold pushCells
    split at hm
    · rename_i hk
      rw [if_pos hk]
      have hk : k = .cell := by simpa using hk
      rw [← Heap.size_push h { cls := .type "cell", data := .cell none }] at hm
      rcases cells_mem hm with hm | ⟨h1, h2, h3⟩
      · rcases List.mem_cons.mp hm with e | hm
        · cases e
          exact .inr ⟨hk ▸ List.mem_cons_self, Nat.le_refl _, _, pushCells_keeps r _ _ _ (Heap.get?_push_size _ rfl), rfl⟩
        · exact .inl hm
      · rw [Heap.size_push] at h2
        exact .inr ⟨List.mem_cons_of_mem _ h1, Nat.le_of_succ_le h2, h3⟩
    · rename_i hk
      rw [if_neg hk]
      rcases cells_mem hm with hm | ⟨h1, h2, h3⟩
      · exact .inl hm
      · exact .inr ⟨List.mem_cons_of_mem _ h1, h2, h3⟩
theorem cells_acc : ∀ {names : List (Str × NameKind)} {n : Nat} {acc : List (Str × Addr)} {p : Str × Addr}, p ∈ acc → p ∈ cellsFrom n names acc
  | [], _, _, _, h => h
  | (m, k) :: r, n, acc, p, h => by
    unfold cellsFrom
    split
    · exact cells_acc (List.mem_cons_of_mem _ h)
    · exact cells_acc h
theorem cells_has : ∀ {names : List (Str × NameKind)} {n : Nat} {acc : List (Str × Addr)} {x : Str}, (x, .cell) ∈ names → ∃ c, (x, c) ∈ cellsFrom n names acc
  | (m, k) :: r, n, acc, x, h => by
    unfold cellsFrom
    rcases List.mem_cons.mp h with e | h
    · cases e
      exact ⟨n, cells_acc List.mem_cons_self⟩
    · split
      · exact cells_has h
      · exact cells_has h
theorem cells_inj : ∀ {names : List (Str × NameKind)} {h : Heap} {acc : List (Str × Addr)} {x y : Str} {c : Addr}, (∀ p ∈ acc, p.2 < h.objs.size) → (∀ x y c, (x, c) ∈ acc → (y, c) ∈ acc → x = y) →
    (x, c) ∈ cellsFrom h.objs.size names acc → (y, c) ∈ cellsFrom h.objs.size names acc → x = y
  | [], _, _, _, _, _, _, hi, h1, h2 => hi _ _ _ h1 h2
  | (n, k) :: r, h, acc, x, y, c, hl, hi, h1, h2 => by
    unfold cellsFrom at h1 h2
    split at h1
    · rename_i hk
      rw [if_pos hk] at h2
      rw [← Heap.size_push h { cls := .type "cell", data := .cell none }] at h1 h2
      refine cells_inj (h := h.push _) (fun p hp => ?_) (fun x y c a b => ?_) h1 h2
      · rw [Heap.size_push]
        rcases List.mem_cons.mp hp with rfl | hp
        · exact Nat.lt_succ_self _
        · exact Nat.lt_succ_of_lt (hl p hp)
      · rcases List.mem_cons.mp a with e | a <;> rcases List.mem_cons.mp b with e' | b
        · cases e; cases e'; rfl
        · cases e; exact absurd (hl _ b) (Nat.lt_irrefl _)
        · cases e'; exact absurd (hl _ a) (Nat.lt_irrefl _)
        · exact hi _ _ _ a b
    · rename_i hk
      rw [if_neg hk] at h2
      exact cells_inj hl hi h1 h2
theorem newEnv_comp {M : Model} {A : Around} {E : Value → Shared → Prop} {s : Shared} {scope : Scope} {globals : Addr} {closure : List (Str × Addr)} {qual : Str} {func : Option Addr} {code : Value} {around : Env} {builtins : Addr} {Q : Env → Shared → Prop}
    (h : Q (newEnv scope s.heap.objs.size globals (cellsFrom (s.heap.objs.size + 1) scope.names closure) qual func code (some around) builtins)
      { s with heap := pushCells (s.heap.push { cls := .type "dict", data := .dict #[] }) scope.names }) :
    wpAny M A (newFunctionEnv scope globals closure [] qual func code (some around) builtins) Q E s := by
  simp only [newFunctionEnv, Option.isSome_some, if_true]
  refine wpAny_bind (wpAny_alloc ?_)
  refine wpAny_bind (wpAny_layCells _ (fun n k c => rfl) scope.names closure _ _ ?_)
  rw [show ({ s with heap := s.heap.push { cls := .type "dict", data := .dict #[] } } : Shared).heap.objs.size = s.heap.objs.size + 1 from Heap.size_push ..]
  rw [List.forIn_nil]
  exact wpAny_bind (wpAny_pure (wpAny_pure h))
theorem lookup_relS {sc : Scope} : ∀ {names : List (Str × NameKind)} {x : Str} {k : NameKind},
    (names.map fun (n, k) => if (k == NameKind.free && sc.kind == .function && sc.names.lookup n == some .cell) then (n, NameKind.cell) else (n, k)).lookup x = some k →
    ∃ k', names.lookup x = some k' ∧ (k = k' ∨ (k' = .free ∧ k = .cell))
  | [], _, _, h => by simp at h
  | (n, k₀) :: r, x, k, h => by
    have ih := @lookup_relS sc r x k
    have h' : List.lookup x ((if (k₀ == NameKind.free && sc.kind == .function && sc.names.lookup n == some .cell) = true then (n, NameKind.cell) else (n, k₀)) :: (r.map _)) = some k := h
    cases hx : x == n with
    | true =>
      simp only [List.lookup_cons, hx]
      by_cases hc : (k₀ == NameKind.free && sc.kind == .function && sc.names.lookup n == some .cell) = true
      · rw [if_pos hc] at h'
        simp only [List.lookup_cons, hx] at h'
        cases h'
        simp only [Bool.and_eq_true, beq_iff_eq] at hc
        exact ⟨k₀, rfl, .inr ⟨hc.1.1, rfl⟩⟩
      · rw [if_neg hc] at h'
        simp only [List.lookup_cons, hx] at h'
        cases h'
        exact ⟨_, rfl, .inl rfl⟩
    | false =>
      simp only [List.lookup_cons, hx]
      by_cases hc : (k₀ == NameKind.free && sc.kind == .function && sc.names.lookup n == some .cell) = true
      · rw [if_pos hc] at h'
        simp only [List.lookup_cons, hx] at h'
        exact ih h'
      · rw [if_neg hc] at h'
        simp only [List.lookup_cons, hx] at h'
        exact ih h'
structure BlkOk (N : List Str) (sc scope : Scope) (own : List (Str × Nat)) : Prop where
  kind : scope.kind = .function
  uniq : ∀ y ∈ scope.names, scope.names.lookup y.1 = some y.2
  ix : ∀ p ∈ own, N[p.2]? = some p.1
  free : ∀ y ∈ scope.names, y.2 = .free → sc.names.lookup y.1 = some .cell ∨ sc.names.lookup y.1 = some .free
  own : ∀ y ∈ scope.names, y.2 = .local ∨ y.2 = .cell → y.1 ∈ own.map (·.1) ∨ y.1 ∉ N
def wipe (σ : St) : List Nat → St
  | [] => σ
  | v :: vs => (wipe σ vs).set v none
theorem wipe_length (σ : St) : ∀ vs : List Nat, (wipe σ vs).length = σ.length
  | [] => rfl
  | v :: vs => by unfold wipe; rw [List.length_set, wipe_length σ vs]
theorem wipe_some {σ : St} {i : Nat} {x : V} : ∀ {vs : List Nat}, (wipe σ vs)[i]? = some (some x) → σ[i]? = some (some x) ∧ i ∉ vs
  | [], h => ⟨h, by simp⟩
  | v :: vs, h => by
    unfold wipe at h
    by_cases hi : v = i
    · subst hi
      by_cases hv : v < (wipe σ vs).length
      · rw [List.getElem?_set_self hv] at h; cases h
      · rw [List.getElem?_eq_none (by simpa using hv)] at h; cases h
    · rw [List.getElem?_set_ne hi] at h
      obtain ⟨h1, h2⟩ := wipe_some h
      exact ⟨h1, by simp only [List.mem_cons, not_or]; exact ⟨fun e => hi e.symm, h2⟩⟩
abbrev Cx.blk (X : Cx) (s : Shared) (H : Hp) (scope : Scope) (cenv : Env) (fp : List Addr) : Cx := { X with s_0 := s, H_0 := H, env := cenv, outer := X.stack, ex := fp, fn := fun x => scope.names.lookup x == some .cell, pn := [], xe := fun _ _ => False }
section
variable {X : Cx} {pins : List (Addr × Obj)} {σ : St} {H : Hp} {s : Shared}
theorem block_start {scope : Scope} {own : List (Str × Nat)} {fp : List Addr} (I : Inv X pins σ H s) (ok : BlkOk X.N X.env.scope scope own) (hN : X.N.Nodup) (hfp : ∀ b ∈ fp, FpOk X pins H b ∧ b < s.heap.objs.size) :
    Inv (X.blk s H scope (compEnvC scope (cellsFrom (s.heap.objs.size + 1) scope.names (cloFrom X.env.cells scope.names [])) s.heap.objs.size X.env) fp) [] (wipe σ (own.map (·.2))) H { s with heap := pushCells (s.heap.push { cls := .type "dict", data := .dict #[] }) scope.names } := by
  have hfree : ∀ y ∈ scope.names, y.2 = .free → ∃ c, X.env.cells.lookup y.1 = some c := fun y hy e => by
    rcases ok.free y hy e with k | k
    · exact I.ok.has _ (.inl k)
    · exact I.ok.has _ (.inr k)
  generalize hcenv : compEnvC scope (cellsFrom (s.heap.objs.size + 1) scope.names (cloFrom X.env.cells scope.names [])) s.heap.objs.size X.env = cenv
  have kp : ∀ b o, s.heap.get? b = some o → (pushCells (s.heap.push { cls := .type "dict", data := .dict #[] }) scope.names).get? b = some o := fun b o e => pushCells_keeps _ _ _ _ (Heap.get?_push_of_some _ e)
  have hL : cenv.locals = s.heap.objs.size := by rw [← hcenv]; rfl
  have hcl : cenv.cells = cellsFrom (s.heap.objs.size + 1) scope.names (cloFrom X.env.cells scope.names []) := by rw [← hcenv]; rfl
  have hsc : cenv.scope = relS scope X.env.scope := by rw [← hcenv]; rfl
  rw [← Heap.size_push s.heap { cls := .type "dict", data := .dict #[] }] at hcl
  have cm : ∀ {y c}, (y, c) ∈ cloFrom X.env.cells scope.names [] → X.env.cells.lookup y = some c ∧ c < s.heap.objs.size := fun {y c} hm => by
    rcases cloFrom_mem hm with hm | ⟨h1, rfl⟩
    · cases hm
    · obtain ⟨c, hc⟩ := hfree _ h1 rfl
      rw [hc]
      obtain ⟨w, z⟩ := I.cell _ _ hc
      exact ⟨rfl, z.lt⟩
  have mem : ∀ {y c}, cenv.cells.lookup y = some c → (X.env.cells.lookup y = some c ∧ c < s.heap.objs.size) ∨ (s.heap.objs.size + 1 ≤ c ∧ CellAt (pushCells (s.heap.push { cls := .type "dict", data := .dict #[] }) scope.names) c none) := fun {y c} e => by
    rw [hcl] at e
    rcases cells_mem (PySem.mem_of_lookup e) with hm | ⟨_, h2, h3⟩
    · exact .inl (cm hm)
    · rw [Heap.size_push] at h2; exact .inr ⟨h2, h3⟩
  have look : ∀ {y}, scope.names.lookup y = some .free → ∃ c, cenv.cells.lookup y = some c ∧ X.env.cells.lookup y = some c := fun {y} hl => by
    have hy : (y, NameKind.free) ∈ scope.names := PySem.mem_of_lookup hl
    obtain ⟨c', e'⟩ := mem_lookup (cells_acc (names := scope.names) (n := (s.heap.push { cls := .type "dict", data := .dict #[] }).objs.size) (cloFrom_has (cells := X.env.cells) (acc := []) hy))
    rw [← hcl] at e'
    refine ⟨c', e', ?_⟩
    rw [hcl] at e'
    rcases cells_mem (PySem.mem_of_lookup e') with hm | ⟨h1, _, _⟩
    · exact (cm hm).1
    · have := ok.uniq _ h1
      rw [hl] at this; cases this
  have okB : (X.blk s H scope cenv fp).Ok := by
    refine ⟨I.ok.mod, by show cenv.scope.kind = _; rw [hsc]; exact ok.kind, by show cenv.globals = _; rw [← hcenv]; exact I.ok.glob, by show cenv.builtins = _; rw [← hcenv]; exact I.ok.blt, by show s.heap.objs.size ≤ cenv.locals; rw [hL]; exact Nat.le_refl _,
      fun y z c e1 e2 => ?_, fun y hy => ?_, fun y c z e => ?_, I.ok.hd, I.ok.frames, .inl rfl, fun b hb => ⟨?_, fun y c e z => ?_⟩, I.bs, Nat.le_trans I.ok.bsz I.sz, fun b o e hb => ?_, fun b hb z => ?_, I.stack, I.stkFree⟩
    · have e1 : cenv.cells.lookup y = some c := e1
      have e2 : cenv.cells.lookup z = some c := e2
      rw [hcl] at e1 e2
      refine cells_inj (fun p hp => ?_) (fun y z c a b => I.ok.inj y z c (cm a).1 (cm b).1) (PySem.mem_of_lookup e1) (PySem.mem_of_lookup e2)
      rw [Heap.size_push]
      exact Nat.lt_succ_of_lt (cm (y := p.1) (c := p.2) hp).2
    · show ∃ c, cenv.cells.lookup y = some c
      have key : ∀ k, cenv.kindOf y = some k → (k = .cell ∨ k = .free) → ∃ c, cenv.cells.lookup y = some c := fun k hk hk' => by
        unfold Env.kindOf at hk
        rw [hsc] at hk
        obtain ⟨k', e, r⟩ := lookup_relS hk
        have : k' = .cell ∨ k' = .free := by
          rcases r with rfl | ⟨rfl, _⟩
          · exact hk'
          · exact .inr rfl
        rcases this with rfl | rfl
        · obtain ⟨c, hm⟩ := cells_has (n := (s.heap.push { cls := .type "dict", data := .dict #[] }).objs.size) (acc := cloFrom X.env.cells scope.names []) (PySem.mem_of_lookup e)
          obtain ⟨c', e'⟩ := mem_lookup hm
          exact ⟨c', by rw [hcl]; exact e'⟩
        · obtain ⟨c, h1, _⟩ := look e
          exact ⟨c, h1⟩
      rcases hy with hy | hy
      · exact key _ hy (.inl rfl)
      · exact key _ hy (.inr rfl)
    · have z : (scope.names.lookup y == some NameKind.cell) = true := z
      have z : scope.names.lookup y = some .cell := by simpa using z
      have e : cenv.cells.lookup y = some c := e
      rw [hcl] at e
      rcases cells_mem (PySem.mem_of_lookup e) with hm | ⟨_, h2, _⟩
      · rcases cloFrom_mem hm with hm | ⟨h1, _⟩
        · cases hm
        · have q := ok.uniq _ h1
          rw [z] at q; cases q
      · rw [Heap.size_push] at h2
        exact Nat.le_of_succ_le h2
    · show b ≠ cenv.locals
      rw [hL]; exact Nat.ne_of_lt (hfp b hb).2
    · have e : cenv.cells.lookup y = some c := e
      rcases mem e with ⟨h1, _⟩ | ⟨h1, _⟩
      · exact (hfp b hb).1.2.2.2.2.1 y c h1 z
      · have h2 : s.heap.objs.size + 1 ≤ b := by rw [← z]; exact h1
        exact absurd (Nat.lt_of_lt_of_le (hfp b hb).2 (Nat.le_of_succ_le h2)) (Nat.lt_irrefl _)
    · rcases (hfp b hb).1.2.2.2.1 with z | z
      · exact I.ok.noex b o e z
      · exact absurd (Nat.lt_of_lt_of_le (Heap.lt_size e) (Nat.le_trans I.ok.bsz z)) (Nat.lt_irrefl _)
    · rcases List.mem_cons.mp (I.stkSub b z) with z | z
      · exact (hfp b hb).1.2.1 z
      · exact (hfp b hb).1.2.2.1 z
  refine ⟨okB, rfl, I.bare, Un.kept kp, ⟨fun _ => none, ?_, fun i y av e1 e2 e3 => ?_⟩, fun y c e => ?_, ?_, fun y c e => ?_, fun p hp => ?_, I.hok.kept kp, by rw [wipe_length]; exact I.len⟩
  · show Heap.Ns _ cenv.locals _
    rw [hL]
    exact Heap.Ns.keeps (Heap.Ns.new ..) fun b o e => pushCells_keeps _ _ _ _ e
  · obtain ⟨e2, hne⟩ := wipe_some e2
    have hfr : scope.names.lookup y = some .free ∧ (cenv.kindOf y = some .cell ∨ cenv.kindOf y = some .free) := by
      have key : ∀ k, cenv.scope.names.lookup y = some k → k = .local ∨ k = .cell ∨ k = .free → scope.names.lookup y = some .free ∧ (cenv.kindOf y = some .cell ∨ cenv.kindOf y = some .free) := fun k hk hk' => by
        have hk0 := hk
        rw [hsc] at hk
        obtain ⟨k', e, r⟩ := lookup_relS hk
        have no : ¬ (k' = .local ∨ k' = .cell) := fun hh => by
          rcases ok.own _ (PySem.mem_of_lookup e) hh with e' | e'
          · obtain ⟨p, hp, hpy⟩ := List.mem_map.mp e'
            have e3 := ok.ix p hp
            have : p.1 = y := hpy
            rw [this] at e3
            exact hne (List.mem_map.mpr ⟨p, hp, nodup_ix hN e3 e1⟩)
          · exact e' (List.mem_of_getElem? e1)
        rcases r with rfl | ⟨rfl, rfl⟩
        · rcases hk' with rfl | rfl | rfl
          · exact absurd (.inl rfl) no
          · exact absurd (.inr rfl) no
          · exact ⟨e, .inr hk0⟩
        · exact ⟨e, .inl hk0⟩
      have e3 : Vis cenv.scope y := e3
      rcases e3 with e3 | e3 | e3
      · exact key _ e3 (.inl rfl)
      · exact key _ e3 (.inr (.inl rfl))
      · exact key _ e3 (.inr (.inr rfl))
    obtain ⟨m, hn, hl⟩ := I.loc
    have hvis : Vis X.env.scope y := (ok.free _ (PySem.mem_of_lookup hfr.1) rfl).elim (fun k => .inr (.inl k)) (fun k => .inr (.inr k))
    obtain ⟨w, r, q⟩ := hl i y av e1 e2 hvis
    refine ⟨w, r, .inr ⟨hfr.2, ?_⟩⟩
    obtain ⟨c, h1, h2⟩ := look hfr.1
    rcases q with ⟨k, _⟩ | ⟨_, c', e', z⟩
    · have k : X.env.scope.names.lookup y = some .local := k
      rcases ok.free _ (PySem.mem_of_lookup hfr.1) rfl with k' | k' <;> rw [show X.env.scope.names.lookup y = _ from k'] at k <;> cases k
    · rw [h2] at e'; cases e'
      exact ⟨c, h1, z.keeps kp⟩
  · have e : cenv.cells.lookup y = some c := e
    rcases mem e with ⟨h1, _⟩ | ⟨_, z⟩
    · obtain ⟨w, z⟩ := I.cell y c h1
      exact ⟨w, z.keeps kp⟩
    · exact ⟨_, z⟩
  · show H cenv.locals = none
    rw [hL]; exact I.hok.fresh (Nat.le_refl _)
  · have e : cenv.cells.lookup y = some c := e
    rcases mem e with ⟨h1, _⟩ | ⟨h1, _⟩
    · exact I.freeC y c h1
    · exact I.hok.fresh (Nat.le_of_succ_le h1)
  · exact absurd (show p ∈ ([] : List (Addr × Obj)) ++ [] from hp) (by simp)
theorem app_ok {E : Value → Shared → Prop} {D : Addr} {xs : List V} {y : V} {v : Value} {Q : Value → Shared → Prop} (I : Inv X pins σ H s) (hD : H D = some (.lst xs)) (hz : xs.length < sizeLine) (r : RelV y v)
    (h : ∀ s', Inv X pins σ (upd H D (.lst (xs ++ [y]))) s' → Q .none s') : wpAny (model X.prog X.w) X.A (call (.builtin "list.append") [.ref D, v]) Q E s := by
  obtain ⟨hz', its, n, ri, e⟩ := I.hok D _ hD
  have hl := ri.length
  refine append_at (hsz := by rw [List.size_toArray]; omega) e fun h' sb ho' => ?_
  refine h { s with heap := h' } (I.write (t' := s.toks) (by rw [hD]; trivial) (.inl rfl) (fun b u hb q => (sb.2 b hb).trans q) ⟨_, ho'⟩ ⟨by rw [List.length_append]; exact hz, its ++ [v], n + 1, ri.append (.cons r .nil), ?_⟩)
  rw [ho']
  simp
def PTs (X : Cx) (ifs : List Expr) (t : TT) : Prop :=
  ∀ (pins : List (Addr × Obj)) (s : Shared) (σ : St) (H : Hp) (Q : Bool → Hp → Prop), Inv X pins σ H s → t σ H Q →
    wpAny (model X.prog X.w) X.A (forIn ifs true fun c r => if r = true then do let ok ← isTrue c X.env (eval c X.env); pure (ForInStep.yield ok) else pure (ForInStep.yield r)) (TP X pins σ Q) X.xe s
def tYes : TT := fun _ H Q => Q true H
theorem pts_nil : PTs X [] tYes := fun _ _ _ H _ I h => wpAny_tests_nil ⟨H, I, h⟩
theorem pts_one {c : Expr} {t : TT} (h : PT X c t) : PTs X [c] t := fun pins s σ H Q I hw => wpAny_tests_one (h pins s σ H Q I hw)
end
theorem thnF {α : Type} {t : Sem α} {Q Q' : α → Shared → Prop} {M : Model} {A : Around} {E : Value → Shared → Prop} {s : Shared} (h : wpAny M A t Q (fun _ _ => False) s) (hQ : ∀ a s, Q a s → Q' a s) : wpAny M A t Q' E s := wpAny_mono h hQ fun _ _ z => False.elim z
theorem compLoop_any {prog : Program} {w : World} {A : Around} {R : Result → Shared → Prop} {s : Shared} {elt target iter : Expr} {ifs : List Expr} {scope : Scope} {pos : Pos} {it acc : Value} {env : Env} (I : Nat → Shared → Prop)
    (turn : ∀ n s, I n s → wpAny (model prog w) A (pyNext it) (fun r s₁ => match r with
      | none => R (.ok .next) s₁
      | some v => wpAny (model prog w) A (letOwnedTupleGo target it v) (fun _ s₁' => wpAny (model prog w) A (assign target env v) (fun _ s₂ =>
          wpAny (model prog w) A (forIn ifs true fun c r => if r = true then do let ok ← isTrue c env (eval c env); pure (ForInStep.yield ok) else pure (ForInStep.yield r)) (fun ok s₃ =>
            if ok = true then wpAny (model prog w) A (eval elt env) (fun x s₄ =>
              wpAny (model prog w) A (call (.builtin "list.append") [acc, x]) (fun _ s₅ => ∃ m, m < n ∧ I m s₅) (notedBy (model prog w) A env fun e s' => R (.error e) s') s₄) (notedBy (model prog w) A env fun e s' => R (.error e) s') s₃
            else ∃ m, m < n ∧ I m s₃) (notedBy (model prog w) A env fun e s' => R (.error e) s') s₂) (notedBy (model prog w) A env fun e s' => R (.error e) s') s₁') (notedBy (model prog w) A env fun e s' => R (.error e) s') s₁) (notedBy (model prog w) A env fun e s' => R (.error e) s') s)
    (n : Nat) (h : I n s) :
    codeAny (model prog w) A (.compLoop (.ListComp elt [⟨target, iter, ifs, 0⟩] scope pos) 0 it acc env) R s := by
  refine codeAny_loop rfl I (fun n s hI => ?_) n h
  show wpAny _ A ((compTurn (.ListComp elt [⟨target, iter, ifs, 0⟩] scope pos) 0 it acc env).onRaise (fun x => do noteFrame x env; theTreesLotGoes x)) _ _ s
  refine wpAny_noted ?_
  rw [compTurn_list]
  refine wpAny_bind (wpAny_standAt (wpAny_bind (wpAny_mono (turn n s hI) (fun r s₁ h₁ => ?_) fun _ _ h' => h')))
  cases r with
  | none => exact wpAny_pure h₁
  | some v =>
    refine wpAny_bind (wpAny_mono h₁ (fun _ s₁' h₁' => ?_) fun _ _ h' => h')
    refine wpAny_bind (wpAny_mono h₁' (fun _ s₂ h₂ => wpAny_bind (wpAny_mono h₂ (fun ok s₃ h₃ => ?_) fun _ _ h' => h')) fun _ _ h' => h')
    cases ok with
    | false => exact wpAny_pure ⟨rfl, h₃⟩
    | true =>
      exact wpAny_bind (wpAny_bind (wpAny_mono h₃ (fun x s₄ h₄ => wpAny_bind (wpAny_mono h₄ (fun _ s₅ h₅ => wpAny_pure (wpAny_pure ⟨rfl, h₅⟩)) fun _ _ h' => h')) fun _ _ h' => h'))
section
variable {X : Cx}
def tLc (wi : TI) (g : TG) (tt : TT) (te : TE) (vs : List Nat) : TE := fun σ H Q => wi σ H fun J H1 => ∀ D, H1 D = none → ∃ W : Nat → Nat → Hp → Prop, (∃ m, W 0 m (upd H1 D (.lst []))) ∧ ∀ i m H, W i m H →
  (J.stop i H ∧ Q (.ref D) H) ∨ (J.go i H ∧ ∃ Nx : Hp → Prop, (∀ H', Nx H' → ∃ m', m' < m ∧ W (i + 1) m' H') ∧ ∀ x H', J.yld i H x H' → g x (wipe σ vs) H' fun σ2 H2 => wipe σ2 vs = wipe σ vs ∧ tt σ2 H2 fun b H3 =>
    if b = true then te σ2 H3 fun y H4 => ∃ acc, H4 D = some (.lst acc) ∧ acc.length < sizeLine ∧ Nx (upd H4 D (.lst (acc ++ [y]))) else Nx H3)
theorem lc_core {pins : List (Addr × Obj)} {s : Shared} {σ : St} {H : Hp} {Q : VK} {elt tg iter : Expr} {ifs : List Expr} {scope : Scope} {own : List (Str × Nat)} {pos pos' : Pos} {wi : TI} {g : TG} {tt : TT} {te : TE} {use : Option (Value → Sem Unit)} {Qf : Value → Shared → Prop}
    (hc : X.calm = true) (hN : X.N.Nodup) (I : Inv X pins σ H s) (hi : PI X tg iter wi) (ok : BlkOk X.N X.env.scope scope own)
    (hg : ∀ (s : Shared) (H : Hp) (C : Addr) (cl : List (Str × Addr)) (fp : List Addr), PG (X.blk s H scope (compEnvC scope cl C X.env) fp) tg g) (ht : ∀ (s : Shared) (H : Hp) (C : Addr) (cl : List (Str × Addr)) (fp : List Addr), PTs (X.blk s H scope (compEnvC scope cl C X.env) fp) ifs tt)
    (he : ∀ (s : Shared) (H : Hp) (C : Addr) (cl : List (Str × Addr)) (fp : List Addr), PE (X.blk s H scope (compEnvC scope cl C X.env) fp) elt te) (hs : ∀ x, foldedSetIterable iter X.env x = pure x)
    (h : tLc wi g tt te (own.map (·.2)) σ H Q)
    (hRR : ∀ D C s' m H', Inv X pins σ H' s' → Q (.ref D) H' → s'.heap.Ns C m → FpOk X pins H' C → compPost (model X.prog X.w) X.A X.xe use Qf (.ref D) C (.ok .next) s') :
    wpAny (model X.prog X.w) X.A (comprehension (.ListComp elt [⟨tg, iter, ifs, 0⟩] scope pos) scope X.env pos' (newList []) false (eval iter X.env) use) Qf X.xe s := by
  have hfree : ∀ y ∈ scope.names, y.2 = .free → ∃ c, X.env.cells.lookup y.1 = some c := fun y hy e => by
    rcases ok.free y hy e with k | k
    · exact I.ok.has _ (.inl k)
    · exact I.ok.has _ (.inr k)
  refine wpAny_comprehension_free (use := use) rfl hs (closure_ok hfree) ok.kind (fun y hy e => by rw [ok.uniq y hy, e])
    (thn (hi pins s σ H _ I h) fun xv s1 hx => thn hx fun itv s2 h2 => ?_)
  obtain ⟨it, fp, tn, J, H2, e, I2, T, st2, f2, q⟩ := h2
  subst e
  refine wpAny_newObj_type (newEnv_comp ?_) (by show 0 ≤ sizeLine; decide)
  generalize hD : s2.heap.objs.size = D
  have hDn : H2 D = none := I2.hok.fresh (Nat.le_of_eq hD)
  obtain ⟨W, ⟨m0, w0⟩, turn⟩ := q D hDn
  -- the new list
  generalize hs3 : ({ s2 with heap := s2.heap.push { cls := .type "list", data := .seq ([] : List Value).toArray } } : Shared) = s3
  have I3 : Inv X pins σ (upd H2 D (.lst [])) s3 := by
    rw [← hs3]
    refine I2.laid (t' := s2.toks) (fun b o e => Heap.get?_push_of_some _ e) (Nat.le_of_eq hD) ⟨Nat.zero_le _, [], 0, .nil, ?_⟩
    rw [← hD]
    exact Heap.get?_push_size _ rfl
  have h3 : s3.heap = s2.heap.push { cls := .type "list", data := .seq ([] : List Value).toArray } := by rw [← hs3]
  have sz : ∀ b ∈ fp, b < s2.heap.objs.size := fun b hb => by
    obtain ⟨o, e, _⟩ := T.obj _ _ st2 b hb
    exact Heap.lt_size e
  have f3 : ∀ b ∈ fp, FpOk X pins (upd H2 D (.lst [])) b ∧ b < s3.heap.objs.size := fun b hb => by
    have hlt := sz b hb
    refine ⟨⟨?_, (f2 b hb).2⟩, by rw [h3, Heap.size_push]; exact Nat.lt_succ_of_lt hlt⟩
    rw [upd_ne (by rw [← hD]; exact Nat.ne_of_lt hlt)]
    exact (f2 b hb).1
  have st3 : tn 0 s3.heap := T.keep _ _ _ st2 fun b _ o e => by rw [h3]; exact Heap.get?_push_of_some _ e
  have I4 := block_start I3 ok hN f3
  have pg := hg s3 (upd H2 D (.lst [])) s3.heap.objs.size (cellsFrom (s3.heap.objs.size + 1) scope.names (cloFrom X.env.cells scope.names [])) fp
  have pt := ht s3 (upd H2 D (.lst [])) s3.heap.objs.size (cellsFrom (s3.heap.objs.size + 1) scope.names (cloFrom X.env.cells scope.names [])) fp
  have pe := he s3 (upd H2 D (.lst [])) s3.heap.objs.size (cellsFrom (s3.heap.objs.size + 1) scope.names (cloFrom X.env.cells scope.names [])) fp
  show codeAny _ _ (.compStart (.ListComp elt [⟨tg, iter, ifs, 0⟩] scope pos) 0 (.ref it) (.ref D) (compEnvC scope (cellsFrom (s3.heap.objs.size + 1) scope.names (cloFrom X.env.cells scope.names [])) s3.heap.objs.size X.env)) (compPost (model X.prog X.w) X.A X.xe use Qf (.ref D) s3.heap.objs.size) { s3 with heap := pushCells (s3.heap.push { cls := .type "dict", data := .dict #[] }) scope.names }
  have nfp : ∀ b ∈ fp, (upd H2 D (.lst [])) b = none := fun b hb => (f3 b hb).1.1
  generalize hce : compEnvC scope (cellsFrom (s3.heap.objs.size + 1) scope.names (cloFrom X.env.cells scope.names [])) s3.heap.objs.size X.env = ce at I4 pg pt pe ⊢
  have cL : ce.locals = s3.heap.objs.size := by subst hce; rfl
  generalize hH3 : upd H2 D (.lst []) = H3 at I3 I4 pg pt pe w0 nfp f3
  generalize hs4 : ({ s3 with heap := pushCells (s3.heap.push { cls := .type "dict", data := .dict #[] }) scope.names } : Shared) = s4 at I4 ⊢
  have st4 : tn 0 s4.heap := T.keep _ _ _ st3 fun b _ o e => by rw [← hs4]; exact pushCells_keeps _ _ _ _ (Heap.get?_push_of_some _ e)
  have stat : ∀ {σ' : St} {H' : Hp} {s' : Shared}, Inv (X.blk s3 H3 scope ce fp) [] σ' H' s' → (∀ b ∈ fp, H' b = none) → ∀ b ∈ fp, FpOk (X.blk s3 H3 scope ce fp) [] H' b := fun {σ' H' s'} I' hn b hb =>
    ⟨hn b hb, (I'.ok.exf b hb).1, I'.ok.exfs b hb, .inl hb, fun x c e => (I'.ok.exf b hb).2 x c e, fun p hp => absurd (show p ∈ ([] : List (Addr × Obj)) ++ [] from hp) (by simp)⟩
  have loop : codeAny (model X.prog X.w) X.A (.compLoop (.ListComp elt [⟨tg, iter, ifs, 0⟩] scope pos) 0 (.ref it) (.ref D) ce) (compPost (model X.prog X.w) X.A X.xe use Qf (.ref D) s3.heap.objs.size) s4 := by
    refine compLoop_any (fun n s' => ∃ i H', Inv (X.blk s3 H3 scope ce fp) [] (wipe σ (own.map (·.2))) H' s' ∧ tn i s'.heap ∧ (∀ b ∈ fp, H' b = none) ∧ W i n H') ?_ m0 ⟨0, H3, I4, st4, nfp, w0⟩
    rintro n s5 ⟨i, H5, I5, st5, n5, w5⟩
    rcases turn i n H5 w5 with ⟨stop, qq⟩ | ⟨go, Nx, hNx, step⟩
    · have td := T.done (X.blk s3 H3 scope ce fp) rfl rfl rfl hc i [] s5 _ H5 (fun _ _ => False) I5 (stat I5 n5) st5 stop
      refine thnF td fun r s6 ⟨hr, I6⟩ => ?_
      subst hr
      -- back in the def's context
      have I7 : Inv X pins σ H5 s6 := I3.call' (ch := fp) I6.os I6.base I6.hok I6.bare fun b hb => ⟨(f3 b hb).1.2.2.2.1, (f3 b hb).1.2.1, (f3 b hb).1.2.2.2.2.1, (f3 b hb).1.2.2.2.2.2⟩
      have nC : H5 s3.heap.objs.size = none := by
        have z : H5 ce.locals = none := I6.free
        rw [cL] at z
        exact z
      obtain ⟨m, hn, _⟩ := I6.loc
      have hn : s6.heap.Ns ce.locals m := hn
      rw [cL] at hn
      exact hRR D s3.heap.objs.size s6 m H5 I7 qq hn (I3.fpOk (Nat.le_refl _) nC)
    · have ti := T.item (X.blk s3 H3 scope ce fp) rfl rfl rfl hc i [] s5 _ H5 (fun _ _ => False) I5 (stat I5 n5) st5 go
      refine thnF ti fun r s6 ⟨u, hr, h6⟩ => ?_
      subst hr
      refine thnF h6 fun _ s7 ⟨x, H7, I7, r7, y7, st7, n7⟩ => ?_
      have I7' := I7.pinned (stat I7 n7) (T.obj _ _ st7)
      refine thnF (pg _ s7 _ H7 x u _ I7' r7 (step x H7 y7)) fun _ s8 ⟨σ8, H8, I8, hw8, q8⟩ => ?_
      refine thnF (pt _ s8 σ8 H8 _ I8 q8) fun b s9 ⟨H9, I9, q9⟩ => ?_
      -- the turn's end
      have fin : ∀ {s' : Shared} {H' : Hp}, Inv (X.blk s3 H3 scope ce fp) ([] ++ pinsAt fp s7.heap) σ8 H' s' → Nx H' → ∃ m, m < n ∧ ∃ i H', Inv (X.blk s3 H3 scope ce fp) [] (wipe σ (own.map (·.2))) H' s' ∧ tn i s'.heap ∧ (∀ b ∈ fp, H' b = none) ∧ W i m H' := fun {s' H'} I' nx => by
        obtain ⟨m', hm, w'⟩ := hNx H' nx
        have pin' : ∀ b ∈ fp, ∀ o, s7.heap.get? b = some o → s'.heap.get? b = some o ∧ H' b = none := fun b hb o e =>
          let z := I'.pin (b, o) (List.mem_append_right _ (List.mem_append_right _ (mem_pinsAt hb e)))
          ⟨z.1, z.2.1⟩
        have hl : (wipe σ (own.map (·.2))).length = σ8.length := by rw [← hw8, wipe_length]
        refine ⟨m', hm, i + 1, H', (I'.unpinned (pins := [])).weak hl (fun j v e => ?_), T.keep _ _ _ st7 fun b hb o e => (pin' b hb o e).1, fun b hb => ?_, w'⟩
        · rw [← hw8] at e
          exact (wipe_some e).1
        · obtain ⟨o, e, _⟩ := T.obj _ _ st7 b hb
          exact (pin' b hb o e).2
      cases b with
      | false =>
        simp only [Bool.false_eq_true, if_false] at q9 ⊢
        exact fin I9 q9
      | true =>
        simp only [if_true] at q9 ⊢
        refine thnF (pe _ s9 σ8 H9 _ I9 q9) fun z s10 ⟨yv, H10, I10, r10, acc, hD10, hz10, nx⟩ => ?_
        exact app_ok (X := X.blk s3 H3 scope ce fp) I10 hD10 hz10 r10 fun s11 I11 => fin I11 nx
  exact codeAny_compStart_list loop (T.self X.A 0 _ _ _ st4 loop)
theorem pe_lc {elt tg iter : Expr} {ifs : List Expr} {scope : Scope} {own : List (Str × Nat)} {pos : Pos} {wi : TI} {g : TG} {tt : TT} {te : TE} (hc : X.calm = true) (hN : X.N.Nodup) (hi : PI X tg iter wi) (ok : BlkOk X.N X.env.scope scope own)
    (hg : ∀ (s : Shared) (H : Hp) (C : Addr) (cl : List (Str × Addr)) (fp : List Addr), PG (X.blk s H scope (compEnvC scope cl C X.env) fp) tg g) (ht : ∀ (s : Shared) (H : Hp) (C : Addr) (cl : List (Str × Addr)) (fp : List Addr), PTs (X.blk s H scope (compEnvC scope cl C X.env) fp) ifs tt)
    (he : ∀ (s : Shared) (H : Hp) (C : Addr) (cl : List (Str × Addr)) (fp : List Addr), PE (X.blk s H scope (compEnvC scope cl C X.env) fp) elt te) (hs : ∀ x, foldedSetIterable iter X.env x = pure x := by intro _; rfl) :
    PE X (.ListComp elt [⟨tg, iter, ifs, 0⟩] scope pos) (tLc wi g tt te (own.map (·.2))) := by
  intro pins s σ H Q I h
  rw [eval_ListComp]
  refine lc_core hc hN I hi ok hg ht he hs h fun D C s' m H' I' q hn f => ⟨m, hn, fun h'' sb => ?_⟩
  obtain ⟨f0, f1, f2, f3, f4, f5⟩ := f
  exact ⟨.ref D, H', I'.turned (t' := s'.toks) (fun b o hb e => (sb.2 b hb).trans e) f0 f1 f3 f4 f5, rfl, q⟩
theorem ps_setLc {i : Nat} {y : Str} {py : Pos} {elt tg iter : Expr} {ifs : List Expr} {scope : Scope} {own : List (Str × Nat)} {pos spos : Pos} {wi : TI} {g : TG} {tt : TT} {te : TE} (hc : X.calm = true) (hN : X.N.Nodup) (hy : X.N[i]? = some y) (hyl : X.env.scope.names.lookup y = some .local)
    (hsw : swapsWith (.ListComp elt [⟨tg, iter, ifs, 0⟩] scope pos) (some (.Name y py)) spos.line X.env = pure true) (hi : PI X tg iter wi) (ok : BlkOk X.N X.env.scope scope own)
    (hg : ∀ (s : Shared) (H : Hp) (C : Addr) (cl : List (Str × Addr)) (fp : List Addr), PG (X.blk s H scope (compEnvC scope cl C X.env) fp) tg g) (ht : ∀ (s : Shared) (H : Hp) (C : Addr) (cl : List (Str × Addr)) (fp : List Addr), PTs (X.blk s H scope (compEnvC scope cl C X.env) fp) ifs tt)
    (he : ∀ (s : Shared) (H : Hp) (C : Addr) (cl : List (Str × Addr)) (fp : List Addr), PE (X.blk s H scope (compEnvC scope cl C X.env) fp) elt te) (hs : ∀ x, foldedSetIterable iter X.env x = pure x := by intro _; rfl) :
    PS X (.Assign [.Name y py] (.ListComp elt [⟨tg, iter, ifs, 0⟩] scope pos) spos) (tAsg (tLc wi g tt te (own.map (·.2))) (gName i)) := by
  intro pins s σ H D I h
  rw [exec_Assign_Name_used _ _ _ _ hsw]
  refine wpAny_bind (wpAny_standAt (wpAny_bind ?_))
  show wpAny _ X.A (do let _ ← comprehension (.ListComp elt [⟨tg, iter, ifs, 0⟩] scope pos) scope X.env (firstIterPos [⟨tg, iter, ifs, 0⟩] pos) (newList []) false (eval iter X.env) (some (assign (.Name y py) X.env))) _ _ s
  have h : tLc wi g tt te (own.map (·.2)) σ H (fun x H1 => gName i x σ H1 D.nx) := h
  refine wpAny_bind (thn (lc_core (Qf := fun _ s' => SP X pins D .next s') hc hN I hi ok hg ht he hs h fun L C s' m H' I' q hn f => ?_) fun _ s' hq => wpAny_pure (wpAny_pure hq))
  show wpAny _ _ (assign (.Name y py) X.env (.ref L)) _ _ _
  refine wpAny_assign_Name (store_ok2 (v := V.ref L) I' hN hy (.inl hyl) rfl (fun s2 I2 ⟨a, sb, ha⟩ => ?_) (.inr hyl))
  obtain ⟨f0, f1, f2, f3, f4, f5⟩ := f
  have haC : C ≠ a := by
    rcases ha with z | z
    · rw [z]; exact f1
    · exact fun e => f4 y a z e.symm
  refine ⟨m, hn.sameBut sb haC, fun h3 sb3 => ?_⟩
  exact ⟨_, H', I2.turned (t' := s2.toks) (fun b o hb e => (sb3.2 b hb).trans e) f0 f1 f3 f4 f5, q⟩
theorem sw_true {elt : Expr} {gs : List Comprehension} {scope : Scope} {pos py : Pos} {y : Str} {l : Nat} {env : Env} (hk : env.scope.kind = .function) (hy : env.scope.names.lookup y = some .local) (hl : (py.line == pos.line) = true)
    (ha : (scope.names.any fun (n, k) => n == y && (k == .local || k == .cell)) = false) : swapsWith (.ListComp elt gs scope pos) (some (.Name y py)) l env = pure true := by
  have ky : env.kindOf y = some .local := hy
  have hb : env.blockKind = .function := by unfold Env.blockKind; rw [hk]; rfl
  unfold swapsWith
  simp only [hb, ky, ha, Expr.pos, hl]
  rfl
end
theorem lc_range {lo : Int} {n : Nat} {g : TG} {tt : TT} {te : TE} {vs : List Nat} {σ : St} {H1 : Hp} {D : Addr} {Qd : Hp → Prop} (Pv : Nat → Hp → Prop) (h0 : Pv 0 (upd H1 D (.lst [])))
    (hs : ∀ i H, i < n → Pv i H → g (.int (lo + i)) (wipe σ vs) H fun σ2 H2 => wipe σ2 vs = wipe σ vs ∧ tt σ2 H2 fun b H3 =>
      if b = true then te σ2 H3 fun y H4 => ∃ acc, H4 D = some (.lst acc) ∧ acc.length < sizeLine ∧ Pv (i + 1) (upd H4 D (.lst (acc ++ [y]))) else Pv (i + 1) H3) (hd : ∀ H, Pv n H → Qd H) :
    ∃ W : Nat → Nat → Hp → Prop, (∃ m, W 0 m (upd H1 D (.lst []))) ∧ ∀ i m H, W i m H →
      ((Itr lo n).stop i H ∧ Qd H) ∨ ((Itr lo n).go i H ∧ ∃ Nx : Hp → Prop, (∀ H', Nx H' → ∃ m', m' < m ∧ W (i + 1) m' H') ∧ ∀ x H', (Itr lo n).yld i H x H' → g x (wipe σ vs) H' fun σ2 H2 => wipe σ2 vs = wipe σ vs ∧ tt σ2 H2 fun b H3 =>
        if b = true then te σ2 H3 fun y H4 => ∃ acc, H4 D = some (.lst acc) ∧ acc.length < sizeLine ∧ Nx (upd H4 D (.lst (acc ++ [y]))) else Nx H3) := by
  refine ⟨fun i m H => m = n - i ∧ i ≤ n ∧ Pv i H, ⟨n, by simp, Nat.zero_le _, h0⟩, ?_⟩
  rintro i m H ⟨rfl, hi, p⟩
  by_cases hlt : i < n
  · refine .inr ⟨hlt, Pv (i + 1), fun H' p' => ⟨n - (i + 1), by omega, rfl, hlt, p'⟩, fun x H' y => ?_⟩
    obtain ⟨e, y⟩ := y
    subst e y
    exact hs i _ hlt p
  · have e : i = n := by omega
    subst e
    exact .inl ⟨Nat.le_refl _, hd H p⟩
theorem lc_list {K : PySem.W.Frag} {a : Addr} {xs : List V} {g : TG} {tt : TT} {te : TE} {vs : List Nat} {σ : St} {H1 : Hp} {D : Addr} {Qd : Hp → Prop} (Pv : Nat → Hp → Prop) (h0 : Pv 0 (upd H1 D (.lst []))) (hl : ∀ i H, i ≤ xs.length → Pv i H → SqL K H a xs)
    (hs : ∀ i x H, xs[i]? = some x → Pv i H → g x (wipe σ vs) H fun σ2 H2 => wipe σ2 vs = wipe σ vs ∧ tt σ2 H2 fun b H3 =>
      if b = true then te σ2 H3 fun y H4 => ∃ acc, H4 D = some (.lst acc) ∧ acc.length < sizeLine ∧ Pv (i + 1) (upd H4 D (.lst (acc ++ [y]))) else Pv (i + 1) H3) (hd : ∀ H, Pv xs.length H → Qd H) :
    ∃ W : Nat → Nat → Hp → Prop, (∃ m, W 0 m (upd H1 D (.lst []))) ∧ ∀ i m H, W i m H →
      ((Itl K a).stop i H ∧ Qd H) ∨ ((Itl K a).go i H ∧ ∃ Nx : Hp → Prop, (∀ H', Nx H' → ∃ m', m' < m ∧ W (i + 1) m' H') ∧ ∀ x H', (Itl K a).yld i H x H' → g x (wipe σ vs) H' fun σ2 H2 => wipe σ2 vs = wipe σ vs ∧ tt σ2 H2 fun b H3 =>
        if b = true then te σ2 H3 fun y H4 => ∃ acc, H4 D = some (.lst acc) ∧ acc.length < sizeLine ∧ Nx (upd H4 D (.lst (acc ++ [y]))) else Nx H3) := by
  refine ⟨fun i m H => m = xs.length - i ∧ i ≤ xs.length ∧ Pv i H, ⟨xs.length, by simp, Nat.zero_le _, h0⟩, ?_⟩
  rintro i m H ⟨rfl, hi, p⟩
  have q := hl i H hi p
  by_cases hlt : i < xs.length
  · refine .inr ⟨⟨xs, xs[i], q, by simp [hlt]⟩, Pv (i + 1), fun H' p' => ⟨xs.length - (i + 1), by omega, rfl, hlt, p'⟩, fun x H' y => ?_⟩
    obtain ⟨e, y⟩ := y
    subst e
    exact hs i x _ (y xs q) p
  · have e : i = xs.length := by omega
    subst e
    exact .inl ⟨⟨xs, q, Nat.le_refl _⟩, hd H p⟩
def blkC (N : List Str) (sc scope : Scope) (own : List (Str × Nat)) : Bool :=
  (match scope.kind with | .function => true | _ => false) && (scope.names.all fun y => decide (scope.names.lookup y.1 = some y.2)) && (own.all fun p => decide (N[p.2]? = some p.1)) &&
    (scope.names.all fun y => match y.2 with
      | .free => (match sc.names.lookup y.1 with | some .cell => true | some .free => true | _ => false)
      | .local => decide (y.1 ∈ own.map (·.1)) || decide (y.1 ∉ N)
      | .cell => decide (y.1 ∈ own.map (·.1)) || decide (y.1 ∉ N)
      | _ => true)
theorem blkOk_by {N : List Str} {sc scope : Scope} {own : List (Str × Nat)} (h : blkC N sc scope own = true) : BlkOk N sc scope own := by
  unfold blkC at h
  simp only [Bool.and_eq_true, List.all_eq_true, decide_eq_true_eq] at h
  obtain ⟨⟨⟨h1, h2⟩, h3⟩, h4⟩ := h
  refine ⟨?_, h2, h3, fun y hy e => ?_, fun y hy e => ?_⟩
  · split at h1
    · assumption
    · cases h1
  · have q := h4 y hy
    simp only [e] at q
    split at q <;> first | exact .inl (by assumption) | exact .inr (by assumption) | cases q
  · have q := h4 y hy
    rcases e with e | e <;> (simp only [e, Bool.or_eq_true, decide_eq_true_eq] at q; exact q)
end L2
namespace L2
open PySem PySem.Spec PyProof.Rows
section
variable {prog : Program} {w : World} {A : Around} {R : Result → Shared → Prop} {s : Shared} {elt t0 i0 t1 i1 : Expr} {ifs0 ifs1 : List Expr} {scope : Scope} {pos : Pos} {it acc : Value} {env : Env}
end
section
variable {X : Cx}
end
end L2
namespace L2
open PySem PySem.Spec PyProof.Rows
section
variable {κ : Type} [DecidableEq κ]
def valV (kvs : List (κ × V)) (k : κ) : Option V := (kvs.find? fun kv => decide (kv.1 = k)).map (·.2)
def putK (kvs : List (κ × V)) (k : κ) (v : V) : List (κ × V) :=
  if (kvs.any fun kv => decide (kv.1 = k)) = true then kvs.map (fun kv => if kv.1 = k then (kv.1, v) else kv) else kvs ++ [(k, v)]
theorem valV_pos {p : κ × V} {r : List (κ × V)} {k : κ} (e : p.1 = k) : valV (p :: r) k = some p.2 := by simp [valV, List.find?_cons, e]
theorem valV_neg {p : κ × V} {r : List (κ × V)} {k : κ} (e : ¬ p.1 = k) : valV (p :: r) k = valV r k := by simp [valV, List.find?_cons, e]
theorem valV_any (k : κ) : ∀ kvs : List (κ × V), (kvs.any fun kv => decide (kv.1 = k)) = (valV kvs k).isSome
  | [] => rfl
  | p :: r => by
    rw [List.any_cons]
    by_cases e : p.1 = k
    · simp only [valV_pos e, decide_eq_true e, Bool.true_or, Option.isSome_some]
    · rw [valV_neg e, decide_eq_false e, Bool.false_or]; exact valV_any k r
theorem valV_map (k j : κ) (y : V) : ∀ kvs : List (κ × V), valV (kvs.map fun kv => if kv.1 = k then (kv.1, y) else kv) j = (valV kvs j).map fun x => if j = k then y else x
  | [] => rfl
  | p :: r => by
    have ih := valV_map k j y r
    rw [List.map_cons]
    by_cases h : p.1 = k
    · rw [if_pos h]
      by_cases e : p.1 = j
      · rw [valV_pos (p := (p.1, y)) e, valV_pos e, Option.map_some, if_pos (e.symm.trans h)]
      · rw [valV_neg (p := (p.1, y)) e, valV_neg e, ih]
    · rw [if_neg h]
      by_cases e : p.1 = j
      · rw [valV_pos (p := p) e, valV_pos e, Option.map_some, if_neg (fun z => h (e.trans z))]
      · rw [valV_neg (p := p) e, valV_neg e, ih]
theorem valV_snoc (k j : κ) (y : V) : ∀ kvs : List (κ × V), valV kvs k = none → valV (kvs ++ [(k, y)]) j = if j = k then some y else valV kvs j
  | [], _ => by
    by_cases e : k = j
    · rw [if_pos e.symm]; exact valV_pos (p := (k, y)) e
    · rw [if_neg (fun z => e z.symm)]; exact valV_neg (p := (k, y)) e
  | p :: r, hn => by
    rw [List.cons_append]
    have hk : ¬ p.1 = k := fun z => by rw [valV_pos z] at hn; cases hn
    rw [valV_neg hk] at hn
    have ih := valV_snoc k j y r hn
    by_cases e : p.1 = j
    · rw [valV_pos e, valV_pos e, if_neg (fun z => hk (e.trans z))]
    · rw [valV_neg e, valV_neg e, ih]
theorem valV_put (kvs : List (κ × V)) (k j : κ) (y : V) : valV (putK kvs k y) j = if j = k then some y else valV kvs j := by
  unfold putK
  by_cases a : (kvs.any fun kv => decide (kv.1 = k)) = true
  · rw [if_pos a, valV_map]
    rw [valV_any] at a
    by_cases e : j = k
    · obtain ⟨x, hx⟩ := Option.isSome_iff_exists.mp a
      rw [if_pos e, e, hx, Option.map_some, if_pos rfl]
    · rw [if_neg e]
      cases valV kvs j with
      | none => rfl
      | some x => rw [Option.map_some, if_neg e]
  · rw [if_neg a]
    refine valV_snoc k j y kvs ?_
    rw [valV_any] at a
    cases q : valV kvs k with
    | none => rfl
    | some x => rw [q] at a; exact (a rfl).elim
theorem length_putK (kvs : List (κ × V)) (k : κ) (v : V) : (putK kvs k v).length ≤ kvs.length + 1 := by
  unfold putK
  split
  · rw [List.length_map]; omega
  · rw [List.length_append, List.length_cons, List.length_nil]; omega
theorem putK_new {kvs : List (κ × V)} {k : κ} (v : V) (h : valV kvs k = none) : putK kvs k v = kvs ++ [(k, v)] := by
  unfold putK
  rw [valV_any, h]
  exact if_neg (by decide)
theorem RelO.isSome_eq {o : Option V} {u : Option Value} (r : RelO o u) : o.isSome = u.isSome := by
  cases o with
  | none => cases u with
    | none => rfl
    | some _ => exact (show False from r).elim
  | some _ => cases u with
    | none => exact (show False from r).elim
    | some _ => rfl
theorem RelO.getD {o : Option V} {u : Option Value} {d : V} {d' : Value} (r : RelO o u) (rd : RelV d d') : RelV (o.getD d) (u.getD d') := by
  cases o with
  | none => cases u with
    | none => exact rd
    | some _ => exact (show False from r).elim
  | some _ => cases u with
    | none => exact (show False from r).elim
    | some _ => exact r
theorem KV.val {kvs : List (κ × V)} {vs : List (κ × Value)} (r : KV kvs vs) (k : κ) : RelO (valV kvs k) (valueAt vs k) := by
  unfold KV at r
  induction r with
  | nil => exact True.intro
  | @cons p q ps qs h t ih =>
    obtain ⟨h1, h2⟩ := h
    by_cases e : p.1 = k
    · have e' : q.1 = k := h1.symm.trans e
      have b : valueAt (q :: qs) k = some q.2 := by simp [valueAt, List.find?_cons, e']
      rw [valV_pos e, b]; exact h2
    · have e' : ¬ q.1 = k := fun z => e (h1.trans z)
      have b : valueAt (q :: qs) k = valueAt qs k := by simp [valueAt, List.find?_cons, e']
      rw [valV_neg e, b]; exact ih
theorem KV.any {kvs : List (κ × V)} {vs : List (κ × Value)} (r : KV kvs vs) (k : κ) : (kvs.any fun kv => decide (kv.1 = k)) = vs.any fun kv => decide (kv.1 = k) := by
  unfold KV at r
  induction r with
  | nil => rfl
  | cons h t ih => rw [List.any_cons, List.any_cons, ih, h.1]
theorem KV.repl {kvs : List (κ × V)} {vs : List (κ × Value)} (r : KV kvs vs) (k : κ) {y : V} {u : Value} (ry : RelV y u) :
    KV (kvs.map fun kv => if kv.1 = k then (kv.1, y) else kv) (vs.map fun kv => if kv.1 = k then (kv.1, u) else kv) := by
  unfold KV at r ⊢
  induction r with
  | nil => exact .nil
  | @cons p q ps qs h t ih =>
    rw [List.map_cons, List.map_cons]
    refine .cons ?_ ih
    obtain ⟨h1, h2⟩ := h
    by_cases e : p.1 = k
    · rw [if_pos e, if_pos (h1.symm.trans e)]; exact ⟨h1, ry⟩
    · rw [if_neg e, if_neg (fun z => e (h1.trans z))]; exact ⟨h1, h2⟩
theorem KV.put {kvs : List (κ × V)} {vs : List (κ × Value)} (r : KV kvs vs) (k : κ) {y : V} {u : Value} (ry : RelV y u) : KV (putK kvs k y) (stored vs k u) := by
  unfold putK stored
  rw [r.any k]
  by_cases e : (vs.any fun kv => decide (kv.1 = k)) = true
  · rw [if_pos e, if_pos e]; exact r.repl k ry
  · rw [if_neg e, if_neg e]; exact Paired.snoc r ⟨rfl, ry⟩
theorem KV.length {kvs : List (κ × V)} {vs : List (κ × Value)} (r : KV kvs vs) : kvs.length = vs.length := Paired.length r
end
theorem kV_is {P : Program} {w : World} {k : Key} {u : Value} (r : RelV (kV k) u) : (mixKind P w).is k u = true := by
  cases k with
  | inl i => obtain ⟨t, e⟩ := (show ∃ t, u = Value.int i t from r); subst e; exact mixKind_int P w i t
  | inr x => obtain ⟨t, e⟩ := (show ∃ t, u = Value.str x t from r); subst e; exact mixKind_str P w x t
theorem items_are {P : Program} {w : World} : ∀ {ks : List Key} {us : List Value}, Vals (ks.map kV) us → ItemsAre (mixKind P w) ks us
  | [], _, r => by rw [List.map_nil] at r; cases r; exact .nil
  | k :: ks, _, r => by
    rw [List.map_cons] at r
    cases r with
    | cons h t => exact .cons (kV_is h) (items_are t)
abbrev KT (H : Hp) : List (List Key × V) → List (List Key × Addr × Value) → Prop := Paired fun p q => p.1 = q.1 ∧ H q.2.1 = some (.tup (p.1.map kV)) ∧ RelV p.2 q.2.2
theorem KT.val {H : Hp} {kvs : List (List Key × V)} {xs : List (List Key × Addr × Value)} (r : KT H kvs xs) (k : List Key) : RelO (valV kvs k) ((atKey xs k).map (·.2)) := by
  induction r with
  | nil => exact True.intro
  | @cons p q ps qs h t ih =>
    obtain ⟨h1, _, h2⟩ := h
    by_cases e : p.1 = k
    · have e' : q.1 = k := h1.symm.trans e
      have b : atKey (q :: qs) k = some q.2 := by simp [atKey, List.find?_cons, e']
      rw [valV_pos e, b]; exact h2
    · have e' : ¬ q.1 = k := fun z => e (h1.trans z)
      have b : atKey (q :: qs) k = atKey qs k := by simp [atKey, List.find?_cons, e']
      rw [valV_neg e, b]; exact ih
theorem KT.repl {H : Hp} {kvs : List (List Key × V)} {xs : List (List Key × Addr × Value)} (r : KT H kvs xs) (k : List Key) {y : V} {u : Value} (ry : RelV y u) :
    KT H (kvs.map fun kv => if kv.1 = k then (kv.1, y) else kv) (xs.map (putAt k u)) := by
  induction r with
  | nil => exact .nil
  | @cons p q ps qs h t ih =>
    rw [List.map_cons, List.map_cons]
    refine .cons ?_ ih
    obtain ⟨h1, h2, h3⟩ := h
    unfold putAt
    by_cases e : p.1 = k
    · rw [if_pos e, if_pos (h1.symm.trans e)]; exact ⟨h1, h2, ry⟩
    · rw [if_neg e, if_neg (fun z => e (h1.trans z))]; exact ⟨h1, h2, h3⟩
theorem KT.put {H : Hp} {kvs : List (List Key × V)} {xs : List (List Key × Addr × Value)} (r : KT H kvs xs) (k : List Key) {b : Addr} {y : V} {u : Value} (hb : H b = some (.tup (k.map kV))) (ry : RelV y u) :
    KT H (putK kvs k y) (storedH xs k b u) := by
  have e : (kvs.any fun kv => decide (kv.1 = k)) = (atKey xs k).isSome := by
    rw [valV_any, (r.val k).isSome_eq, Option.isSome_map]
  unfold putK storedH
  rw [e]
  by_cases q : (atKey xs k).isSome = true
  · rw [if_pos q, if_pos q]; exact r.repl k ry
  · rw [if_neg q, if_neg q]; exact Paired.snoc r ⟨rfl, hb, ry⟩
theorem KT.keeps {H H' : Hp} {kvs : List (List Key × V)} {xs : List (List Key × Addr × Value)} (r : KT H kvs xs) (ht : ∀ b ys, H b = some (.tup ys) → H' b = some (.tup ys)) : KT H' kvs xs :=
  Paired.mapP r fun _ _ z => ⟨z.1, ht _ _ z.2.1, z.2.2⟩
section
variable {P : Program} {w : World} {H : Hp} {h : Heap} {a : Addr}
theorem rd_of {u : HO} (ok : HOk P w H h) (e : Rd H a u) : ObjOk P w H h a u := e.ok ok
theorem dk_rd {kvs : List (Key × V)} (ok : HOk P w H h) (e : Rd H a (.dK kvs)) : kvs.length ≤ sizeLine ∧ (a == sysModules) = false ∧ ∃ vs, KV kvs vs ∧ h.DictOf (mixKind P w) a vs :=
  show ObjOk P w H h a (.dK kvs) from rd_of ok e
theorem dk_of {kvs : List (Key × V)} (ok : HOk P w H h) (e : H a = some (.dK kvs)) : kvs.length ≤ sizeLine ∧ (a == sysModules) = false ∧ ∃ vs, KV kvs vs ∧ h.DictOf (mixKind P w) a vs := dk_rd ok (.inl e)
theorem key_of {ks : List Key} (ok : HOk P w H h) (e : H a = some (.tup (ks.map kV))) : (tupleKind (mixKind P w)).is h ks a := by
  obtain ⟨_, its, r, o, h1, h2, n, h3⟩ := (show ObjOk P w H h a (.tup (ks.map kV)) from ok a _ e)
  exact ⟨o, its.toArray, n, h1, h2, h3, by simpa using items_are r⟩
theorem dt_rd {kvs : List (List Key × V)} (ok : HOk P w H h) (e : Rd H a (.dT kvs)) : kvs.length ≤ sizeLine ∧ (a == sysModules) = false ∧
    ∃ xs, KT H kvs xs ∧ h.DictOfH (tupleKind (mixKind P w)) a xs := by
  obtain ⟨z, y, xs, r, o, es, ep, h1, h2, h3, h4, h5⟩ := (show ObjOk P w H h a (.dT kvs) from rd_of ok e)
  refine ⟨z, y, xs, r, o, es, ep, h1, h2, h3, h4, fun x hx => ?_, h5⟩
  have all : ∀ {l : List (List Key × V)} {m : List (List Key × Addr × Value)}, KT H l m → ∀ x ∈ m, (tupleKind (mixKind P w)).is h x.1 x.2.1 := by
    intro l m q
    induction q with
    | nil => intro x hx; exact nomatch hx
    | @cons p q ps qs hq t ih =>
      intro x hx
      rcases List.mem_cons.mp hx with e | hx
      · subst e
        exact key_of ok (by rw [← hq.1]; exact hq.2.1)
      · exact ih x hx
  exact all r x hx
theorem dt_of {kvs : List (List Key × V)} (ok : HOk P w H h) (e : H a = some (.dT kvs)) : kvs.length ≤ sizeLine ∧ (a == sysModules) = false ∧
    ∃ xs, KT H kvs xs ∧ h.DictOfH (tupleKind (mixKind P w)) a xs := dt_rd ok (.inl e)
end
def DGet (H : Hp) (a : Addr) (y : V) (r : Option V) : Prop :=
  (∃ kvs k, Rd H a (.dK kvs) ∧ y = kV k ∧ r = valV kvs k) ∨ ∃ kvs k b, Rd H a (.dT kvs) ∧ y = .ref b ∧ H b = some (.tup (k.map kV)) ∧ r = valV kvs k
def DPut (H : Hp) (a : Addr) (y v : V) (H' : Hp) : Prop :=
  (∃ kvs k, H a = some (.dK kvs) ∧ y = kV k ∧ kvs.length < sizeLine ∧ H' = upd H a (.dK (putK kvs k v))) ∨
  ∃ kvs k b, H a = some (.dT kvs) ∧ y = .ref b ∧ H b = some (.tup (k.map kV)) ∧ kvs.length < sizeLine ∧ H' = upd H a (.dT (putK kvs k v))
theorem DGet.t {H : Hp} {a b : Addr} {kvs : List (List Key × V)} {k : List Key} (e : H a = some (.dT kvs)) (eb : H b = some (.tup (k.map kV))) : DGet H a (.ref b) (valV kvs k) := .inr ⟨kvs, k, b, .inl e, rfl, eb, rfl⟩
theorem DPut.t {H : Hp} {a b : Addr} {kvs : List (List Key × V)} {k : List Key} {v : V} (e : H a = some (.dT kvs)) (eb : H b = some (.tup (k.map kV))) (hl : kvs.length < sizeLine) :
    DPut H a (.ref b) v (upd H a (.dT (putK kvs k v))) := .inr ⟨kvs, k, b, e, rfl, eb, hl, rfl⟩
section
variable {X : Cx} {pins : List (Addr × Obj)} {σ : St} {H : Hp} {s : Shared} {a : Addr} {y v : V} {u r : Value} {o : Option V} {A : Around} {E : Value → Shared → Prop}
theorem Inv.big (I : Inv X pins σ H s) : sysModules < s.heap.objs.size := by
  have h : mainGlobals < s.heap.objs.size := (I.mod.glob.keeps I.bk).lt
  exact Nat.lt_trans (by decide) h
theorem d_write {h' : Heap} {t' : Nat} {ob : HO} (I : Inv X pins σ H s) (mu : Mut (H a)) (hs : Heap.SameBut a s.heap h') (he : ∃ q, h'.get? a = some q) (new : ObjOk X.prog X.w (upd H a ob) h' a ob) :
    Inv X pins σ (upd H a ob) { s with heap := h', toks := t' } :=
  I.write (x := a) (e := a) mu (.inl rfl) (fun b q hb z => (hs.2 b hb).trans z) he new
theorem dk_new {P : Program} {w : World} {H' : Hp} {h' : Heap} {kvs : List (Key × V)} {vs : List (Key × Value)} (z : kvs.length ≤ sizeLine) (hd : (a == sysModules) = false) (rel : KV kvs vs) (dd : h'.DictOf (mixKind P w) a vs) :
    ObjOk P w H' h' a (.dK kvs) := ⟨z, hd, vs, rel, dd⟩
theorem d_setItem {H' : Hp} {Q : Unit → Shared → Prop} (hu : A.units + 1 < cLine) (I : Inv X pins σ H s) (g : DPut H a y v H') (ry : RelV y u) (rv : RelV v r) (h : ∀ s', Inv X pins σ H' s' → Q () s') :
    wpAny (model X.prog X.w) A (setItem (.ref a) u r) Q E s := by
  rcases g with ⟨kvs, k, e, ey, l, eH⟩ | ⟨kvs, k, b, e, ey, eb, l, eH⟩
  · subst ey eH
    obtain ⟨z, hd, vs, rel, dd⟩ := dk_of I.hok e
    have hz : vs.length ≤ sizeLine := by rw [← rel.length]; exact z
    have hl : (putK kvs k v).length ≤ sizeLine := by have := length_putK kvs k v; omega
    refine wpAny_setItem_pairs (hsz := hz) (kV_is ry) dd fun h' dd' hs => h _ ?_
    have he : ∃ q, h'.get? a = some q := let ⟨q, _, _, hq, _⟩ := dd'; ⟨q, hq⟩
    exact d_write I (by rw [e]; exact True.intro) hs he (dk_new hl hd (rel.put k rv) dd')
  · subst ey eH
    cases (show u = Value.ref b from ry)
    obtain ⟨z, hd, xs, rel, dd⟩ := dt_of I.hok e
    have hz : xs.length ≤ sizeLine := by rw [← Paired.length rel]; exact z
    have hl : (putK kvs k v).length ≤ sizeLine := by have := length_putK kvs k v; omega
    refine wpAny_setItem_heap (hsz := hz) (tupleKind_room_in1 hu) (key_of I.hok eb) dd fun h' dd' hs => h _ ?_
    obtain ⟨q, es, ep, hq, h2, h3, h4, _, h5⟩ := dd'
    refine d_write I (by rw [e]; exact True.intro) hs ⟨q, hq⟩ ⟨hl, hd, _, (rel.put k eb rv).keeps fun c ys ec => ?_, q, es, ep, hq, h2, h3, h4, h5⟩
    rw [upd_ne (ne_of ec e (fun z => nomatch z))]
    exact ec
end
section
variable {X : Cx} {pins : List (Addr × Obj)} {σ : St} {H : Hp} {s : Shared} {a : Addr} {kvs : List (Key × V)} {k : Key} {u : Value} {A : Around} {E : Value → Shared → Prop}
end
def sDPut (td ty tv : TE) : TS := fun D σ H => tv σ H fun v H1 => td σ H1 fun x H2 => ty σ H2 fun y H3 => ∃ a H4, x = .ref a ∧ DPut H3 a y v H4 ∧ D.nx σ H4
section
variable {X : Cx} {o i e value : Expr} {pos pos' tpos : Pos} {td ty tv : TE}
theorem ps_dput (hu : X.A.units + 1 < cLine) (ho : PE X o td) (hi : PE X i ty) (hv : PE X value tv) (hs : swapsWith value (some (.Subscript o i pos')) pos.line X.env = pure false) :
    PS X (.Assign [.Subscript o i pos'] value pos) (sDPut td ty tv) := by
  intro pins s σ H D I h
  refine wpAny_Assign_Subscript (thn (hv pins s σ H _ I h) fun r s1 ⟨v, H1, I1, rv, q1⟩ => thn (ho pins s1 σ H1 _ I1 q1) fun u s2 ⟨x, H2, I2, rx, q2⟩ => thn (hi pins s2 σ H2 _ I2 q2) fun iv s3 ⟨y, H3, I3, ry, a, H4, ex, g, q3⟩ => ?_) hs
  subst ex
  obtain rfl : u = Value.ref a := rx
  exact d_setItem hu I3 g ry rv fun s4 I4 => ⟨σ, H4, I4, q3⟩
end
theorem dt_empty {P : Program} {w : World} {H : Hp} (h : Heap) (hb : sysModules < h.objs.size) : ObjOk P w H (h.push { cls := .type "dict", data := .dict #[] }) h.objs.size (.dT []) :=
  ⟨Nat.zero_le _, beq_eq_false_iff_ne.mpr (Ne.symm (Nat.ne_of_lt hb)), [], .nil, _, #[], 0, Heap.get?_push_size _ rfl, ⟨rfl, rfl, rfl⟩, rfl, rfl, List.nodup_nil⟩
def tDNewT : TE := fun _ H Q => ∀ p, H p = none → Q (.ref p) (upd H p (.dT []))
section
variable {X : Cx} {pos : Pos}
theorem pe_dnewT : PE X (.Dict [] [] pos) tDNewT := fun pins s σ H Q I h =>
  wpAny_Dict_empty ⟨.ref s.heap.objs.size, _, I.laid (a := s.heap.objs.size) (o := .dT []) (t' := s.toks) (fun _ _ q => Heap.get?_push_of_some _ q) (Nat.le_refl _) (dt_empty s.heap I.big), rfl, h _ (I.hok.fresh (Nat.le_refl _))⟩
end
structure M1 (X : Cx) (o : Expr) (m : Str) (apos : Pos) (e : Expr) (cpos : Pos) : Prop where
  base : attributeBase o m X.env (eval o X.env) = eval o X.env
  few : ((backTo cpos (starEach [e] X.env)).all (fun x => !x.1) && (backToKw cpos (keywordEach [] X.env)).all (fun x => x.1.isSome)
    && decide (([e] : List Expr).length + ([] : List Keyword).length + (if ([] : List Keyword).isEmpty then 0 else 1) < 30)) = true
  line : (apos.endLine == cpos.line) = true
  trees : backTo cpos (starEach [e] X.env) = [(false, eval e X.env)]
def IsD (H : Hp) (a : Addr) : Prop := (∃ kvs, Rd H a (.dK kvs)) ∨ ∃ kvs, Rd H a (.dT kvs)
theorem isD_at {X : Cx} {pins : List (Addr × Obj)} {σ : St} {H : Hp} {s : Shared} {a : Addr} (I : Inv X pins σ H s) (d : IsD H a) :
    s.TypeIs (.ref a) "dict" ∧ (∀ b, Value.ref a = .ref b → ∃ ob, s.heap.get? b = some ob ∧ ob.dict = none) ∧ (a == sysModules) = false := by
  rcases d with ⟨kvs, e⟩ | ⟨kvs, e⟩
  · obtain ⟨_, hd, vs, _, dd⟩ := dk_rd I.hok e
    refine ⟨dd.typeIs, fun b q => ?_, hd⟩
    cases q
    obtain ⟨ob, _, _, h1, h2, _⟩ := dd
    exact ⟨ob, h1, h2.2.1⟩
  · obtain ⟨_, hd, xs, _, dd⟩ := dt_rd I.hok e
    refine ⟨dd.typeIs, fun b q => ?_, hd⟩
    cases q
    obtain ⟨ob, _, _, h1, h2, _⟩ := dd
    exact ⟨ob, h1, h2.2.1⟩
section
variable {X : Cx} {pins : List (Addr × Obj)} {σ : St} {H : Hp} {s : Shared} {a : Addr} {y d : V} {u r : Value} {o : Option V} {A : Around} {E : Value → Shared → Prop}
theorem d_get1 {Q : Value → Shared → Prop} (hu : A.units + 1 < cLine) (I : Inv X pins σ H s) (g : DGet H a y o) (ry : RelV y u) (h : ∀ w' s', Inv X pins σ H s' → RelV (o.getD .non) w' → Q w' s') :
    wpAny (model X.prog X.w) A (call (.builtin "dict.get") [.ref a, u]) Q E s := by
  rcases g with ⟨kvs, k, e, ey, l⟩ | ⟨kvs, k, b, e, ey, eb, l⟩
  · subst ey
    obtain ⟨z, hd, vs, rel, dd⟩ := dk_rd I.hok e
    refine call_meetsIn PySem.F.slot_dict_get dd.typeIs PySem.F.entry_dict_get (PySem.F.args_dict_get_2 _ _) (meets_dict_get (mixKind X.prog X.w) a (kV_is ry) hd) ⟨_, dd.mapOf, h _ _ (I.tok _) ?_⟩
    rw [l]
    exact (rel.val k).getD rfl
  · subst ey
    cases (show u = Value.ref b from ry)
    obtain ⟨z, hd, xs, rel, dd⟩ := dt_rd I.hok e
    refine call_meetsIn PySem.F.slot_dict_get dd.typeIs PySem.F.entry_dict_get (PySem.F.args_dict_get_2 _ _) (meetsH_dict_get (tupleKind (mixKind X.prog X.w)) a b hd) ⟨tupleKind_room_in1 hu, k, xs, key_of I.hok eb, dd, h _ _ (I.tok _) ?_⟩
    rw [l]
    exact (rel.val k).getD rfl
end
def tDGet1 (td ty : TE) : TE := fun σ H Q => td σ H fun x H1 => ∃ a, x = .ref a ∧ IsD H1 a ∧ ty σ H1 fun y H2 => ∃ o, DGet H2 a y o ∧ Q (o.getD .non) H2
section
variable {X : Cx} {o e f : Expr} {apos cpos : Pos} {td ty tx : TE}
theorem pe_dget1 (hu : X.A.units + 1 < cLine) (ho : PE X o td) (he : PE X e ty) (m : M1 X o "get" apos e cpos) : PE X (.Call (.Attribute o "get" apos) [e] [] cpos) (tDGet1 td ty) := by
  intro pins s σ H Q I h
  refine wpAny_Call_method m.base m.few m.line PySem.F.plainAttrs_dict PySem.F.slot_dict_get PySem.F.type_dict_get (thn (ho pins s σ H _ I h) fun u s1 ⟨x, H1, I1, rx, a, ex, d, q1⟩ => ?_)
  subst ex
  obtain rfl : u = Value.ref a := rx
  obtain ⟨t1, t2, _⟩ := isD_at I1 d
  refine ⟨t1, t2, ?_⟩
  rw [m.trees]
  refine Calls.callWith_builtin rfl (Calls.evalArgs_plain (Calls.spliced_cons (thn (he pins s1 σ H1 _ I1 q1) fun iv s2 ⟨y, H2, I2, ry, ov, g, q2⟩ => Calls.spliced_nil ?_)))
  exact d_get1 hu I2 g ry fun w' s3 I3 rw' => ⟨_, H2, I3, rw', q2⟩
end
section
variable {X : Cx} {pins : List (Addr × Obj)} {σ : St} {H : Hp} {s : Shared} {a : Addr} {kvs : List (Key × V)} {A : Around} {E : Value → Shared → Prop}
end
section
variable {X : Cx} {pins : List (Addr × Obj)} {σ : St} {H : Hp} {s : Shared} {a : Addr} {y : V} {u : Value} {A : Around} {E : Value → Shared → Prop}
end
end L2
namespace L2
open PySem PySem.Spec PyProof.Rows
section
variable {prog : Program} {w : World} {A : Around} {E : Value → Shared → Prop}
end
section
variable {X : Cx}
end
end L2
namespace L2
open PySem PySem.Spec PyProof.Rows
section
variable {X : Cx} {pins : List (Addr × Obj)} {σ : St} {H : Hp} {s : Shared} {h' : Heap}
theorem Inv.turnedNew {t' : Nat} {ch : List Addr} {T : Addr} {ob : HO} (I : Inv X pins σ H s) (k : ∀ b o, b ∉ ch → s.heap.get? b = some o → h'.get? b = some o) (hf : ∀ b ∈ ch, FpOk X pins H b) (hT : s.heap.objs.size ≤ T)
    (new : ObjOk X.prog X.w (upd H T ob) h' T ob) : Inv X pins σ (upd H T ob) { s with heap := h', toks := t' } := by
  have hn : H T = none := I.hok.fresh hT
  have nit : ∀ b u, H b = some u → b ∉ ch := fun b u e z => by
    have q := (hf b z).1
    rw [q] at e; cases e
  refine I.step (g' := s.gens) (d' := s.drawn) (ch := ch) (fun b hb => ⟨(hf b hb).2.2.2.1, (hf b hb).2.1, (hf b hb).2.2.2.2.1, (hf b hb).2.2.2.2.2⟩) (fun b o _ _ hc e _ => k b o hc e) (fun b o _ _ hc e _ => ⟨o.slots, k b o hc e⟩)
    (fun b o _ e n => ?_) (fun b o hc e => ⟨o, k b o hc e⟩) (fun b xs e => ?_) (fun b o u e => ?_) (fun b ps e => ⟨#[], ?_⟩) (fun m hm => ?_) (fun b u e => ?_) I.bare
  · rw [upd_ne (Nat.ne_of_lt (Nat.lt_of_lt_of_le (Heap.lt_size e) hT))]; exact n
  · rw [upd_ne (ne_of_none e hn)]; exact e
  · rw [upd_ne (ne_of_none e hn)]; exact e
  · rw [upd_ne (ne_of_none e hn), e]; simp
  · obtain ⟨o, es, ep, ho, r⟩ := hm
    exact ⟨o, es, ep, k _ o (fun z => (hf _ z).2.1 rfl) ho, r⟩
  · by_cases hb : b = T
    · subst hb
      rw [upd_same] at e
      cases e
      exact new
    · rw [upd_ne hb] at e
      refine (I.hok b u e).stay (fun c v hc q => k c v ?_ q) (fun c q => by rw [upd_ne (ne_of_none q hn)]; exact q) fun c xs q => by rw [upd_ne (ne_of_none q hn)]; exact q
      rcases hc with z | z
      · rw [z]; exact nit b u e
      · exact nit c _ z
end
section
variable {X : Cx}
theorem pi_one {tg : Expr} {pins : List (Addr × Obj)} {σ : St} {H : Hp} {s : Shared} {R : It → Hp → Prop} {J : It} {tn : Nat → Heap → Prop} {tk : Nat} (I : Inv X pins σ H s) (o : Obj)
    (T : Turn X.prog X.w X.K tg J [s.heap.objs.size] s.heap.objs.size tn) (st : tn 0 (s.heap.push o)) (q : R J H) : PIE X pins σ tg R (.ref s.heap.objs.size) { s with heap := s.heap.push o, toks := tk } := by
  refine ⟨s.heap.objs.size, [s.heap.objs.size], tn, J, H, rfl, I.kept fun b ob e => Heap.get?_push_of_some _ e, T, st, fun b hb => ?_, q⟩
  have e : b = s.heap.objs.size := by simpa using hb
  subst e
  exact I.fpOk (Nat.le_refl _) (I.hok.fresh (Nat.le_refl _))
end
def Itc (lo c : Int) (n : Nat) : It := ⟨fun i _ => i < n, fun i H x H' => H' = H ∧ x = .int (lo + (i : Nat) * c), fun i _ => n ≤ i⟩
theorem turn_rangeC {P : Program} {w : World} {K : PySem.W.Frag} {tg : Expr} (it : Addr) (lo c : Int) (n : Nat) : Turn P w K tg (Itc lo c n) [it] it (fun i h => IsRangeIter h it (lo + (i : Nat) * c) ((n : Int) - (i : Nat)) c) where
  mem := by simp
  obj := fun i h st b hb => by
    have e : b = it := by simpa using hb
    subst e
    exact ⟨_, st, fun v z => nomatch z⟩
  keep := fun i h h' st k => k it (by simp) _ st
  item := by
    intro X hP hw hK hc i pins s σ H E I hf st hg
    subst hP hw hK
    obtain ⟨f0, f1, f2, f3, f4, f5⟩ := hf it (by simp)
    have W := Walks.range (prog := X.prog) (w := X.w) (I.ok.hd hc) it lo c n
    refine W.item i s _ _ hg st fun v h' tk hv st' kk => ?_
    obtain ⟨t, rfl⟩ := hv
    have I1 : Inv X pins σ H { s with heap := h', toks := tk } := I.turned (fun b o hb e => kk b o (by simpa using hb) e) f0 f1 f3 f4 f5
    exact ⟨_, rfl, go_of (s := { s with heap := h', toks := tk }) (n := "range_iterator") st' rfl rfl (by decide) ⟨.int (lo + (i : Nat) * c), H, I1, ⟨t, rfl⟩, ⟨rfl, rfl⟩, st', fun b hb => (hf b hb).1⟩⟩
  done := by
    intro X hP hw hK hc i pins s σ H E I hf st hg
    subst hP hw hK
    obtain ⟨f0, f1, f2, f3, f4, f5⟩ := hf it (by simp)
    exact wpAny_pyNext_range_end (I.ok.hd hc) st (by have : n ≤ i := hg; omega) fun h' eb => ⟨rfl, I.turned (t' := s.toks) (fun b o hb e => eb b o hb e) f0 f1 f3 f4 f5⟩
  self := fun A i s Q E st h => wpAny_pyIter_rangeiter st h
def RgC (i j c : Int) (n : Nat) : Prop := c ≠ 0 ∧ c.natAbs < 1073741824 ∧ Builtin.Range.small i j c = true ∧ Builtin.Range.rangeSize i j c = n
def iRng3 (ta : TA) : TI := fun σ H R => ta σ H fun vs H1 => ∃ (i j c : Int) (n : Nat), vs = [.int i, .int j, .int c] ∧ RgC i j c n ∧ R (Itc i c n) H1
section
variable {X : Cx} {tg : Expr}
theorem pi_range3 {a b c : Expr} {ta : TA} {p pos : Pos} (hg : Gl X "range") (hm : X.mg "range" = none) (ha : PA X [a, b, c] ta)
    (hs : starEach [a, b, c] X.env = (false, eval a X.env) :: starEach [b, c] X.env := by rfl) (hpl : (backTo pos (starEach [b, c] X.env)).any (·.1) = false := by rfl) :
    PI X tg (.Call (.Name "range" p) [a, b, c] [] pos) (iRng3 ta) := by
  intro pins s σ H R I h
  refine Call_ (ld_blt I hg hm boot_range (PyProof.Rows.callWith_type1 (thn (ha pos pins s σ H _ I h) fun us s1 ⟨vs, H1, I1, r1, q1⟩ => ?_) hs hpl))
  obtain ⟨i, j, k, n, e, ⟨c0, c1, c2, c3⟩, q⟩ := q1
  subst e
  cases r1 with
  | cons r rr =>
    cases rr with
    | cons r' rr =>
      cases rr with
      | cons r'' rr =>
        cases rr
        obtain ⟨t, rfl⟩ := r
        obtain ⟨t', rfl⟩ := r'
        obtain ⟨t'', rfl⟩ := r''
        refine call_range_3 c0 ?_ (.inl (PyProof.noPylong_small c1))
        refine wpAny_pyIter_range (IsRange.new ..) c2 ?_
        have I2 : Inv X pins σ H1 { s1 with heap := s1.heap.push { cls := .type "range", data := .fields #[.int i t, .int j t', .int k t''] } } := I1.kept (t' := s1.toks) fun b o e => Heap.get?_push_of_some _ e
        refine pi_one (tk := s1.toks) I2 _ (turn_rangeC _ i k n) ?_ q
        have e1 : i + ((0 : Nat) : Int) * k = i := by simp
        have e2 : (n : Int) - ((0 : Nat) : Int) = Builtin.Range.rangeSize i j k := by rw [c3]; simp
        show IsRangeIter _ _ (i + ((0 : Nat) : Int) * k) ((n : Int) - ((0 : Nat) : Int)) k
        rw [e1, e2]
        exact Heap.get?_push_size _ rfl
end
section
variable {X : Cx} {tg : Expr}
end
section
variable {prog : Program} {w : World} {A : Around} {E : Value → Shared → Prop} {s : Shared}
end
section
variable {X : Cx} {pins : List (Addr × Obj)} {σ : St} {H : Hp} {s : Shared} {d : Addr} {o : Obj}
end
section
variable {P : Program} {w : World} {K : PySem.W.Frag} {tg : Expr} {d : Addr} {o : Obj} {es : Array DictEntry} {ep : Nat}
end
section
variable {X : Cx} {tg e : Expr} {td : TE} {apos cpos : Pos}
end
def Ite (K : PySem.W.Frag) (a : Addr) : It :=
  ⟨fun i H => ∃ (xs : List V) (x : V), SqL K H a xs ∧ xs[i]? = some x, fun i H v H' => ∃ T x, v = .ref T ∧ H T = none ∧ H' = upd H T (.tup [.int (i : Nat), x]) ∧ ∀ xs, SqL K H a xs → xs[i]? = some x, fun i H => ∃ xs : List V, SqL K H a xs ∧ xs.length ≤ i⟩
theorem turn_enum {P : Program} {w : World} {K : PySem.W.Frag} {elts : List Expr} {kk : Nat} {tpos : Pos} (a e it : Addr) :
    Turn P w K (.Tuple elts kk tpos) (Ite K a) [e, it] e (fun i h => (∃ old, IsEnum h e it ((i : Nat) : Int) old) ∧ h.IsListIter it a i ∧ e ≠ it) where
  mem := by simp
  obj := fun i h st b hb => by
    obtain ⟨⟨old, he⟩, ⟨o, ho, hc, hd⟩, _⟩ := st
    have e' : b = e ∨ b = it := by simpa using hb
    rcases e' with z | z
    · rw [z]; exact ⟨_, he, fun v q => nomatch q⟩
    · rw [z]; exact ⟨o, ho, fun v q => by rw [hd] at q; cases q⟩
  keep := fun i h h' st k => let ⟨⟨old, he⟩, hi, hne⟩ := st; ⟨⟨old, k e (by simp) _ he⟩, hi.at fun o q => k it (by simp) o q, hne⟩
  item := by
    intro X hP hw hK hc i pins s σ H E I hf st hg
    subst hP hw hK
    obtain ⟨⟨old, he⟩, hit, hne⟩ := st
    obtain ⟨xs, x, hq, hx⟩ := hg
    obtain ⟨its, rv, p, hz⟩ := I.list hq
    obtain ⟨u, hu, ru⟩ := rv.get hx
    have hel : e < s.heap.objs.size := Heap.lt_size he
    have hil : it < s.heap.objs.size := by obtain ⟨_, q, _⟩ := hit; exact Heap.lt_size q
    refine wpAny_pyNext_enum_item he hit p.isList (x := u) (by simpa using hu) hne fun h' ho hit' hT hsz hk => ?_
    refine ⟨_, rfl, wpAny_letOwnedTupleGo_enum (s := { s with heap := h', toks := s.toks + 1 }) ho fun h'' he' sb => ?_⟩
    have hT2 : h''.get? s.heap.objs.size = some { cls := .type "tuple", data := .seq #[.int i s.toks, u] } := (sb.2 _ (Nat.ne_of_gt hel)).trans hT
    have new : ObjOk X.prog X.w (upd H s.heap.objs.size (.tup [.int (i : Nat), x])) h'' s.heap.objs.size (.tup [.int (i : Nat), x]) :=
      ⟨by show 2 ≤ sizeLine; decide, [.int i s.toks, u], .cons ⟨_, rfl⟩ (.cons ru .nil), ⟨_, hT2, rfl, _, rfl⟩⟩
    have I1 : Inv X pins σ (upd H s.heap.objs.size (.tup [.int (i : Nat), x])) { s with heap := h'', toks := s.toks + 1 } :=
      I.turnedNew (ch := [e, it]) (fun b ob hb q => (sb.2 b (fun z => hb (by simp [z]))).trans (hk b ob (fun z => hb (by simp [z])) (fun z => hb (by simp [z])) q)) hf (Nat.le_refl _) new
    refine ⟨.ref s.heap.objs.size, _, I1, rfl, ⟨_, x, rfl, I.hok.fresh (Nat.le_refl _), rfl, fun ys hy => by rw [I.list_inj hy hq]; exact hx⟩, ⟨⟨u, ?_⟩, hit'.at fun o q => (sb.2 it (Ne.symm hne)).trans q, hne⟩, fun b hb => ?_⟩
    · have e1 : ((i + 1 : Nat) : Int) = (i : Int) + 1 := by omega
      rw [e1]; exact he'
    · have hb' : b < s.heap.objs.size := by
        have e' : b = e ∨ b = it := by simpa using hb
        rcases e' with z | z
        · rw [z]; exact hel
        · rw [z]; exact hil
      rw [upd_ne (Nat.ne_of_lt hb')]
      exact (hf b hb).1
  done := by
    intro X hP hw hK hc i pins s σ H E I hf st hg
    subst hP hw hK
    obtain ⟨⟨old, he⟩, hit, hne⟩ := st
    obtain ⟨xs, hq, hx⟩ := hg
    obtain ⟨its, rv, p, hz⟩ := I.list hq
    obtain ⟨f0, f1, f2, f3, f4, f5⟩ := hf it (by simp)
    have hl := rv.length
    exact wpAny_pyNext_enum_end (I.ok.hd hc) he hit p.isList (by simp; omega) fun h' eb => ⟨rfl, I.turned (t' := s.toks) (fun b o hb q => eb b o hb q) f0 f1 f3 f4 f5⟩
  self := fun A i s Q E st h => let ⟨⟨_, he⟩, _⟩ := st; wpAny_pyIter_enum he h
def iEnum (K : PySem.W.Frag) (ta : TA) : TI := fun σ H R => ta σ H fun vs H1 => ∃ a xs, vs = [.ref a] ∧ SqL K H1 a xs ∧ R (Ite K a) H1
theorem pi_enum {X : Cx} {e : Expr} {ta : TA} {p pos tpos : Pos} {elts : List Expr} {kk : Nat} (hg : Gl X "enumerate") (hm : X.mg "enumerate" = none) (ha : PA X [e] ta) (hs : starEach [e] X.env = [(false, eval e X.env)] := by rfl) :
    PI X (.Tuple elts kk tpos) (.Call (.Name "enumerate" p) [e] [] pos) (iEnum X.K ta) := by
  intro pins s σ H R I h
  refine Call_ (ld_blt I hg hm boot_enumerate (PyProof.Rows.callWith_type1 (thn (ha pos pins s σ H _ I h) fun us s1 ⟨vs, H1, I1, r1, q1⟩ => ?_) hs rfl))
  obtain ⟨a, xs, ex, hq, q⟩ := q1
  subst ex
  cases r1 with
  | cons r rr =>
    cases rr
    cases r
    obtain ⟨its, rv, p', hz⟩ := I1.list hq
    refine call_enumerate_list p'.isList fun h' he hit hsz hk => wpAny_pyIter_enum he ?_
    have I2 : Inv X pins σ H1 { s1 with heap := h' } := I1.kept (t' := s1.toks) hk
    refine ⟨s1.heap.objs.size + 1, [s1.heap.objs.size + 1, s1.heap.objs.size], _, _, H1, rfl, I2, turn_enum a (s1.heap.objs.size + 1) s1.heap.objs.size, ⟨⟨.none, he⟩, hit, Nat.succ_ne_self _⟩, fun b hb => ?_, q⟩
    have e' : b = s1.heap.objs.size + 1 ∨ b = s1.heap.objs.size := by simpa using hb
    have hle : s1.heap.objs.size ≤ b := by
      rcases e' with z | z
      · rw [z]; exact Nat.le_add_right _ _
      · rw [z]; exact Nat.le_refl _
    exact I1.fpOk hle (I1.hok.fresh hle)
end L2
section 
namespace Bits
open PySem PyProof.Rows
end Bits
end 
section 
namespace TL
open PySem PySem.Builtin PySem.Builtin.Str PySem.StrLaws
end TL
end 
namespace L2
open PySem PySem.Spec PyProof.Rows
section
variable {X : Cx} {pins : List (Addr × Obj)} {σ : St} {H : Hp} {s : Shared} {Q : VK}
end
section
variable {X : Cx}
end
section
variable {X : Cx} {o e : Expr} {to te : TE}
end
end L2
namespace L2
open PySem PySem.Spec PyProof.Rows
section
variable {X : Cx}
end
end L2
namespace Att
open PySem PySem.W PySem.Calls PyProof.Rows
theorem ints_of_wellAll {P : Params} {h : Heap} : ∀ (ns : List Int) (vs : List Value), WellAll P h vs (ns.map WData.int) → IntsAre vs ns := by
  intro ns
  induction ns with
  | nil =>
    intro vs w
    rw [List.map_nil] at w
    cases w
    exact .nil
  | cons n ns ih =>
    intro vs w
    rw [List.map_cons] at w
    cases w with
    | cons a b =>
      cases a
      exact .cons _ _ (ih _ b)
section
variable {prog : Program} {w : World} {A : Around} {E : Value → Shared → Prop} {s : Shared} {K : Frag}
end
end Att
namespace L2
open PySem PySem.Spec PyProof.Rows
theorem vals_ints : ∀ {vs : List Value} {ns : List Int}, IntsAre vs ns → Vals (ns.map V.int) vs
  | _, _, .nil => .nil
  | _, _, .cons n t h => .cons ⟨t, rfl⟩ (vals_ints h)
def Only (H : Hp) : Prop := ∀ b, H b = none ∨ ∃ o xs, H b = some (.frz o (.lst xs))
end L2
namespace L2
open PySem PySem.Spec PyProof.Rows
end L2
namespace L2
open PySem PySem.Spec PyProof.Rows
def inClass (s : Stmt) (j : Nat) : Stmt := match s with
  | .ClassDef _ _ _ body _ _ _ _ _ _ _ => body.getD j (.Pass ⟨0, 0, 0, 0⟩)
  | _ => .Pass ⟨0, 0, 0, 0⟩
def defArgs (s : Stmt) : Arguments := match s with
  | .FunctionDef _ a _ _ _ _ _ _ _ _ => a
  | _ => { posonlyargs := [], args := [], vararg := none, kwonlyargs := [], kw_defaults := [], kwarg := none, defaults := [] }
def defBody (s : Stmt) : List Stmt := match s with
  | .FunctionDef _ _ b _ _ _ _ _ _ _ => b
  | _ => []
def defScope (s : Stmt) : Scope := match s with
  | .FunctionDef _ _ _ _ _ _ sc _ _ _ => sc
  | _ => { kind := .function, names := [], isGenerator := false, isCoroutine := false }
abbrev CX0 : CXT := fun _ _ _ _ _ _ => False
abbrev E0 : XK := fun _ _ _ => False
theorem pass0 {X : Cx} : Passes CX0 X E0 := fun _ _ _ _ _ _ _ h => h.elim
structure Fun (K : PySem.W.Frag) (x qual : Str) (st : Stmt) (f : Addr) (fd : FuncData) : Prop where
  ex : ∃ (oc : Value) (od : Option Addr) (kV doc pm : Value) (an : Option Addr) (cdv ct : Value) (osl : Array (Option Value)),
    fd = PySem.W.fnOf x qual (defArgs st) (defBody st) (defScope st) .none kV doc pm an cdv ct ∧ K.lookup f = some ⟨oc, od, .func fd, osl⟩ ∧ PySem.W.codeIn K cdv qual = true
  kp : PySem.W.keepIn K (.ref f) = true
section
variable {P : Program} {w : World} {K : PySem.W.Frag} {mg : Str → Option Value} {base : Heap}
theorem Fun.ok {x qual : Str} {st : Stmt} {f : Addr} {fd : FuncData} {N ps : List Str} {k : Nat} {sp : Sp} (F : Fun K x qual st f fd) (S : FnScope N ps (defScope st)) (len : ∀ vs H Q E, sp vs H Q E → vs.length = ps.length)
    (hbody : ∀ (cdv : Value) (A : Around) (outer : List Env) (s : Shared) (H : Hp) (vs : List V) (Q : VK) (E : XK), Room k (A.deeper (envOfC qual (defScope st) s.heap.objs.size f cdv)) → sp vs H Q E →
      ∃ t, PSs (cxOf CX0 P w K mg base N qual (defScope st) f cdv A outer s H E).nox (defBody st) t ∧ t { nx := fun _ H' => Q .non H', rt := Q } (start N vs) H) : FnOk P w K mg base CX0 (k + 1) f fd ps sp := by
  obtain ⟨oc, od, kV, doc, pm, an, cdv, ct, osl, rfl, lk, hcd⟩ := F.ex
  refine fn_of lk hcd S len fun A outer s H vs Q E hr hsp => ?_
  obtain ⟨t, h, q⟩ := hbody cdv A outer s H vs Q E hr hsp
  exact ⟨t, h.nox, q⟩
theorem Fun.binds {x qual : Str} {st : Stmt} {f : Addr} {fd : FuncData} {ps : List Str} (F : Fun K x qual st f fd)
    (h : ∀ (kV doc pm : Value) (an : Option Addr) (cdv ct : Value) (us : List Value), us.length = ps.length → bindArgs (PySem.W.fnOf x qual (defArgs st) (defBody st) (defScope st) .none kV doc pm an cdv ct) ⟨us, []⟩ = pure (ps.zip us)) : Binds K fd ps [] := by
  obtain ⟨oc, od, kV, doc, pm, an, cdv, ct, osl, rfl, lk, hcd⟩ := F.ex
  exact .all (h kV doc pm an cdv ct)
theorem fun_mk {x qual : Str} {st : Stmt} {f : Addr} {oc : Value} {od an : Option Addr} {osl : Array (Option Value)} {kV doc pm cdv ct : Value} (l : K.lookup f = some ⟨oc, od, .func (PySem.W.fnOf x qual (defArgs st) (defBody st) (defScope st) .none kV doc pm an cdv ct), osl⟩)
    (c : PySem.W.codeIn K cdv qual = true) (k : PySem.W.keepIn K (.ref f) = true) : Fun K x qual st f (PySem.W.fnOf x qual (defArgs st) (defBody st) (defScope st) .none kV doc pm an cdv ct) := ⟨⟨oc, od, kV, doc, pm, an, cdv, ct, osl, rfl, l, c⟩, k⟩
end
theorem hu_of {A : Around} {k : Nat} (hr : Room k A) : A.units + 1 < cLine := Nat.lt_of_le_of_lt (Nat.add_le_add_left (by decide : 1 ≤ 64) _) hr.units
theorem small1000 {n : Nat} (h : n ≤ 1000) : n < sizeLine := Nat.lt_of_le_of_lt h (by decide)
section
variable {X : Cx}
theorem pv (i : Nat) {x : Str} {pos : Pos} (hN : X.N[i]? = some x := by rfl) (hv : Vis X.env.scope x := by first | exact Or.inl rfl | exact Or.inr (Or.inl rfl) | exact Or.inr (Or.inr rfl)) (hd : (x == ("__debug__" : Str)) = false := by decide)
    (hcd : (x == ("__classdict__" : Str)) = false := by decide) : PE X (.Name x pos) (tVar i) := pe_var hN hv hd hcd
end
theorem iteF {A B : Prop} (h : B) : if false = true then A else B := by
  rw [if_neg Bool.false_ne_true]
  exact h
theorem iteT {A B : Prop} (h : A) : if true = true then A else B := by
  rw [if_pos rfl]
  exact h
def Same (H H' : Hp) : Prop := ∀ b o, H b = some o → H' b = some o
theorem Same.refl (H : Hp) : Same H H := fun _ _ h => h
theorem Same.trans {H H1 H2 : Hp} (a : Same H H1) (b : Same H1 H2) : Same H H2 := fun c o h => b c o (a c o h)
theorem Same.free {H H' : Hp} (e : Same H H') {l : Addr} (h : H' l = Option.none) : H l = Option.none := by
  cases q : H l with
  | none => rfl
  | some o =>
    rw [e l o q] at h
    cases h
section
variable {κ : Type} [DecidableEq κ]
theorem valV_not {kvs : List (κ × V)} {k : κ} (h : valV kvs k = none) : ¬ k ∈ kvs.map (·.1) := by
  intro m
  obtain ⟨p, hp, e⟩ := List.mem_map.mp m
  have q : (kvs.any fun kv => decide (kv.1 = k)) = true := List.any_eq_true.mpr ⟨p, hp, decide_eq_true e⟩
  rw [valV_any, h] at q
  exact absurd q (by simp)
theorem nd_snoc : ∀ {l : List κ} {k : κ}, l.Nodup → ¬ k ∈ l → (l ++ [k]).Nodup
  | [], k, _, _ => by simp
  | a :: r, k, h, hk => by
    obtain ⟨h1, h2⟩ := List.nodup_cons.mp h
    show (a :: (r ++ [k])).Nodup
    refine List.nodup_cons.mpr ⟨fun m => ?_, nd_snoc h2 fun m => hk (List.mem_cons.mpr (Or.inr m))⟩
    rcases List.mem_append.mp m with q | q
    · exact h1 q
    · exact hk (List.mem_cons.mpr (Or.inl (List.mem_singleton.mp q).symm))
theorem nd_putK {kvs : List (κ × V)} {k : κ} (v : V) (hn : (kvs.map (·.1)).Nodup) (h : valV kvs k = none) : ((putK kvs k v).map (·.1)).Nodup := by
  rw [putK_new v h, List.map_append]
  exact nd_snoc hn (valV_not h)
end
end L2
namespace Sq
theorem xor_add_and (m : Nat) : ∀ n : Nat, (m ^^^ n) + 2 * (m &&& n) = m + n := by
  induction m using Nat.strongRecOn with
  | _ m ih =>
    intro n
    by_cases h0 : m = 0
    · subst h0
      simp
    · have ih' := ih (m / 2) (by omega) (n / 2)
      rw [← Nat.xor_div_two, ← Nat.and_div_two] at ih'
      have o1 := @Nat.xor_mod_two_eq_one m n
      have a1 := @Nat.and_mod_two_eq_one m n
      omega
theorem and_le (a b : Nat) : a &&& b ≤ a := Nat.and_le_left
def sub (a b : Nat) : Nat := a - (a &&& b)
theorem sub_xor (a b : Nat) : sub a b = a ^^^ (a &&& b) := by
  have h := xor_add_and a (a &&& b)
  have e : a &&& (a &&& b) = a &&& b := by rw [← Nat.and_assoc, Nat.and_self]
  rw [e] at h
  have := and_le a b
  unfold sub
  omega
theorem tb_sub (a b i : Nat) : (sub a b).testBit i = (a.testBit i && !b.testBit i) := by
  rw [sub_xor, Nat.testBit_xor, Nat.testBit_and]
  cases a.testBit i <;> cases b.testBit i <;> rfl
theorem ext {a b : Nat} (h : ∀ i, a.testBit i = b.testBit i) : a = b := Nat.eq_of_testBit_eq h
theorem ext' {a b : Nat} (h : ∀ i, a.testBit i = true ↔ b.testBit i = true) : a = b := Nat.eq_of_testBit_eq fun i => Bool.eq_iff_iff.mpr (h i)
theorem zero_of {a : Nat} (h : ∀ i, a.testBit i = true → False) : a = 0 := ext' fun i => ⟨fun e => (h i e).elim, fun e => by rw [Nat.zero_testBit] at e; cases e⟩
theorem ne_zero_of {a i : Nat} (h : a.testBit i = true) : a ≠ 0 := fun e => by rw [e, Nat.zero_testBit] at h; cases h
theorem some_bit {a : Nat} (h : a ≠ 0) : ∃ i, a.testBit i = true := Classical.byContradiction fun n => h (zero_of fun i e => n ⟨i, e⟩)
theorem tb_pow (v i : Nat) : (2 ^ v).testBit i = decide (v = i) := Nat.testBit_two_pow
theorem sub_zero_iff {a b : Nat} : sub a b = 0 ↔ ∀ i, a.testBit i = true → b.testBit i = true := by
  constructor
  · intro h i hi
    have := tb_sub a b i
    rw [h, Nat.zero_testBit, hi] at this
    cases q : b.testBit i with
    | true => rfl
    | false => rw [q] at this; cases this
  · intro h
    refine zero_of fun i hi => ?_
    rw [tb_sub] at hi
    have h1 : a.testBit i = true := by cases q : a.testBit i with | true => rfl | false => rw [q] at hi; cases hi
    rw [h1, h i h1] at hi
    cases hi
theorem and_zero_iff {a b : Nat} : a &&& b = 0 ↔ ∀ i, a.testBit i = true → b.testBit i = true → False := by
  constructor
  · intro h i h1 h2
    have := Nat.testBit_and a b i
    rw [h, h1, h2, Nat.zero_testBit] at this
    cases this
  · intro h
    refine zero_of fun i hi => ?_
    rw [Nat.testBit_and, Bool.and_eq_true] at hi
    exact h i hi.1 hi.2
theorem lt_pow_of {a n : Nat} (h : ∀ i, n ≤ i → a.testBit i = false) : a < 2 ^ n := Nat.lt_pow_two_of_testBit a h
theorem bit_lt {a n i : Nat} (h : a < 2 ^ n) (hi : a.testBit i = true) : i < n := by
  refine Classical.byContradiction fun c => ?_
  have := Nat.testBit_lt_two_pow (Nat.lt_of_lt_of_le h (Nat.pow_le_pow_right (by decide) (Nat.le_of_not_lt c)))
  rw [hi] at this; cases this
abbrev Srt (l : List Nat) : Prop := l.Pairwise (· < ·)
theorem srt_ext : ∀ {a b : List Nat}, Srt a → Srt b → (∀ i, i ∈ a ↔ i ∈ b) → a = b
  | [], [], _, _, _ => rfl
  | [], y :: b, _, _, h => by have := (h y).mpr (by simp); simp at this
  | x :: a, [], _, _, h => by have := (h x).mp (by simp); simp at this
  | x :: a, y :: b, ha, hb, h => by
    have ha' := List.pairwise_cons.mp ha
    have hb' := List.pairwise_cons.mp hb
    have exy : x = y := by
      rcases List.mem_cons.mp ((h x).mp (by simp)) with e | e
      · exact e
      · rcases List.mem_cons.mp ((h y).mpr (by simp)) with e' | e'
        · exact e'.symm
        · have := hb'.1 x e
          have := ha'.1 y e'
          omega
    subst exy
    rw [srt_ext ha'.2 hb'.2 fun i => ?_]
    constructor
    · intro hi
      rcases List.mem_cons.mp ((h i).mp (List.mem_cons_of_mem _ hi)) with e | e
      · have := ha'.1 i hi; omega
      · exact e
    · intro hi
      rcases List.mem_cons.mp ((h i).mpr (List.mem_cons_of_mem _ hi)) with e | e
      · have := hb'.1 i hi; omega
      · exact e
theorem srt_range (n : Nat) : Srt (List.range n) := List.pairwise_lt_range
theorem srt_filter {l : List Nat} (p : Nat → Bool) (h : Srt l) : Srt (l.filter p) := h.filter p
theorem srt_nodup {l : List Nat} (h : Srt l) : l.Nodup := h.imp fun h => Nat.ne_of_lt h
def bitsOf (b : Nat) : List Nat := (List.range (b.log2 + 1)).filter fun i => b.testBit i
theorem mem_bitsOf {b i : Nat} : i ∈ bitsOf b ↔ b.testBit i = true := by
  unfold bitsOf
  rw [List.mem_filter, List.mem_range]
  refine ⟨fun h => h.2, fun h => ⟨?_, h⟩⟩
  exact bit_lt (Nat.lt_log2_self) h
theorem srt_bitsOf (b : Nat) : Srt (bitsOf b) := srt_filter _ (srt_range _)
theorem bitsOf_zero : bitsOf 0 = [] := srt_ext (srt_bitsOf 0) List.Pairwise.nil fun i => by rw [mem_bitsOf, Nat.zero_testBit]; simp
theorem bitsOf_nil {b : Nat} (h : bitsOf b = []) : b = 0 := zero_of fun i hi => by have := mem_bitsOf.mpr hi; rw [h] at this; cases this
theorem bitsOf_eq {b : Nat} {l : List Nat} (hl : Srt l) (h : ∀ i, i ∈ l ↔ b.testBit i = true) : bitsOf b = l :=
  srt_ext (srt_bitsOf b) hl fun i => by rw [mem_bitsOf]; exact (h i).symm
theorem pow_bitsOf (v : Nat) : bitsOf (2 ^ v) = [v] := bitsOf_eq (List.pairwise_singleton _ _) fun i => by
  rw [tb_pow, List.mem_singleton, decide_eq_true_iff]; exact eq_comm
theorem and_pred_even (c : Nat) (h : c ≠ 0) : (2 * c) &&& (2 * c - 1) = 2 * (c &&& (c - 1)) := by
  refine ext fun i => ?_
  cases i with
  | zero =>
    have e1 : (2 * c).testBit 0 = false := by rw [Nat.testBit_zero]; simp
    have e2 : (2 * (c &&& (c - 1))).testBit 0 = false := by rw [Nat.testBit_zero]; simp
    rw [Nat.testBit_and, e1, e2]; rfl
  | succ i =>
    have e1 : 2 * c / 2 = c := by omega
    have e2 : (2 * c - 1) / 2 = c - 1 := by omega
    have e3 : 2 * (c &&& (c - 1)) / 2 = c &&& (c - 1) := by omega
    rw [Nat.testBit_and, Nat.testBit_succ, Nat.testBit_succ, Nat.testBit_succ, e1, e2, e3, Nat.testBit_and]
theorem and_pred_odd (c : Nat) : (2 * c + 1) &&& (2 * c + 1 - 1) = 2 * c := by
  refine ext fun i => ?_
  cases i with
  | zero =>
    have e1 : (2 * c + 1 - 1).testBit 0 = false := by rw [Nat.testBit_zero]; simp
    have e2 : (2 * c).testBit 0 = false := by rw [Nat.testBit_zero]; simp
    rw [Nat.testBit_and, e1, e2]; simp
  | succ i =>
    have e1 : (2 * c + 1) / 2 = c := by omega
    have e2 : (2 * c + 1 - 1) / 2 = c := by omega
    have e3 : 2 * c / 2 = c := by omega
    rw [Nat.testBit_and, Nat.testBit_succ, Nat.testBit_succ, Nat.testBit_succ, e1, e2, e3, Bool.and_self]
theorem low_ex : ∀ b : Nat, b ≠ 0 → ∃ l, b.testBit l = true ∧ (∀ i, i < l → b.testBit i = false) ∧ (∀ i, (b &&& (b - 1)).testBit i = (b.testBit i && decide (i ≠ l))) ∧ b - (b &&& (b - 1)) = 2 ^ l := by
  intro b
  induction b using Nat.strongRecOn with
  | _ b ih =>
    intro h
    by_cases hp : b % 2 = 1
    · obtain ⟨c, rfl⟩ : ∃ c, b = 2 * c + 1 := ⟨b / 2, by omega⟩
      refine ⟨0, by rw [Nat.testBit_zero]; simp, fun i hi => by omega, fun i => ?_, ?_⟩
      · rw [and_pred_odd]
        cases i with
        | zero => rw [Nat.testBit_zero]; simp
        | succ i =>
          have e1 : (2 * c + 1) / 2 = c := by omega
          have e3 : 2 * c / 2 = c := by omega
          rw [Nat.testBit_succ, Nat.testBit_succ, e1, e3]; simp
      · rw [and_pred_odd]; simp
    · obtain ⟨c, rfl⟩ : ∃ c, b = 2 * c := ⟨b / 2, by omega⟩
      obtain ⟨l, h1, h2, h3, h4⟩ := ih c (by omega) (by omega)
      have ed : 2 * c / 2 = c := by omega
      refine ⟨l + 1, by rw [Nat.testBit_succ, ed]; exact h1, fun i hi => ?_, fun i => ?_, ?_⟩
      · cases i with
        | zero => rw [Nat.testBit_zero]; simp
        | succ i => rw [Nat.testBit_succ, ed]; exact h2 i (by omega)
      · rw [and_pred_even c (by omega)]
        cases i with
        | zero =>
          have e1 : (2 * c).testBit 0 = false := by rw [Nat.testBit_zero]; simp
          have e2 : (2 * (c &&& (c - 1))).testBit 0 = false := by rw [Nat.testBit_zero]; simp
          rw [e1, e2]; rfl
        | succ i =>
          have e3 : 2 * (c &&& (c - 1)) / 2 = c &&& (c - 1) := by omega
          rw [Nat.testBit_succ, Nat.testBit_succ, ed, e3, h3 i]
          congr 1
          simp
      · rw [and_pred_even c (by omega), Nat.pow_succ, ← h4]
        have := and_le c (c - 1)
        omega
def low (b : Nat) : Nat := (bitsOf b).headD 0
theorem bitsOf_cons {b : Nat} (h : b ≠ 0) : bitsOf b = low b :: bitsOf (b &&& (b - 1)) := by
  obtain ⟨l, h1, h2, h3, _⟩ := low_ex b h
  have key : bitsOf b = l :: bitsOf (b &&& (b - 1)) := by
    refine bitsOf_eq (List.pairwise_cons.mpr ⟨fun j hj => ?_, srt_bitsOf _⟩) fun i => ?_
    · have hj' := mem_bitsOf.mp hj
      rw [h3, Bool.and_eq_true, decide_eq_true_iff] at hj'
      refine Classical.byContradiction fun c => ?_
      have := h2 j (by omega)
      rw [hj'.1] at this; cases this
    · rw [List.mem_cons, mem_bitsOf, h3, Bool.and_eq_true, decide_eq_true_iff]
      constructor
      · rintro (e | e)
        · rw [e]; exact h1
        · exact e.1
      · intro e
        by_cases q : i = l
        · exact .inl q
        · exact .inr ⟨e, q⟩
  have e : low b = l := by unfold low; rw [key]; rfl
  rw [e]; exact key
theorem low_bit {b : Nat} (h : b ≠ 0) : b.testBit (low b) = true := mem_bitsOf.mp (by rw [bitsOf_cons h]; exact List.mem_cons_self)
theorem low_le {b i : Nat} (hi : b.testBit i = true) : low b ≤ i := by
  have h := ne_zero_of hi
  have hm := mem_bitsOf.mpr hi
  have hs := srt_bitsOf b
  rw [bitsOf_cons h] at hm hs
  rcases List.mem_cons.mp hm with e | e
  · omega
  · exact Nat.le_of_lt ((List.pairwise_cons.mp hs).1 i e)
theorem low_pow {b : Nat} (h : b ≠ 0) : b - (b &&& (b - 1)) = 2 ^ low b := by
  obtain ⟨l, h1, h2, _, h4⟩ := low_ex b h
  have e : low b = l := by
    have e1 := low_le h1
    refine Classical.byContradiction fun c => ?_
    have := h2 (low b) (by omega)
    rw [low_bit h] at this; cases this
  rw [e]; exact h4
def single (b : Nat) : Bool := b != 0 && (b &&& (b - 1)) == 0
theorem single_iff {b : Nat} : single b = true ↔ (bitsOf b).length = 1 := by
  unfold single
  by_cases h : b = 0
  · subst h; simp [bitsOf_zero]
  · rw [bitsOf_cons h]
    simp only [Bool.and_eq_true, bne_iff_ne, ne_eq, h, not_false_eq_true, true_and, beq_iff_eq, List.length_cons]
    constructor
    · intro e; rw [e, bitsOf_zero]; rfl
    · intro e; exact bitsOf_nil (List.length_eq_zero_iff.mp (by omega))
theorem single_pow {b : Nat} (h : single b = true) : b = 2 ^ low b := by
  have h1 : b ≠ 0 ∧ (b &&& (b - 1)) = 0 := by
    unfold single at h
    simpa using h
  have := low_pow h1.1
  rw [h1.2] at this
  omega
theorem pow_single (v : Nat) : single (2 ^ v) = true := single_iff.mpr (by rw [pow_bitsOf]; rfl)
theorem pow_low (v : Nat) : low (2 ^ v) = v := by unfold low; rw [pow_bitsOf]; rfl
theorem single_of {b v : Nat} (h : b.testBit v = true) (u : ∀ i, b.testBit i = true → i = v) : b = 2 ^ v := ext' fun i => by
  rw [tb_pow, decide_eq_true_iff]
  exact ⟨fun e => (u i e).symm, fun e => e ▸ h⟩
theorem single_uniq {b i j : Nat} (h : single b = true) (hi : b.testBit i = true) (hj : b.testBit j = true) : i = j := by
  rw [single_pow h, tb_pow, decide_eq_true_iff] at hi hj
  omega
theorem log2_bit {b : Nat} (h : b ≠ 0) : b.testBit b.log2 = true := by
  refine Classical.byContradiction fun c => ?_
  have c' : b.testBit b.log2 = false := by simpa using c
  have h1 : b < 2 ^ (b.log2 + 1) := Nat.lt_log2_self
  have : b < 2 ^ b.log2 := lt_pow_of fun i hi => by
    by_cases e : i = b.log2
    · rw [e]; exact c'
    · exact Nat.testBit_lt_two_pow (Nat.lt_of_lt_of_le h1 (Nat.pow_le_pow_right (by decide) (by omega)))
  have := Nat.log2_self_le h
  omega
theorem le_log2 {b i : Nat} (h : b.testBit i = true) : i ≤ b.log2 := by
  have := bit_lt (Nat.lt_log2_self (n := b)) h
  omega
open Kgi2 (setOf at_ has inSet)
theorem tb_setOf_aux : ∀ (l : List Nat) (m i : Nat), (l.foldl (fun m v => m ||| 2 ^ v) m).testBit i = true ↔ m.testBit i = true ∨ i ∈ l
  | [], m, i => by simp
  | v :: l, m, i => by
    rw [List.foldl_cons, tb_setOf_aux l, Nat.testBit_or, Bool.or_eq_true, tb_pow, decide_eq_true_iff, List.mem_cons]
    constructor
    · rintro ((h | h) | h)
      · exact .inl h
      · exact .inr (.inl h.symm)
      · exact .inr (.inr h)
    · rintro (h | h | h)
      · exact .inl (.inl h)
      · exact .inl (.inr h.symm)
      · exact .inr h
theorem tb_setOf {l : List Nat} {i : Nat} : (setOf l).testBit i = true ↔ i ∈ l := by
  unfold setOf
  rw [tb_setOf_aux, Nat.zero_testBit]
  simp
theorem bitsOf_setOf {l : List Nat} (h : Srt l) : bitsOf (setOf l) = l := bitsOf_eq h fun i => tb_setOf.symm
end Sq
namespace Sq
open Kgi1 (Frame cells rowOf colOf regionOf hasRegions meet numbers)
open Kgi2
theorem mem_numbers {f : Frame} {v : Nat} : v ∈ numbers f ↔ 1 ≤ v ∧ v ≤ f.n := by
  unfold numbers
  rw [List.mem_map]
  constructor
  · rintro ⟨a, ha, rfl⟩
    have := List.mem_range.mp ha
    omega
  · intro h
    exact ⟨v - 1, List.mem_range.mpr (by omega), by omega⟩
theorem srt_numbers (f : Frame) : Srt (numbers f) := by
  unfold numbers
  exact List.Pairwise.map (fun x => x + 1) (fun a b (h : a < b) => Nat.succ_lt_succ h) (srt_range f.n)
structure Wf (f : Frame) (s : St) : Prop where
  len : s.length = cells f
  bit : ∀ k v, has s k v = true → 1 ≤ v ∧ v ≤ f.n
theorem has_def (s : St) (k v : Nat) : has s k v = (at_ s k).testBit v := rfl
theorem at_out {s : St} {k : Nat} (h : s.length ≤ k) : at_ s k = 0 := by
  unfold at_
  rw [List.getD_eq_getElem?_getD, List.getElem?_eq_none h]; rfl
theorem Wf.lt {f : Frame} {s : St} (w : Wf f s) {k v : Nat} (h : has s k v = true) : k < cells f := by
  refine Classical.byContradiction fun c => ?_
  rw [has_def, at_out (by rw [w.len]; omega), Nat.zero_testBit] at h
  cases h
theorem at_lt {s : St} {k : Nat} (h : k < s.length) : at_ s k = s[k] := by
  unfold at_
  rw [List.getD_eq_getElem?_getD, List.getElem?_eq_getElem h]; rfl
theorem st_ext {f : Frame} {s t : St} (a : s.length = cells f) (b : t.length = cells f) (h : ∀ k, k < cells f → at_ s k = at_ t k) : s = t := by
  refine List.ext_getElem (a.trans b.symm) fun k h1 h2 => ?_
  have := h k (by omega)
  rw [at_lt h1, at_lt h2] at this
  exact this
theorem mem_inSet {f : Frame} {m v : Nat} : v ∈ inSet f m ↔ (1 ≤ v ∧ v ≤ f.n) ∧ m.testBit v = true := by
  unfold inSet
  rw [List.mem_filter, mem_numbers]
theorem inSet_bits {f : Frame} {m : Nat} (h : ∀ v, m.testBit v = true → 1 ≤ v ∧ v ≤ f.n) : inSet f m = bitsOf m :=
  srt_ext (srt_filter _ (srt_numbers f)) (srt_bitsOf m) fun i => by
    show i ∈ inSet f m ↔ _
    rw [mem_inSet, mem_bitsOf]
    exact ⟨fun q => q.2, fun q => ⟨h i q, q⟩⟩
theorem Wf.inSet {f : Frame} {s : St} (w : Wf f s) (k : Nat) : inSet f (at_ s k) = bitsOf (at_ s k) := inSet_bits fun v h => w.bit k v h
theorem Wf.single {f : Frame} {s : St} (w : Wf f s) (k : Nat) : (Kgi2.inSet f (at_ s k)).length = 1 ↔ single (at_ s k) = true := by
  rw [w.inSet, single_iff]
def Le (s t : St) : Prop := ∀ k v, has s k v = true → has t k v = true
theorem Le.refl (s : St) : Le s s := fun _ _ h => h
theorem Le.trans {a b c : St} (x : Le a b) (y : Le b c) : Le a c := fun k v h => y k v (x k v h)
def dOf (f : Frame) (s : St) (want : Nat → Nat) : List Nat := (List.range (cells f)).map fun k => at_ s k &&& want k
def nOf (f : Frame) (s : St) (want : Nat → Nat) : St := (List.range (cells f)).map fun k => sub (at_ s k) (want k)
theorem getD_map_range (g : Nat → Nat) (n k d : Nat) (h : k < n) : ((List.range n).map g).getD k d = g k := by
  rw [List.getD_eq_getElem?_getD, List.getElem?_map, List.getElem?_range h]; rfl
theorem at_map (g : Nat → Nat) (n k : Nat) (h : k < n) : at_ ((List.range n).map g) k = g k := getD_map_range g n k 0 h
theorem dOf_at {f : Frame} {s : St} {want : Nat → Nat} {k : Nat} (h : k < cells f) : (dOf f s want).getD k 0 = at_ s k &&& want k := getD_map_range _ _ _ _ h
theorem nOf_at {f : Frame} {s : St} {want : Nat → Nat} {k : Nat} (h : k < cells f) : at_ (nOf f s want) k = sub (at_ s k) (want k) := at_map _ _ _ h
theorem nOf_len (f : Frame) (s : St) (want : Nat → Nat) : (nOf f s want).length = cells f := by unfold nOf; simp
theorem dOf_len (f : Frame) (s : St) (want : Nat → Nat) : (dOf f s want).length = cells f := by unfold dOf; simp
theorem nOf_has {f : Frame} {s : St} {want : Nat → Nat} {k v : Nat} (h : k < cells f) : has (nOf f s want) k v = (has s k v && !(want k).testBit v) := by
  rw [has_def, nOf_at h, tb_sub]; rfl
theorem nOf_le {f : Frame} {s : St} {want : Nat → Nat} : Le (nOf f s want) s := fun k v h => by
  by_cases hk : k < cells f
  · rw [nOf_has hk, Bool.and_eq_true] at h
    exact h.1
  · rw [has_def, at_out (by rw [nOf_len]; omega), Nat.zero_testBit] at h
    cases h
theorem nOf_wf {f : Frame} {s : St} {want : Nat → Nat} (w : Wf f s) : Wf f (nOf f s want) := ⟨nOf_len _ _ _, fun k v h => w.bit k v (nOf_le k v h)⟩
def hits (f : Frame) (s : St) (want : Nat → Nat) : Prop := ∃ k, k < cells f ∧ at_ s k &&& want k ≠ 0
theorem all_dOf {f : Frame} {s : St} {want : Nat → Nat} : ((dOf f s want).all (· == 0)) = true ↔ ¬ hits f s want := by
  unfold dOf hits
  rw [List.all_eq_true]
  constructor
  · rintro h ⟨k, hk, e⟩
    have := h _ (List.mem_map.mpr ⟨k, List.mem_range.mpr hk, rfl⟩)
    exact e (by simpa using this)
  · intro h x hx
    obtain ⟨k, hk, rfl⟩ := List.mem_map.mp hx
    rw [beq_iff_eq]
    exact Classical.byContradiction fun c => h ⟨k, List.mem_range.mp hk, c⟩
theorem strikes_eq (f : Frame) (s : St) (kd pl ot nu : Nat) (want : Nat → Nat) :
    strikes f s kd pl ot nu want = if (dOf f s want).all (· == 0) = true then none else some (⟨kd, pl, ot, nu, dOf f s want⟩, nOf f s want) := by
  unfold strikes
  show (if (dOf f s want).all (· == 0) = true then none else some ((⟨kd, pl, ot, nu, dOf f s want⟩ : Told), (List.range (cells f)).map fun k => at_ s k - (dOf f s want).getD k 0)) = _
  have e : ((List.range (cells f)).map fun k => at_ s k - (dOf f s want).getD k 0) = nOf f s want := by
    unfold nOf
    refine List.map_congr_left fun k hk => ?_
    rw [dOf_at (List.mem_range.mp hk)]; rfl
  rw [e]
theorem strikes_none {f : Frame} {s : St} {kd pl ot nu : Nat} {want : Nat → Nat} : strikes f s kd pl ot nu want = none ↔ ¬ hits f s want := by
  rw [strikes_eq]
  by_cases h : (dOf f s want).all (· == 0) = true
  · rw [if_pos h]; exact ⟨fun _ => all_dOf.mp h, fun _ => rfl⟩
  · rw [if_neg h]; exact ⟨fun q => (by cases q), fun q => (h (all_dOf.mpr q)).elim⟩
theorem strikes_hit {f : Frame} {s : St} {kd pl ot nu : Nat} {want : Nat → Nat} (h : hits f s want) : strikes f s kd pl ot nu want = some (⟨kd, pl, ot, nu, dOf f s want⟩, nOf f s want) := by
  rw [strikes_eq, if_neg fun q => all_dOf.mp q h]
theorem strikes_some {f : Frame} {s : St} {kd pl ot nu : Nat} {want : Nat → Nat} {r : Told × St} (h : strikes f s kd pl ot nu want = some r) :
    hits f s want ∧ r = (⟨kd, pl, ot, nu, dOf f s want⟩, nOf f s want) := by
  by_cases q : hits f s want
  · rw [strikes_hit q] at h; exact ⟨q, (Option.some.inj h).symm⟩
  · rw [strikes_none.mpr q] at h; cases h
def card (s : St) : Nat := (s.map fun b => (bitsOf b).length).sum
theorem bits_le {a b : Nat} (h : ∀ i, a.testBit i = true → b.testBit i = true) : (bitsOf a).length ≤ (bitsOf b).length := by
  have e : bitsOf a = (bitsOf b).filter fun i => a.testBit i := bitsOf_eq (srt_filter _ (srt_bitsOf b)) fun i => by
    rw [List.mem_filter, mem_bitsOf]
    exact ⟨fun q => q.2, fun q => ⟨h i q, q⟩⟩
  rw [e]; exact List.length_filter_le _ _
theorem bits_lt {a b j : Nat} (h : ∀ i, a.testBit i = true → b.testBit i = true) (h1 : b.testBit j = true) (h2 : a.testBit j = false) : (bitsOf a).length < (bitsOf b).length := by
  have e : bitsOf a = (bitsOf b).filter fun i => a.testBit i := bitsOf_eq (srt_filter _ (srt_bitsOf b)) fun i => by
    rw [List.mem_filter, mem_bitsOf]
    exact ⟨fun q => q.2, fun q => ⟨h i q, q⟩⟩
  rw [e]
  refine Nat.lt_of_le_of_ne (List.length_filter_le _ _) fun c => ?_
  have := List.length_filter_eq_length_iff.mp c j (mem_bitsOf.mpr h1)
  rw [h2] at this; cases this
theorem sum_lt : ∀ {s t : List Nat}, s.length = t.length → (∀ k, at_ s k ≤ at_ t k) → (∃ k, at_ s k < at_ t k) → s.sum < t.sum
  | [], [], _, _, ⟨k, h⟩ => by simp [at_] at h
  | x :: s, y :: t, hl, h, ⟨k, hk⟩ => by
    have h0 : x ≤ y := h 0
    have hs : ∀ k, at_ s k ≤ at_ t k := fun k => h (k + 1)
    have le : s.sum ≤ t.sum := by
      clear hk h h0
      have hl' : s.length = t.length := by simpa using hl
      clear hl
      clear k
      induction s generalizing t with
      | nil => cases t with | nil => exact Nat.le_refl _ | cons _ _ => simp at hl'
      | cons a s ih => cases t with
        | nil => simp at hl'
        | cons b t =>
          have h0 : a ≤ b := hs 0
          have := ih (t := t) (fun k => hs (k + 1)) (by simpa using hl')
          simp only [List.sum_cons]; omega
    simp only [List.sum_cons]
    cases k with
    | zero => have : x < y := hk; omega
    | succ k =>
      have := sum_lt (s := s) (t := t) (by simpa using hl) hs ⟨k, hk⟩
      omega
  | [], y :: t, hl, _, _ => by simp at hl
  | x :: s, [], hl, _, _ => by simp at hl
theorem at_cnt (s : St) (k : Nat) : at_ (s.map fun b => (bitsOf b).length) k = (bitsOf (at_ s k)).length := by
  unfold at_
  rw [List.getD_eq_getElem?_getD, List.getElem?_map, List.getD_eq_getElem?_getD]
  cases s[k]? with
  | none => simp [bitsOf_zero]
  | some x => rfl
theorem card_lt {s t : St} (hl : s.length = t.length) (h : Le s t) {k v : Nat} (h1 : has t k v = true) (h2 : has s k v = false) : card s < card t := by
  unfold card
  refine sum_lt (by simpa using hl) (fun k => ?_) ⟨k, ?_⟩
  · rw [at_cnt, at_cnt]; exact bits_le fun i => h k i
  · rw [at_cnt, at_cnt]; exact bits_lt (fun i => h k i) h1 h2
theorem card_le {f : Frame} {s : St} (w : Wf f s) : card s ≤ cells f * f.n := by
  unfold card
  have h : ∀ b ∈ s, (bitsOf b).length ≤ f.n := fun b hb => by
    obtain ⟨k, hk, e⟩ := List.mem_iff_getElem.mp hb
    have e1 : at_ s k = b := (at_lt hk).trans e
    have e2 : bitsOf b = (numbers f).filter fun i => b.testBit i := by
      rw [← e1, ← w.inSet]; rfl
    rw [e2]
    refine Nat.le_trans (List.length_filter_le _ _) ?_
    unfold numbers; simp
  have hl := w.len
  rw [← hl]
  clear hl w
  induction s with
  | nil => simp
  | cons a s ih =>
    have := ih fun b hb => h b (List.mem_cons_of_mem _ hb)
    have := h a List.mem_cons_self
    simp only [List.map_cons, List.sum_cons, List.length_cons, Nat.succ_mul]
    omega
theorem hits_card {f : Frame} {s : St} {want : Nat → Nat} (w : Wf f s) (h : hits f s want) : card (nOf f s want) < card s := by
  obtain ⟨k, hk, e⟩ := h
  obtain ⟨v, hv⟩ := some_bit e
  rw [Nat.testBit_and, Bool.and_eq_true] at hv
  exact card_lt ((nOf_len _ _ _).trans w.len.symm) nOf_le (k := k) (v := v) hv.1 (by rw [nOf_has hk, hv.2]; simp)
end Sq
namespace Sq
open Kgi1 (Frame cells rowOf colOf regionOf hasRegions meet numbers)
open Kgi2
structure Rt (f : Frame) : Prop where
  lo : 2 ≤ f.n
  hi : f.n ≤ 9
  reg : hasRegions f = true → ∀ k, k < cells f → regionOf f k < f.n
  cnt : hasRegions f = true → ∀ g, g < f.n → (List.range (cells f)).countP (fun k => regionOf f k == g) = f.n
  r2 : ∀ k, k < cells f → f.right.getD k 0 ≤ 2
  d2 : ∀ k, k < cells f → f.down.getD k 0 ≤ 2
  rcol : ∀ k, k < cells f → f.right.getD k 0 ≠ 0 → k % f.n + 1 < f.n
  drow : ∀ k, k < cells f → f.down.getD k 0 ≠ 0 → k / f.n + 1 < f.n
  giv : ∀ k, k < cells f → f.given.getD k 0 ≤ f.n
theorem rt_of {f : Frame} (h : Kgi1.reads f = 0) : Rt f := by
  unfold Kgi1.reads at h
  split at h
  · cases h
  rename_i h1
  split at h
  · cases h
  rename_i h2
  split at h
  · cases h
  rename_i h3
  split at h
  · cases h
  rename_i h4
  have h2' : Kgi1.regionsOk f = true := by simpa using h2
  have h3' : Kgi1.signsOk f = true := by simpa using h3
  have h4' : Kgi1.givenOk f = true := by simpa using h4
  unfold Kgi1.regionsOk at h2'
  unfold Kgi1.signsOk at h3'
  unfold Kgi1.givenOk at h4'
  rw [List.all_eq_true] at h3' h4'
  have s : ∀ k, k < cells f → ((f.right.getD k 0 ≤ 2 ∧ f.down.getD k 0 ≤ 2) ∧ (f.right.getD k 0 = 0 ∨ colOf f k + 1 < f.n)) ∧ (f.down.getD k 0 = 0 ∨ rowOf f k + 1 < f.n) := fun k hk => by
    have := h3' k (List.mem_range.mpr hk)
    simpa using this
  have r : hasRegions f = true → (∀ k, k < cells f → regionOf f k < f.n) ∧ ∀ g, g < f.n → (List.range (cells f)).countP (fun k => regionOf f k == g) = f.n := fun hr => by
    rw [hr] at h2'
    simp only [Bool.not_true, Bool.false_or, Bool.and_eq_true, List.all_eq_true, List.mem_range, decide_eq_true_eq, beq_iff_eq] at h2'
    exact h2'
  refine ⟨by omega, by omega, fun hr => (r hr).1, fun hr => (r hr).2, fun k hk => (s k hk).1.1.1, fun k hk => (s k hk).1.1.2, fun k hk h => (s k hk).1.2.resolve_left h, fun k hk h => (s k hk).2.resolve_left h, fun k hk => ?_⟩
  have := h4' k (List.mem_range.mpr hk)
  simpa using this
def nU (f : Frame) : Nat := (units f).length
theorem nU_eq (f : Frame) : nU f = if hasRegions f then 3 * f.n else 2 * f.n := by
  unfold nU units rows columns regions
  split <;> simp <;> omega
def inU (f : Frame) (u k : Nat) : Prop := if u < f.n then k / f.n = u else if u < 2 * f.n then k % f.n = u - f.n else regionOf f k = u - 2 * f.n
theorem row_div {n u c : Nat} (hc : c < n) : (u * n + c) / n = u := by
  have hn : 0 < n := by omega
  rw [Nat.mul_comm, Nat.mul_add_div hn, Nat.div_eq_of_lt hc, Nat.add_zero]
theorem row_mod {n u c : Nat} (hc : c < n) : (u * n + c) % n = c := by
  rw [Nat.mul_comm, Nat.mul_add_mod, Nat.mod_eq_of_lt hc]
theorem row_lt {n u c : Nat} (hu : u < n) (hc : c < n) : u * n + c < n * n := by
  have : (u + 1) * n ≤ n * n := Nat.mul_le_mul_right n hu
  rw [Nat.succ_mul] at this
  omega
theorem unit_row {f : Frame} {u : Nat} (h : u < f.n) : unit f u = (List.range f.n).map fun c => u * f.n + c := by
  unfold unit units rows
  rw [List.getD_eq_getElem?_getD, List.getElem?_append_left (by simp; omega), List.getElem?_append_left (by simpa using h), List.getElem?_map, List.getElem?_range h]
  rfl
theorem unit_col {f : Frame} {u : Nat} (h0 : f.n ≤ u) (h : u < 2 * f.n) : unit f u = (List.range f.n).map fun r => r * f.n + (u - f.n) := by
  unfold unit units rows columns
  have hs : u - f.n < f.n := by omega
  rw [List.getD_eq_getElem?_getD, List.getElem?_append_left (by simp; omega), List.getElem?_append_right (by simpa using h0), List.length_map, List.length_range, List.getElem?_map, List.getElem?_range hs]
  rfl
theorem unit_reg {f : Frame} {u : Nat} (hr : hasRegions f = true) (h0 : 2 * f.n ≤ u) (h : u < 3 * f.n) : unit f u = (List.range (cells f)).filter fun k => regionOf f k == u - 2 * f.n := by
  unfold unit units rows columns regions
  rw [hr, if_pos rfl]
  have hs : u - (f.n + f.n) < f.n := by omega
  have e2 : u - (f.n + f.n) = u - 2 * f.n := by omega
  rw [List.getD_eq_getElem?_getD, List.getElem?_append_right (by simp; omega), List.length_append, List.length_map, List.length_map, List.length_range, List.getElem?_map, List.getElem?_range hs, e2]
  rfl
theorem mem_unit {f : Frame} {u k : Nat} (hu : u < nU f) : k ∈ unit f u ↔ k < cells f ∧ inU f u k := by
  unfold inU
  by_cases h1 : u < f.n
  · rw [if_pos h1, unit_row h1, List.mem_map]
    constructor
    · rintro ⟨c, hc, rfl⟩
      have hc := List.mem_range.mp hc
      exact ⟨row_lt h1 hc, row_div hc⟩
    · rintro ⟨hk, e⟩
      have hn : 0 < f.n := by omega
      refine ⟨k % f.n, List.mem_range.mpr (Nat.mod_lt _ hn), ?_⟩
      rw [← e, Nat.mul_comm]; exact Nat.div_add_mod k f.n
  · rw [if_neg h1]
    by_cases h2 : u < 2 * f.n
    · rw [if_pos h2, unit_col (by omega) h2, List.mem_map]
      constructor
      · rintro ⟨r, hr, rfl⟩
        have hr := List.mem_range.mp hr
        exact ⟨row_lt hr (by omega), row_mod (by omega)⟩
      · rintro ⟨hk, e⟩
        refine ⟨k / f.n, List.mem_range.mpr (Nat.div_lt_of_lt_mul hk), ?_⟩
        rw [← e, Nat.mul_comm]; exact Nat.div_add_mod k f.n
    · rw [if_neg h2]
      have e := nU_eq f
      cases hr : hasRegions f with
      | false => rw [hr] at e; simp at e; omega
      | true =>
        rw [hr] at e
        simp at e
        rw [unit_reg hr (by omega) (by omega), List.mem_filter, List.mem_range, beq_iff_eq]
theorem unit_lt {f : Frame} {u k : Nat} (hu : u < nU f) (h : k ∈ unit f u) : k < cells f := ((mem_unit hu).mp h).1
theorem srt_map {g : Nat → Nat} (n : Nat) (h : ∀ a b, a < b → g a < g b) : Srt ((List.range n).map g) := List.Pairwise.map g h (srt_range n)
theorem srt_unit {f : Frame} (hn : 2 ≤ f.n) {u : Nat} (hu : u < nU f) : Srt (unit f u) := by
  by_cases h1 : u < f.n
  · rw [unit_row h1]; exact srt_map _ fun a b h => by omega
  · by_cases h2 : u < 2 * f.n
    · rw [unit_col (by omega) h2]
      refine srt_map _ fun a b h => ?_
      have : a * f.n < b * f.n := Nat.mul_lt_mul_of_pos_right h (by omega)
      omega
    · have e := nU_eq f
      cases hr : hasRegions f with
      | false => rw [hr] at e; simp at e; omega
      | true =>
        rw [hr] at e
        simp at e
        rw [unit_reg hr (by omega) (by omega)]
        exact srt_filter _ (srt_range _)
theorem mem_unitNumbers {f : Frame} {u : Nat} : u ∈ unitNumbers f ↔ u < nU f := List.mem_range
theorem meet_iff {f : Frame} (R : Rt f) {k j : Nat} (hk : k < cells f) (hj : j < cells f) : meet f k j = true ↔ k ≠ j ∧ ∃ u, u < nU f ∧ k ∈ unit f u ∧ j ∈ unit f u := by
  have hn := R.lo
  have e := nU_eq f
  unfold meet rowOf colOf
  simp only [Bool.and_eq_true, bne_iff_ne, ne_eq, Bool.or_eq_true, beq_iff_eq]
  refine and_congr_right fun hne => ?_
  constructor
  · rintro ((h | h) | h)
    · have hl : k / f.n < f.n := Nat.div_lt_of_lt_mul hk
      have hu : k / f.n < nU f := by rw [e]; split <;> omega
      exact ⟨k / f.n, hu, (mem_unit hu).mpr ⟨hk, by unfold inU; rw [if_pos hl]⟩, (mem_unit hu).mpr ⟨hj, by unfold inU; rw [if_pos hl]; exact h.symm⟩⟩
    · have hl : k % f.n < f.n := Nat.mod_lt _ (by omega)
      have hu : f.n + k % f.n < nU f := by rw [e]; split <;> omega
      refine ⟨f.n + k % f.n, hu, (mem_unit hu).mpr ⟨hk, ?_⟩, (mem_unit hu).mpr ⟨hj, ?_⟩⟩ <;> (unfold inU; rw [if_neg (by omega), if_pos (by omega)]; omega)
    · have hl := R.reg h.1 k hk
      have hu : 2 * f.n + regionOf f k < nU f := by rw [e, h.1]; simp; omega
      refine ⟨2 * f.n + regionOf f k, hu, (mem_unit hu).mpr ⟨hk, ?_⟩, (mem_unit hu).mpr ⟨hj, ?_⟩⟩ <;> (unfold inU; rw [if_neg (by omega), if_neg (by omega)])
      · omega
      · rw [← h.2]; omega
  · rintro ⟨u, hu, h1, h2⟩
    have h1 := ((mem_unit hu).mp h1).2
    have h2 := ((mem_unit hu).mp h2).2
    unfold inU at h1 h2
    by_cases c1 : u < f.n
    · rw [if_pos c1] at h1 h2; exact .inl (.inl (h1.trans h2.symm))
    · rw [if_neg c1] at h1 h2
      by_cases c2 : u < 2 * f.n
      · rw [if_pos c2] at h1 h2; exact .inl (.inr (h1.trans h2.symm))
      · rw [if_neg c2] at h1 h2
        refine .inr ⟨?_, h1.trans h2.symm⟩
        cases hr : hasRegions f with
        | true => rfl
        | false => rw [hr] at e; simp at e; omega
def sg (f : Frame) (k d : Nat) : Nat := if d = 0 then f.right.getD k 0 else f.down.getD k 0
def sj (f : Frame) (k d : Nat) : Nat := if d = 0 then k + 1 else k + f.n
def sa (f : Frame) (k d : Nat) : Nat := if sg f k d = 1 then k else sj f k d
def sb (f : Frame) (k d : Nat) : Nat := if sg f k d = 1 then sj f k d else k
theorem sj_lt {f : Frame} (R : Rt f) {k d : Nat} (hk : k < cells f) (h : sg f k d ≠ 0) : sj f k d < cells f := by
  have hn := R.lo
  unfold sg at h
  unfold sj cells
  unfold cells at hk
  have hd : k / f.n < f.n := Nat.div_lt_of_lt_mul hk
  have hdm := Nat.div_add_mod k f.n
  by_cases c : d = 0
  · rw [if_pos c] at h ⊢
    have := R.rcol k hk h
    have h2 : f.n * (k / f.n) + f.n ≤ f.n * f.n := by
      have := Nat.mul_le_mul_left f.n hd
      rw [Nat.mul_succ] at this; exact this
    omega
  · rw [if_neg c] at h ⊢
    have h1 := R.drow k hk h
    have hm : k % f.n < f.n := Nat.mod_lt _ (by omega)
    have h2 : f.n * (k / f.n) + f.n + f.n ≤ f.n * f.n := by
      have := Nat.mul_le_mul_left f.n h1
      rw [Nat.mul_succ, Nat.mul_succ] at this; exact this
    omega
theorem sj_ne {f : Frame} (R : Rt f) (k d : Nat) : sj f k d ≠ k := by
  have := R.lo
  unfold sj; split <;> omega
theorem sa_lt {f : Frame} (R : Rt f) {k d : Nat} (hk : k < cells f) (h : sg f k d ≠ 0) : sa f k d < cells f := by
  unfold sa; split
  · exact hk
  · exact sj_lt R hk h
theorem sb_lt {f : Frame} (R : Rt f) {k d : Nat} (hk : k < cells f) (h : sg f k d ≠ 0) : sb f k d < cells f := by
  unfold sb; split
  · exact sj_lt R hk h
  · exact hk
theorem sab_ne {f : Frame} (R : Rt f) (k d : Nat) : sa f k d ≠ sb f k d := by
  have := sj_ne R k d
  unfold sa sb; split
  · exact Ne.symm this
  · exact this
theorem srt_last : ∀ {l : List Nat} {h : Nat}, Srt l → l.getLast? = some h → h ∈ l ∧ ∀ i ∈ l, i ≤ h := by
  intro l h hs e
  have hm := List.mem_of_getLast? e
  refine ⟨hm, fun i hi => ?_⟩
  obtain ⟨t, rfl⟩ : ∃ t, l = t ++ [h] := List.getLast?_eq_some_iff.mp e
  rcases List.mem_append.mp hi with q | q
  · exact Nat.le_of_lt ((List.pairwise_append.mp hs).2.2 i q h (by simp))
  · simp at q; omega
theorem last_bits {b : Nat} (h : b ≠ 0) : (bitsOf b).getLast? = some b.log2 := by
  cases e : (bitsOf b).getLast? with
  | none => exact (h (bitsOf_nil (List.getLast?_eq_none_iff.mp e))).elim
  | some x =>
    obtain ⟨h1, h2⟩ := srt_last (srt_bitsOf b) e
    have := le_log2 (mem_bitsOf.mp h1)
    have := h2 _ (mem_bitsOf.mpr (log2_bit h))
    congr 1; omega
def signWant (f : Frame) (a b lo hi : Nat) : Nat → Nat := fun i => if i = b then setOf ((numbers f).filter fun v => decide (v ≤ lo)) else if i = a then setOf ((numbers f).filter fun v => decide (hi ≤ v)) else 0
theorem signAt_eq {f : Frame} {s : St} (w : Wf f s) {k d : Nat} : signAt f s k d =
    if sg f k d ≠ 0 ∧ at_ s (sa f k d) ≠ 0 ∧ at_ s (sb f k d) ≠ 0 then strikes f s 3 k d 0 (signWant f (sa f k d) (sb f k d) (low (at_ s (sa f k d))) (at_ s (sb f k d)).log2) else none := by
  show (if sg f k d = 0 then none else match inSet f (at_ s (sa f k d)), (inSet f (at_ s (sb f k d))).getLast? with
    | lo :: _, some hi => strikes f s 3 k d 0 (signWant f (sa f k d) (sb f k d) lo hi)
    | _, _ => none) = _
  by_cases h0 : sg f k d = 0
  · rw [if_pos h0, if_neg fun q => q.1 h0]
  · rw [if_neg h0, w.inSet, w.inSet]
    by_cases ha : at_ s (sa f k d) = 0
    · rw [ha, bitsOf_zero, if_neg fun q => q.2.1 rfl]
    · by_cases hb : at_ s (sb f k d) = 0
      · rw [hb, bitsOf_zero, if_neg fun q => q.2.2 rfl]
        cases bitsOf (at_ s (sa f k d)) <;> rfl
      · rw [if_pos ⟨h0, ha, hb⟩, bitsOf_cons ha, last_bits hb]
structure Cl (f : Frame) (s : St) : Prop where
  cell : ∀ k, k < cells f → at_ s k ≠ 0
  cov : ∀ u v, u < nU f → 1 ≤ v → v ≤ f.n → ∃ k, k ∈ unit f u ∧ has s k v = true
  set : ∀ k j v, k < cells f → j < cells f → meet f k j = true → at_ s k = 2 ^ v → has s j v = true → False
  only : ∀ u v k, u < nU f → 1 ≤ v → v ≤ f.n → k ∈ unit f u → has s k v = true → (∀ j, j ∈ unit f u → has s j v = true → j = k) → at_ s k = 2 ^ v
  sgn : ∀ k d, k < cells f → d < 2 → sg f k d ≠ 0 → (∀ v, has s (sb f k d) v = true → low (at_ s (sa f k d)) < v) ∧ ∀ v, has s (sa f k d) v = true → v < (at_ s (sb f k d)).log2
  lock : ∀ u w v, u < nU f → w < nU f → 1 ≤ v → v ≤ f.n → (∀ k, k ∈ unit f u → has s k v = true → k ∈ unit f w) → ∀ j, j ∈ unit f w → has s j v = true → j ∈ unit f u
theorem broken_iff {f : Frame} {s : St} : broken f s = true ↔ (∃ k, k < cells f ∧ at_ s k = 0) ∨ ∃ u v, u < nU f ∧ (1 ≤ v ∧ v ≤ f.n) ∧ ∀ k, k ∈ unit f u → has s k v = false := by
  unfold broken
  simp only [Bool.or_eq_true, List.any_eq_true, List.mem_range, beq_iff_eq, List.all_eq_true, Bool.not_eq_true', mem_numbers]
  refine or_congr Iff.rfl ?_
  constructor
  · rintro ⟨u, hu, v, hv, h⟩
    obtain ⟨i, hi, rfl⟩ := List.mem_iff_getElem.mp hu
    refine ⟨i, v, hi, hv, fun k hk => h k ?_⟩
    unfold unit at hk
    rwa [List.getD_eq_getElem?_getD, List.getElem?_eq_getElem hi] at hk
  · rintro ⟨u, v, hu, hv, h⟩
    refine ⟨unit f u, ?_, v, hv, h⟩
    unfold unit
    rw [List.getD_eq_getElem?_getD, List.getElem?_eq_getElem hu]
    exact List.getElem_mem hu
theorem Cl.unbroken {f : Frame} {C s : St} (c : Cl f C) (h : Le C s) : broken f s = false := by
  cases e : broken f s with
  | false => rfl
  | true =>
    rcases broken_iff.mp e with ⟨k, hk, q⟩ | ⟨u, v, hu, hv, q⟩
    · obtain ⟨v, hv⟩ := some_bit (c.cell k hk)
      have := h k v hv
      rw [has_def, q, Nat.zero_testBit] at this; cases this
    · obtain ⟨k, hk, e⟩ := c.cov u v hu hv.1 hv.2
      have := h k v e
      rw [q k hk] at this; cases this
theorem le_nOf {f : Frame} {C s : St} {want : Nat → Nat} (wC : Wf f C) (h : Le C s) (q : ∀ j v, j < cells f → has C j v = true → (want j).testBit v = true → False) : Le C (nOf f s want) := fun j v e => by
  have hj := wC.lt e
  rw [nOf_has hj, h j v e]
  cases z : (want j).testBit v with
  | false => rfl
  | true => exact (q j v hj e z).elim
theorem only_filter {f : Frame} {s : St} {u v k : Nat} (hn : 2 ≤ f.n) (hu : u < nU f) : ((unit f u).filter fun k => has s k v) = [k] ↔ k ∈ unit f u ∧ has s k v = true ∧ ∀ j, j ∈ unit f u → has s j v = true → j = k := by
  constructor
  · intro e
    have hm : ∀ j, (j ∈ unit f u ∧ has s j v = true) ↔ j = k := fun j => by
      have : j ∈ (unit f u).filter (fun k => has s k v) ↔ j ∈ [k] := by rw [e]
      rw [List.mem_filter, List.mem_singleton] at this; exact this
    exact ⟨((hm k).mpr rfl).1, ((hm k).mpr rfl).2, fun j a b => (hm j).mp ⟨a, b⟩⟩
  · rintro ⟨h1, h2, h3⟩
    refine srt_ext (srt_filter _ (srt_unit hn hu)) (List.pairwise_singleton _ _) fun i => ?_
    rw [List.mem_filter, List.mem_singleton]
    exact ⟨fun q => h3 i q.1 q.2, fun q => q ▸ ⟨h1, h2⟩⟩
def onlyWant (f : Frame) (k v : Nat) : Nat → Nat := fun j => if j = k then setOf ((numbers f).filter fun w => w != v) else 0
theorem onlyAt_one {f : Frame} {s : St} {u v k : Nat} (e : ((unit f u).filter fun k => has s k v) = [k]) : onlyAt f s u v = strikes f s 2 u 0 (2 ^ v) (onlyWant f k v) := by
  unfold onlyAt
  rw [e]; rfl
theorem onlyAt_not {f : Frame} {s : St} {u v : Nat} (e : ∀ k, ((unit f u).filter fun k => has s k v) ≠ [k]) : onlyAt f s u v = none := by
  unfold onlyAt
  split
  · rename_i k h; exact (e k h).elim
  · rfl
theorem sound1 {f : Frame} (R : Rt f) {C s : St} (wC : Wf f C) (w : Wf f s) (c : Cl f C) (h : Le C s) {k : Nat} (hk : k < cells f) {r : Told × St} (e : settledAt f s k = some r) : Le C r.2 := by
  unfold settledAt at e
  split at e
  · rename_i h1
    have h1 := (w.single k).mp h1
    obtain ⟨_, rfl⟩ := strikes_some e
    refine le_nOf wC h fun j v hj hv q => ?_
    by_cases m : meet f k j = true
    · rw [if_pos m] at q
      refine c.set k j v hk hj m ?_ hv
      obtain ⟨x, hx⟩ := some_bit (c.cell k hk)
      have ex : x = v := single_uniq h1 (h k x hx) q
      subst ex
      exact single_of hx fun i hi => single_uniq h1 (h k i hi) q
    · rw [if_neg m, Nat.zero_testBit] at q; cases q
  · cases e
theorem sound2 {f : Frame} (R : Rt f) {C s : St} (wC : Wf f C) (w : Wf f s) (c : Cl f C) (h : Le C s) {u v : Nat} (hu : u < nU f) (hv : 1 ≤ v ∧ v ≤ f.n) {r : Told × St} (e : onlyAt f s u v = some r) : Le C r.2 := by
  by_cases q : ∃ k, ((unit f u).filter fun k => has s k v) = [k]
  · obtain ⟨k, q⟩ := q
    rw [onlyAt_one q] at e
    obtain ⟨_, rfl⟩ := strikes_some e
    obtain ⟨h1, h2, h3⟩ := (only_filter R.lo hu).mp q
    refine le_nOf wC h fun j x hj hx z => ?_
    unfold onlyWant at z
    by_cases ej : j = k
    · rw [if_pos ej, tb_setOf, List.mem_filter] at z
      obtain ⟨k', a, b⟩ := c.cov u v hu hv.1 hv.2
      have ek : k' = k := h3 k' a (h k' v b)
      subst ek
      have eC := c.only u v k' hu hv.1 hv.2 a b fun j a b => h3 j a (h j v b)
      rw [ej, has_def, eC, tb_pow, decide_eq_true_iff] at hx
      simp [hx] at z
    · rw [if_neg ej, Nat.zero_testBit] at z; cases z
  · rw [onlyAt_not fun k z => q ⟨k, z⟩] at e; cases e
theorem sound3 {f : Frame} (R : Rt f) {C s : St} (wC : Wf f C) (w : Wf f s) (c : Cl f C) (h : Le C s) {k d : Nat} (hk : k < cells f) (hd : d < 2) {r : Told × St} (e : signAt f s k d = some r) : Le C r.2 := by
  rw [signAt_eq w] at e
  split at e
  · rename_i h1
    obtain ⟨_, rfl⟩ := strikes_some e
    obtain ⟨c1, c2⟩ := c.sgn k d hk hd h1.1
    have ha := c.cell _ (sa_lt R hk h1.1)
    have hb := c.cell _ (sb_lt R hk h1.1)
    refine le_nOf wC h fun j x hj hx q => ?_
    unfold signWant at q
    by_cases e1 : j = sb f k d
    · rw [if_pos e1, tb_setOf, List.mem_filter, decide_eq_true_iff] at q
      have := c1 x (e1 ▸ hx)
      have : low (at_ s (sa f k d)) ≤ low (at_ C (sa f k d)) := low_le (h _ _ (low_bit ha))
      omega
    · rw [if_neg e1] at q
      by_cases e2 : j = sa f k d
      · rw [if_pos e2, tb_setOf, List.mem_filter, decide_eq_true_iff] at q
        have := c2 x (e2 ▸ hx)
        have : (at_ C (sb f k d)).log2 ≤ (at_ s (sb f k d)).log2 := le_log2 (h _ _ (log2_bit hb))
        omega
      · rw [if_neg e2, Nat.zero_testBit] at q; cases q
  · cases e
def lockWant (f : Frame) (u w v : Nat) : Nat → Nat := fun j => if (unit f w).contains j && !((unit f u).contains j) then 2 ^ v else 0
theorem lockWant_tb {f : Frame} {u w v j x : Nat} : (lockWant f u w v j).testBit x = true ↔ (j ∈ unit f w ∧ j ∉ unit f u) ∧ x = v := by
  unfold lockWant
  by_cases c : ((unit f w).contains j && !((unit f u).contains j)) = true
  · rw [if_pos c, tb_pow, decide_eq_true_iff]
    have : j ∈ unit f w ∧ j ∉ unit f u := by simpa using c
    exact ⟨fun e => ⟨this, e.symm⟩, fun e => e.2.symm⟩
  · rw [if_neg c, Nat.zero_testBit]
    refine ⟨fun e => (by cases e), fun e => (c ?_).elim⟩
    simpa using e.1
def lockIf (f : Frame) (s : St) (u w v : Nat) : Prop := (∃ k, k ∈ unit f u ∧ has s k v = true) ∧ ∀ k, k ∈ unit f u → has s k v = true → k ∈ unit f w
theorem lockIf_iff {f : Frame} {s : St} {u w v : Nat} : (((unit f u).filter fun k => has s k v) ≠ [] ∧ (((unit f u).filter fun k => has s k v).all fun k => (unit f w).contains k) = true) ↔ lockIf f s u w v := by
  unfold lockIf
  rw [List.all_eq_true]
  constructor
  · rintro ⟨h1, h2⟩
    obtain ⟨k, hk⟩ := List.exists_mem_of_ne_nil _ h1
    have hk := List.mem_filter.mp hk
    refine ⟨⟨k, hk.1, hk.2⟩, fun j a b => ?_⟩
    have := h2 j (List.mem_filter.mpr ⟨a, b⟩)
    simpa using this
  · rintro ⟨⟨k, a, b⟩, h2⟩
    refine ⟨List.ne_nil_of_mem (List.mem_filter.mpr ⟨a, b⟩), fun j hj => ?_⟩
    have hj := List.mem_filter.mp hj
    simpa using h2 j hj.1 hj.2
theorem lockedAt_pos {f : Frame} {s : St} {u w v : Nat} (h : lockIf f s u w v) : lockedAt f s u w v = strikes f s 4 u w (2 ^ v) (lockWant f u w v) := by
  unfold lockedAt
  exact if_pos (lockIf_iff.mpr h)
theorem lockedAt_neg {f : Frame} {s : St} {u w v : Nat} (h : ¬ lockIf f s u w v) : lockedAt f s u w v = none := by
  unfold lockedAt
  exact if_neg fun q => h (lockIf_iff.mp q)
theorem sound4 {f : Frame} (R : Rt f) {C s : St} (wC : Wf f C) (w : Wf f s) (c : Cl f C) (h : Le C s) {u x v : Nat} (hu : u < nU f) (hx : x < nU f) (hv : 1 ≤ v ∧ v ≤ f.n) {r : Told × St} (e : lockedAt f s u x v = some r) : Le C r.2 := by
  by_cases q : lockIf f s u x v
  · rw [lockedAt_pos q] at e
    obtain ⟨_, rfl⟩ := strikes_some e
    refine le_nOf wC h fun j y hj hy z => ?_
    obtain ⟨⟨z1, z2⟩, rfl⟩ := lockWant_tb.mp z
    exact z2 (c.lock u x y hu hx hv.1 hv.2 (fun k a b => q.2 k a (h k y b)) j z1 hy)
  · rw [lockedAt_neg q] at e; cases e
theorem settled_none {f : Frame} {s : St} : settled f s = none ↔ ∀ k, k < cells f → settledAt f s k = none := by
  unfold settled; rw [List.findSome?_eq_none_iff]; simp only [List.mem_range]
theorem only_none {f : Frame} {s : St} : onlyPlace f s = none ↔ ∀ u v, u < nU f → 1 ≤ v ∧ v ≤ f.n → onlyAt f s u v = none := by
  unfold onlyPlace
  simp only [List.findSome?_eq_none_iff, mem_unitNumbers, mem_numbers]
  exact ⟨fun h u v a b => h u a v b, fun h u a v b => h u v a b⟩
theorem sign_none {f : Frame} {s : St} : sign f s = none ↔ ∀ k d, k < cells f → d < 2 → signAt f s k d = none := by
  unfold sign
  simp only [List.findSome?_eq_none_iff, List.mem_range, List.mem_cons, List.not_mem_nil, or_false]
  constructor
  · intro h k d hk hd
    exact h k hk d (by omega)
  · intro h k hk d hd
    exact h k d hk (by omega)
theorem locked_none {f : Frame} {s : St} : locked f s = none ↔ ∀ u w v, u < nU f → w < nU f → w ≠ u → 1 ≤ v ∧ v ≤ f.n → lockedAt f s u w v = none := by
  unfold locked
  simp only [List.findSome?_eq_none_iff, mem_unitNumbers, mem_numbers, List.mem_filter, bne_iff_ne]
  exact ⟨fun h u w v a b c d => h u a w ⟨b, c⟩ v d, fun h u a w b v d => h u w v a b.1 b.2 d⟩
theorem easy_none {f : Frame} {s : St} : easy f s = none ↔ settled f s = none ∧ onlyPlace f s = none ∧ sign f s = none ∧ locked f s = none := by
  unfold easy
  rw [List.findSome?_eq_none_iff]
  simp
theorem closed_of {f : Frame} (R : Rt f) {s : St} (w : Wf f s) (hb : broken f s = false) (he : easy f s = none) : Cl f s := by
  obtain ⟨e1, e2, e3, e4⟩ := easy_none.mp he
  have nb : ¬ ((∃ k, k < cells f ∧ at_ s k = 0) ∨ ∃ u v, u < nU f ∧ (1 ≤ v ∧ v ≤ f.n) ∧ ∀ k, k ∈ unit f u → has s k v = false) := fun q => by
    rw [broken_iff.mpr q] at hb; cases hb
  have cell : ∀ k, k < cells f → at_ s k ≠ 0 := fun k hk q => nb (.inl ⟨k, hk, q⟩)
  refine ⟨cell, fun u v hu h1 h2 => ?_, fun k j v hk hj m e hv => ?_, fun u v k hu h1 h2 hk hv uq => ?_, fun k d hk hd hg => ?_, fun u x v hu hx h1 h2 q j hj hv => ?_⟩
  · refine Classical.byContradiction fun q => nb (.inr ⟨u, v, hu, ⟨h1, h2⟩, fun k hk => ?_⟩)
    cases z : has s k v with
    | false => rfl
    | true => exact (q ⟨k, hk, z⟩).elim
  · have := settled_none.mp e1 k hk
    unfold settledAt at this
    rw [if_pos ((w.single k).mpr (by rw [e]; exact pow_single v)), strikes_none] at this
    refine this ⟨j, hj, ?_⟩
    show at_ s j &&& (if meet f k j = true then at_ s k else 0) ≠ 0
    rw [if_pos m]
    refine ne_zero_of (i := v) ?_
    rw [Nat.testBit_and, e, tb_pow]
    rw [has_def] at hv
    simp [hv]
  · have := only_none.mp e2 u v hu ⟨h1, h2⟩
    rw [onlyAt_one ((only_filter R.lo hu).mpr ⟨hk, hv, uq⟩), strikes_none] at this
    refine single_of hv fun i hi => Classical.byContradiction fun c => this ⟨k, unit_lt hu hk, ne_zero_of (i := i) ?_⟩
    rw [Nat.testBit_and, hi]
    unfold onlyWant
    rw [if_pos rfl, Bool.true_and, tb_setOf, List.mem_filter, mem_numbers]
    exact ⟨w.bit k i hi, by simpa using c⟩
  · have := sign_none.mp e3 k d hk hd
    have la := sa_lt R hk hg
    have lb := sb_lt R hk hg
    rw [signAt_eq w, if_pos ⟨hg, cell _ la, cell _ lb⟩, strikes_none] at this
    constructor
    · intro v hv
      refine Classical.byContradiction fun c => this ⟨_, lb, ne_zero_of (i := v) ?_⟩
      unfold signWant
      rw [Nat.testBit_and, if_pos rfl]
      rw [has_def] at hv
      rw [hv, Bool.true_and, tb_setOf, List.mem_filter, mem_numbers]
      exact ⟨w.bit _ v hv, by simp; omega⟩
    · intro v hv
      refine Classical.byContradiction fun c => this ⟨_, la, ne_zero_of (i := v) ?_⟩
      unfold signWant
      rw [Nat.testBit_and, if_neg (sab_ne R k d), if_pos rfl]
      rw [has_def] at hv
      rw [hv, Bool.true_and, tb_setOf, List.mem_filter, mem_numbers]
      exact ⟨w.bit _ v hv, by simp; omega⟩
  · by_cases eux : x = u
    · rw [← eux]; exact hj
    · have := locked_none.mp e4 u x v hu hx eux ⟨h1, h2⟩
      refine Classical.byContradiction fun c => ?_
      by_cases ex : ∃ k, k ∈ unit f u ∧ has s k v = true
      · rw [lockedAt_pos ⟨ex, q⟩, strikes_none] at this
        refine this ⟨j, unit_lt hx hj, ne_zero_of (i := v) ?_⟩
        rw [Nat.testBit_and, lockWant_tb.mpr ⟨⟨hj, c⟩, rfl⟩]
        rw [has_def] at hv
        rw [hv]; rfl
      · refine nb (.inr ⟨u, v, hu, ⟨h1, h2⟩, fun k hk => ?_⟩)
        cases z : has s k v with
        | false => rfl
        | true => exact (ex ⟨k, hk, z⟩).elim
theorem easy_some {f : Frame} {s : St} {r : Told × St} (h : easy f s = some r) :
    (∃ k, k < cells f ∧ settledAt f s k = some r) ∨ (∃ u v, u < nU f ∧ (1 ≤ v ∧ v ≤ f.n) ∧ onlyAt f s u v = some r) ∨ (∃ k d, k < cells f ∧ d < 2 ∧ signAt f s k d = some r) ∨ ∃ u w v, u < nU f ∧ w < nU f ∧ (1 ≤ v ∧ v ≤ f.n) ∧ lockedAt f s u w v = some r := by
  unfold easy at h
  obtain ⟨g, hg, e⟩ := List.exists_of_findSome?_eq_some h
  simp only [List.mem_cons, List.not_mem_nil, or_false] at hg
  rcases hg with rfl | rfl | rfl | rfl
  · obtain ⟨k, hk, e⟩ := List.exists_of_findSome?_eq_some e
    exact .inl ⟨k, List.mem_range.mp hk, e⟩
  · obtain ⟨u, hu, e⟩ := List.exists_of_findSome?_eq_some e
    obtain ⟨v, hv, e⟩ := List.exists_of_findSome?_eq_some e
    exact .inr (.inl ⟨u, v, mem_unitNumbers.mp hu, mem_numbers.mp hv, e⟩)
  · obtain ⟨k, hk, e⟩ := List.exists_of_findSome?_eq_some e
    obtain ⟨d, hd, e⟩ := List.exists_of_findSome?_eq_some e
    refine .inr (.inr (.inl ⟨k, d, List.mem_range.mp hk, ?_, e⟩))
    simp at hd; omega
  · obtain ⟨u, hu, e⟩ := List.exists_of_findSome?_eq_some e
    obtain ⟨x, hx, e⟩ := List.exists_of_findSome?_eq_some e
    obtain ⟨v, hv, e⟩ := List.exists_of_findSome?_eq_some e
    exact .inr (.inr (.inr ⟨u, x, v, mem_unitNumbers.mp hu, mem_unitNumbers.mp (List.mem_filter.mp hx).1, mem_numbers.mp hv, e⟩))
theorem sound {f : Frame} (R : Rt f) {C s : St} (wC : Wf f C) (w : Wf f s) (c : Cl f C) (h : Le C s) {r : Told × St} (e : easy f s = some r) : Le C r.2 := by
  rcases easy_some e with ⟨k, hk, e⟩ | ⟨u, v, hu, hv, e⟩ | ⟨k, d, hk, hd, e⟩ | ⟨u, x, v, hu, hx, hv, e⟩
  · exact sound1 R wC w c h hk e
  · exact sound2 R wC w c h hu hv e
  · exact sound3 R wC w c h hk hd e
  · exact sound4 R wC w c h hu hx hv e
def Less (f : Frame) (s : St) (r : Told × St) : Prop := Wf f r.2 ∧ Le r.2 s ∧ card r.2 < card s
theorem strikes_less {f : Frame} {s : St} (w : Wf f s) {kd pl ot nu : Nat} {want : Nat → Nat} {r : Told × St} (h : strikes f s kd pl ot nu want = some r) : Less f s r := by
  obtain ⟨h1, rfl⟩ := strikes_some h
  exact ⟨nOf_wf w, nOf_le, hits_card w h1⟩
theorem settledAt_less {f : Frame} {s : St} (w : Wf f s) {k : Nat} {r : Told × St} (e : settledAt f s k = some r) : Less f s r := by
  unfold settledAt at e
  split at e
  · exact strikes_less w e
  · cases e
theorem onlyAt_less {f : Frame} {s : St} (w : Wf f s) {u v : Nat} {r : Told × St} (e : onlyAt f s u v = some r) : Less f s r := by
  unfold onlyAt at e
  split at e
  · exact strikes_less w e
  · cases e
theorem signAt_less {f : Frame} {s : St} (w : Wf f s) {k d : Nat} {r : Told × St} (e : signAt f s k d = some r) : Less f s r := by
  rw [signAt_eq w] at e
  split at e
  · exact strikes_less w e
  · cases e
theorem lockedAt_less {f : Frame} {s : St} (w : Wf f s) {u x v : Nat} {r : Told × St} (e : lockedAt f s u x v = some r) : Less f s r := by
  by_cases q : lockIf f s u x v
  · rw [lockedAt_pos q] at e; exact strikes_less w e
  · rw [lockedAt_neg q] at e; cases e
theorem easy_less {f : Frame} {s : St} (w : Wf f s) {r : Told × St} (e : easy f s = some r) : Less f s r := by
  rcases easy_some e with ⟨k, hk, e⟩ | ⟨u, v, hu, hv, e⟩ | ⟨k, d, hk, hd, e⟩ | ⟨u, x, v, hu, hx, hv, e⟩
  · exact settledAt_less w e
  · exact onlyAt_less w e
  · exact signAt_less w e
  · exact lockedAt_less w e
theorem breaks_to {f : Frame} (R : Rt f) : ∀ (m : Nat) (s : St), Wf f s → card s ≤ m → breaks f m s = false → ∃ C, Wf f C ∧ Le C s ∧ Cl f C
  | 0, s, w, hc, h => by
    have hb : broken f s = false := h
    cases e : easy f s with
    | none => exact ⟨s, w, Le.refl s, closed_of R w hb e⟩
    | some r => have := (easy_less w e).2.2; omega
  | m + 1, s, w, hc, h => by
    unfold breaks at h
    rw [Bool.or_eq_false_iff] at h
    cases e : easy f s with
    | none => exact ⟨s, w, Le.refl s, closed_of R w h.1 e⟩
    | some r =>
      obtain ⟨t, x⟩ := r
      have l := easy_less w e
      have h2 := h.2
      rw [e] at h2
      obtain ⟨C, a, b, c⟩ := breaks_to R m x l.1 (by have := l.2.2; dsimp only at this; omega) h2
      exact ⟨C, a, b.trans l.2.1, c⟩
theorem breaks_from {f : Frame} (R : Rt f) {C : St} (wC : Wf f C) (c : Cl f C) : ∀ (m : Nat) (s : St), Wf f s → Le C s → breaks f m s = false
  | 0, s, w, h => c.unbroken h
  | m + 1, s, w, h => by
    unfold breaks
    rw [Bool.or_eq_false_iff]
    refine ⟨c.unbroken h, ?_⟩
    cases e : easy f s with
    | none => rfl
    | some r =>
      obtain ⟨t, x⟩ := r
      exact breaks_from R wC c m x (easy_less w e).1 (sound R wC w c h e)
theorem breaks_iff {f : Frame} (R : Rt f) {s : St} (w : Wf f s) : breaks f (most f) s = false ↔ ∃ C, Wf f C ∧ Le C s ∧ Cl f C :=
  ⟨breaks_to R _ s w (card_le w), fun ⟨C, a, b, c⟩ => breaks_from R a c _ s w b⟩
end Sq
namespace Sq
open Kgi1 (Frame cells rowOf colOf regionOf hasRegions meet numbers)
open Kgi2
def mask (f : Frame) (u : Nat) : Nat := setOf (unit f u)
theorem tb_mask {f : Frame} {u k : Nat} : (mask f u).testBit k = true ↔ k ∈ unit f u := tb_setOf
def masks (f : Frame) : List Nat := (List.range (nU f)).map (mask f)
def pl (s : St) (v : Nat) : Nat := setOf ((List.range s.length).filter fun k => has s k v)
theorem tb_pl {s : St} {v k : Nat} : (pl s v).testBit k = has s k v := by
  rw [Bool.eq_iff_iff]
  unfold pl
  rw [tb_setOf, List.mem_filter, List.mem_range]
  refine ⟨fun h => h.2, fun h => ⟨?_, h⟩⟩
  refine Classical.byContradiction fun c => ?_
  rw [has_def, at_out (by omega), Nat.zero_testBit] at h
  cases h
def unitsOf (f : Frame) (k : Nat) : List Nat := (List.range (nU f)).filter fun u => (mask f u).testBit k
theorem mem_unitsOf {f : Frame} {k u : Nat} : u ∈ unitsOf f k ↔ u < nU f ∧ k ∈ unit f u := by
  unfold unitsOf; rw [List.mem_filter, List.mem_range, tb_mask]
def peers (f : Frame) (k : Nat) : Nat := sub ((unitsOf f k).foldl (fun m u => m ||| mask f u) 0) (2 ^ k)
theorem tb_or_fold {f : Frame} : ∀ (l : List Nat) (m j : Nat), (l.foldl (fun m u => m ||| mask f u) m).testBit j = true ↔ m.testBit j = true ∨ ∃ u, u ∈ l ∧ j ∈ unit f u
  | [], m, j => by simp
  | u :: l, m, j => by
    rw [List.foldl_cons, tb_or_fold l, Nat.testBit_or, Bool.or_eq_true, tb_mask]
    simp only [List.mem_cons, exists_eq_or_imp, or_assoc]
theorem tb_peers {f : Frame} (R : Rt f) {k j : Nat} (hk : k < cells f) (hj : j < cells f) : (peers f k).testBit j = meet f k j := by
  rw [Bool.eq_iff_iff, meet_iff R hk hj]
  unfold peers
  rw [tb_sub, Bool.and_eq_true, tb_or_fold, Nat.zero_testBit, tb_pow]
  simp only [Bool.false_eq_true, false_or, Bool.not_eq_true', decide_eq_false_iff_not, mem_unitsOf]
  constructor
  · rintro ⟨⟨u, ⟨a, b⟩, c⟩, d⟩; exact ⟨d, u, a, b, c⟩
  · rintro ⟨d, u, a, b, c⟩; exact ⟨⟨u, ⟨a, b⟩, c⟩, d⟩
theorem peers_lt {f : Frame} {k j : Nat} (h : (peers f k).testBit j = true) : j < cells f := by
  unfold peers at h
  rw [tb_sub, Bool.and_eq_true, tb_or_fold, Nat.zero_testBit] at h
  rcases h.1 with q | ⟨u, a, b⟩
  · cases q
  · exact unit_lt (mem_unitsOf.mp a).1 b
structure Sgn where
  k : Nat
  d : Nat
  a : Nat
  b : Nat
deriving DecidableEq
def sgnOf (f : Frame) (k d : Nat) : Sgn := ⟨k, d, sa f k d, sb f k d⟩
def signs (f : Frame) : List Sgn := (List.range (cells f)).flatMap fun k => ([0, 1].filter fun d => sg f k d != 0).map (sgnOf f k)
theorem mem_signs {f : Frame} {g : Sgn} : g ∈ signs f ↔ ∃ k d, k < cells f ∧ d < 2 ∧ sg f k d ≠ 0 ∧ g = sgnOf f k d := by
  unfold signs
  simp only [List.mem_flatMap, List.mem_range, List.mem_map, List.mem_filter, List.mem_cons, List.not_mem_nil, or_false, bne_iff_ne]
  constructor
  · rintro ⟨k, hk, d, ⟨hd, h⟩, rfl⟩
    exact ⟨k, d, hk, by omega, h, rfl⟩
  · rintro ⟨k, d, hk, hd, h, rfl⟩
    exact ⟨k, hk, d, ⟨by omega, h⟩, rfl⟩
def signsAt (f : Frame) (k : Nat) : List Sgn := (signs f).filter fun g => k == g.a || k == g.b
def strikesOf (s : St) (l : List Nat) (x : Nat) : List (Nat × Nat) := (l.filter fun k => at_ s k &&& x != 0).map fun k => (k, at_ s k &&& x)
theorem mem_strikesOf {s : St} {l : List Nat} {x : Nat} {p : Nat × Nat} : p ∈ strikesOf s l x ↔ p.1 ∈ l ∧ at_ s p.1 &&& x ≠ 0 ∧ p.2 = at_ s p.1 &&& x := by
  unfold strikesOf
  rw [List.mem_map]
  constructor
  · rintro ⟨k, hk, rfl⟩
    have := List.mem_filter.mp hk
    exact ⟨this.1, by simpa using this.2, rfl⟩
  · rintro ⟨h1, h2, h3⟩
    exact ⟨p.1, List.mem_filter.mpr ⟨h1, by simpa using h2⟩, by rw [← h3]⟩
def strikesBySign (s : St) (a b : Nat) : List (Nat × Nat) := if at_ s a = 0 ∨ at_ s b = 0 then [] else
  strikesOf s [a] (sub (at_ s a) (2 ^ (at_ s b).log2 - 1)) ++ strikesOf s [b] (2 * 2 ^ low (at_ s a) - 1)
theorem tb_below (m i : Nat) : (2 ^ m - 1).testBit i = decide (i < m) := Nat.testBit_two_pow_sub_one m i
theorem tb_upto (m i : Nat) : (2 * 2 ^ m - 1).testBit i = decide (i ≤ m) := by
  have e : 2 * 2 ^ m = 2 ^ (m + 1) := by rw [Nat.pow_succ, Nat.mul_comm]
  rw [e, tb_below]
  congr 1
  exact propext Nat.lt_succ_iff
abbrev TS := St × List (Nat × Nat)
def hitAt (t : TS) (k h : Nat) : TS := if h = 0 then t else (t.1.set k (sub (at_ t.1 k) h), t.2 ++ [(k, h)])
def strikeAll (t : TS) (l : List (Nat × Nat)) : TS := l.foldl (fun t p => hitAt t p.1 (at_ t.1 p.1 &&& p.2)) t
def lookCell (f : Frame) (t : TS) (k : Nat) : TS :=
  let t1 := if single (at_ t.1 k) then strikeAll t (strikesOf t.1 (bitsOf (pl t.1 (low (at_ t.1 k)) &&& peers f k)) (at_ t.1 k)) else t
  (signsAt f k).foldl (fun t g => strikeAll t (strikesBySign t.1 g.a g.b)) t1
def lookUnit (f : Frame) (t : TS) (u v : Nat) : TS :=
  let there := pl t.1 v &&& mask f u
  if single there then hitAt t (low there) (sub (at_ t.1 (low there)) (2 ^ v))
  else (unitsOf f (low there)).foldl (fun t w => if sub there (mask f w) = 0 then strikeAll t (strikesOf t.1 (bitsOf (sub (pl t.1 v &&& mask f w) there)) (2 ^ v)) else t) t
def cpN (N : List (Nat × Nat)) (k : Nat) : Prop := ∃ h, (k, h) ∈ N
def upN (f : Frame) (N : List (Nat × Nat)) (u v : Nat) : Prop := ∃ k h, (k, h) ∈ N ∧ k ∈ unit f u ∧ h.testBit v = true
structure Pend (f : Frame) (t : TS) (cx : Nat → Prop) (gx : Sgn → Prop) (ux : Nat → Nat → Prop) : Prop where
  cell : ∀ k, k < cells f → ¬ cpN t.2 k → ¬ cx k → at_ t.1 k ≠ 0
  cov : ∀ u v, u < nU f → 1 ≤ v → v ≤ f.n → ¬ upN f t.2 u v → ¬ ux u v → ∃ k, k ∈ unit f u ∧ has t.1 k v = true
  set : ∀ k j v, k < cells f → j < cells f → ¬ cpN t.2 k → ¬ cx k → meet f k j = true → at_ t.1 k = 2 ^ v → has t.1 j v = true → False
  only : ∀ u v k, u < nU f → 1 ≤ v → v ≤ f.n → ¬ upN f t.2 u v → ¬ ux u v → k ∈ unit f u → has t.1 k v = true → (∀ j, j ∈ unit f u → has t.1 j v = true → j = k) → at_ t.1 k = 2 ^ v
  sgn : ∀ k d, k < cells f → d < 2 → sg f k d ≠ 0 → ¬ cpN t.2 (sa f k d) → ¬ cpN t.2 (sb f k d) → ¬ gx (sgnOf f k d) → (∀ v, has t.1 (sb f k d) v = true → low (at_ t.1 (sa f k d)) < v) ∧ ∀ v, has t.1 (sa f k d) v = true → v < (at_ t.1 (sb f k d)).log2
  lock : ∀ u w v, u < nU f → w < nU f → 1 ≤ v → v ≤ f.n → ¬ upN f t.2 u v → ¬ ux u v → (∃ i j, i ∈ unit f u ∧ j ∈ unit f u ∧ i ≠ j ∧ has t.1 i v = true ∧ has t.1 j v = true) →
    (∀ k, k ∈ unit f u → has t.1 k v = true → k ∈ unit f w) → ∀ j, j ∈ unit f w → has t.1 j v = true → j ∈ unit f u
abbrev no1 {α : Type} : α → Prop := fun _ => False
abbrev no2 {α β : Type} : α → β → Prop := fun _ _ => False
theorem Pend.closed {f : Frame} (R : Rt f) {s : St} (p : Pend f (s, []) no1 no1 no2) : Cl f s := by
  have nc : ∀ k, ¬ cpN [] k := fun k ⟨h, q⟩ => by cases q
  have nu : ∀ u v, ¬ upN f [] u v := fun u v ⟨k, h, q, _⟩ => by cases q
  refine ⟨fun k hk => p.cell k hk (nc k) id, fun u v hu h1 h2 => p.cov u v hu h1 h2 (nu u v) id, fun k j v hk hj => p.set k j v hk hj (nc k) id, fun u v k hu h1 h2 => p.only u v k hu h1 h2 (nu u v) id,
    fun k d hk hd hg => p.sgn k d hk hd hg (nc _) (nc _) id, fun u w v hu hw h1 h2 q j hj hv => ?_⟩
  obtain ⟨k, hk, hkv⟩ := p.cov u v hu h1 h2 (nu u v) id
  by_cases two : ∃ i j, i ∈ unit f u ∧ j ∈ unit f u ∧ i ≠ j ∧ has s i v = true ∧ has s j v = true
  · exact p.lock u w v hu hw h1 h2 (nu u v) id two q j hj hv
  · have uq : ∀ i, i ∈ unit f u → has s i v = true → i = k := fun i hi hiv => Classical.byContradiction fun c => two ⟨i, k, hi, hk, c, hiv, hkv⟩
    have e := p.only u v k hu h1 h2 (nu u v) id hk hkv uq
    refine Classical.byContradiction fun c => ?_
    have hkw := q k hk hkv
    have hne : k ≠ j := fun z => c (z ▸ hk)
    exact p.set k j v (unit_lt hu hk) (unit_lt hw hj) (nc k) id ((meet_iff R (unit_lt hu hk) (unit_lt hw hj)).mpr ⟨hne, w, hw, hkw, hj⟩) e hv
theorem at_set {s : St} {k j x : Nat} (hk : k < s.length) : at_ (s.set k x) j = if j = k then x else at_ s j := by
  unfold at_
  rw [List.getD_eq_getElem?_getD, List.getD_eq_getElem?_getD]
  by_cases e : j = k
  · rw [if_pos e, e, List.getElem?_set_self hk]; rfl
  · rw [if_neg e, List.getElem?_set_ne (fun q => e q.symm)]
theorem hit_at {s : St} {k j h : Nat} (hk : k < s.length) : at_ (s.set k (sub (at_ s k) h)) j = if j = k then sub (at_ s k) h else at_ s j := at_set hk
theorem hit_has {s : St} {k j h v : Nat} (hk : k < s.length) : has (s.set k (sub (at_ s k) h)) j v = (has s j v && !(decide (j = k) && h.testBit v)) := by
  rw [has_def, hit_at hk]
  by_cases e : j = k
  · rw [if_pos e, tb_sub, e]; simp [has_def]
  · rw [if_neg e]; simp [e, has_def]
theorem hit_le {s : St} {k h : Nat} (hk : k < s.length) : Le (s.set k (sub (at_ s k) h)) s := fun j v e => by
  rw [hit_has hk, Bool.and_eq_true] at e; exact e.1
theorem pend_hit {f : Frame} {t : TS} {cx : Nat → Prop} {gx : Sgn → Prop} {ux : Nat → Nat → Prop} (p : Pend f t cx gx ux) {k h : Nat} (hk : k < t.1.length) : Pend f (hitAt t k h) cx gx ux := by
  obtain ⟨s, N⟩ := t
  unfold hitAt
  by_cases h0 : h = 0
  · rw [if_pos h0]; exact p
  rw [if_neg h0]
  dsimp only at hk ⊢
  have cN : ∀ j, ¬ cpN (N ++ [(k, h)]) j → ¬ cpN N j ∧ j ≠ k := fun j q => ⟨fun ⟨x, hx⟩ => q ⟨x, List.mem_append_left _ hx⟩, fun e => q ⟨h, by rw [e]; simp⟩⟩
  have same : ∀ j, j ≠ k → at_ (s.set k (sub (at_ s k) h)) j = at_ s j := fun j e => by rw [hit_at hk, if_neg e]
  have le := hit_le (s := s) (h := h) hk
  have uN : ∀ u v, ¬ upN f (N ++ [(k, h)]) u v → ¬ upN f N u v ∧ ∀ j, j ∈ unit f u → has (s.set k (sub (at_ s k) h)) j v = has s j v := fun u v q => by
    refine ⟨fun ⟨x, y, a, b⟩ => q ⟨x, y, List.mem_append_left _ a, b⟩, fun j hj => ?_⟩
    rw [hit_has hk]
    by_cases e : j = k
    · have : h.testBit v = false := by
        cases z : h.testBit v with
        | false => rfl
        | true => exact (q ⟨k, h, by simp, e ▸ hj, z⟩).elim
      rw [this]; simp
    · simp [e]
  refine ⟨fun j hj a b => ?_, fun u v hu h1 h2 a b => ?_, fun i j v hi hj a b m e hv => ?_, fun u v i hu h1 h2 a b hi hv uq => ?_, fun i d hi hd hg a b c => ?_, fun u w v hu hw h1 h2 a b two q j hj hv => ?_⟩
  · obtain ⟨a1, a2⟩ := cN j a
    show at_ (s.set k (sub (at_ s k) h)) j ≠ 0
    rw [same j a2]; exact p.cell j hj a1 b
  · obtain ⟨a1, a2⟩ := uN u v a
    obtain ⟨j, hj, e⟩ := p.cov u v hu h1 h2 a1 b
    exact ⟨j, hj, (a2 j hj).trans e⟩
  · obtain ⟨a1, a2⟩ := cN i a
    have e : at_ (s.set k (sub (at_ s k) h)) i = 2 ^ v := e
    rw [same i a2] at e
    exact p.set i j v hi hj a1 b m e (le j v hv)
  · obtain ⟨a1, a2⟩ := uN u v a
    have hv' : has s i v = true := (a2 i hi).symm.trans hv
    have e : at_ s i = 2 ^ v := p.only u v i hu h1 h2 a1 b hi hv' fun j hj z => uq j hj ((a2 j hj).trans z)
    refine single_of hv fun x hx => ?_
    have := le i x hx
    rw [has_def, e, tb_pow, decide_eq_true_iff] at this
    exact this.symm
  · obtain ⟨a1, a2⟩ := cN _ a
    obtain ⟨b1, b2⟩ := cN _ b
    have := p.sgn i d hi hd hg a1 b1 c
    show (∀ v, has (s.set k (sub (at_ s k) h)) (sb f i d) v = true → low (at_ (s.set k (sub (at_ s k) h)) (sa f i d)) < v) ∧ ∀ v, has (s.set k (sub (at_ s k) h)) (sa f i d) v = true → v < (at_ (s.set k (sub (at_ s k) h)) (sb f i d)).log2
    rw [same _ a2, same _ b2]
    exact ⟨fun v z => this.1 v (le _ _ z), fun v z => this.2 v (le _ _ z)⟩
  · obtain ⟨a1, a2⟩ := uN u v a
    obtain ⟨x, y, hx, hy, hne, ex, ey⟩ := two
    exact p.lock u w v hu hw h1 h2 a1 b ⟨x, y, hx, hy, hne, le _ _ ex, le _ _ ey⟩ (fun z hz hzv => q z hz ((a2 z hz).trans hzv)) j hj (le _ _ hv)
structure Ran (f : Frame) (t t' : TS) : Prop where
  wf : Wf f t'.1
  le : Le t'.1 t.1
  pend : ∀ cx gx ux, Pend f t cx gx ux → Pend f t' cx gx ux
  cp : ∀ k, cpN t.2 k → cpN t'.2 k
  key : (∀ p ∈ t.2, p.1 < cells f ∧ ∀ v, p.2.testBit v = true → 1 ≤ v ∧ v ≤ f.n) → ∀ p ∈ t'.2, p.1 < cells f ∧ ∀ v, p.2.testBit v = true → 1 ≤ v ∧ v ≤ f.n
  mea : 2 * card t'.1 + t'.2.length ≤ 2 * card t.1 + t.2.length
  siz : card t'.1 + t'.2.length ≤ card t.1 + t.2.length
  same : ∀ k, ¬ cpN t'.2 k → at_ t'.1 k = at_ t.1 k
theorem Ran.refl {f : Frame} {t : TS} (w : Wf f t.1) : Ran f t t := ⟨w, Le.refl _, fun _ _ _ p => p, fun _ h => h, fun h => h, Nat.le_refl _, Nat.le_refl _, fun _ _ => rfl⟩
theorem Ran.trans {f : Frame} {a b c : TS} (x : Ran f a b) (y : Ran f b c) : Ran f a c :=
  ⟨y.wf, y.le.trans x.le, fun cx gx ux p => y.pend _ _ _ (x.pend _ _ _ p), fun k h => y.cp k (x.cp k h), fun h => y.key (x.key h), Nat.le_trans y.mea x.mea, Nat.le_trans y.siz x.siz,
    fun k h => (y.same k h).trans (x.same k fun q => h (y.cp k q))⟩
theorem bits_1024 {f : Frame} (R : Rt f) {m : Nat} (h : ∀ v, m.testBit v = true → v ≤ f.n) : m < 1024 := by
  have : m < 2 ^ 10 := lt_pow_of fun i hi => by
    cases z : m.testBit i with
    | false => rfl
    | true => have := h i z; have := R.hi; omega
  exact this
theorem Ran.hit {f : Frame} (R : Rt f) {t : TS} (w : Wf f t.1) {k h : Nat} (hk : k < cells f) (hh : ∀ v, h.testBit v = true → has t.1 k v = true) : Ran f t (hitAt t k h) := by
  obtain ⟨s, N⟩ := t
  have hk' : k < s.length := by rw [w.len]; exact hk
  by_cases h0 : h = 0
  · have e : hitAt (s, N) k h = (s, N) := if_pos h0
    rw [e]; exact Ran.refl w
  · have e : hitAt (s, N) k h = (s.set k (sub (at_ s k) h), N ++ [(k, h)]) := if_neg h0
    have le := hit_le (s := s) (h := h) hk'
    obtain ⟨v, hv⟩ := some_bit h0
    have hc : card (s.set k (sub (at_ s k) h)) < card s := card_lt (by simp) le (hh v hv) (by rw [hit_has hk', hv]; simp)
    refine ⟨?_, ?_, fun cx gx ux p => pend_hit p hk', ?_, ?_, ?_, ?_, ?_⟩
    · rw [e]; exact ⟨by simpa using w.len, fun j v q => w.bit j v (le j v q)⟩
    · rw [e]; exact le
    · rw [e]; exact fun j ⟨x, hx⟩ => ⟨x, List.mem_append_left _ hx⟩
    · rw [e]
      intro a p hp
      rcases List.mem_append.mp hp with q | q
      · exact a p q
      · have q : p = (k, h) := by simpa using q
        rw [q]; exact ⟨hk, fun v hv => w.bit k v (hh v hv)⟩
    · rw [e]; simp; omega
    · rw [e]; simp; omega
    · rw [e]
      intro j q
      show at_ (s.set k (sub (at_ s k) h)) j = at_ s j
      rw [hit_at hk', if_neg fun z => q ⟨h, by rw [z]; simp⟩]
theorem and_sub {s : St} {k x v : Nat} (h : (at_ s k &&& x).testBit v = true) : has s k v = true := by
  rw [Nat.testBit_and, Bool.and_eq_true] at h; exact h.1
theorem Ran.all {f : Frame} (R : Rt f) : ∀ {l : List (Nat × Nat)} {t : TS}, Wf f t.1 → (∀ p ∈ l, p.1 < cells f) → Ran f t (strikeAll t l)
  | [], t, w, _ => Ran.refl w
  | p :: l, t, w, h => by
    have r := Ran.hit R w (h p List.mem_cons_self) (h := at_ t.1 p.1 &&& p.2) fun v => and_sub
    exact r.trans (Ran.all R (l := l) r.wf fun q hq => h q (List.mem_cons_of_mem _ hq))
theorem all_other {f : Frame} (R : Rt f) : ∀ {l : List (Nat × Nat)} {t : TS} {j : Nat}, Wf f t.1 → (∀ p ∈ l, p.1 < cells f) → (∀ p ∈ l, p.1 ≠ j) → at_ (strikeAll t l).1 j = at_ t.1 j
  | [], t, j, _, _, _ => rfl
  | p :: l, t, j, w, h, hj => by
    have r := Ran.hit R w (h p List.mem_cons_self) (h := at_ t.1 p.1 &&& p.2) fun v => and_sub
    have e := all_other R (l := l) r.wf (fun q hq => h q (List.mem_cons_of_mem _ hq)) (fun q hq => hj q (List.mem_cons_of_mem _ hq))
    refine Eq.trans e ?_
    unfold hitAt
    split
    · rfl
    · show at_ (t.1.set p.1 _) j = at_ t.1 j
      rw [hit_at (by rw [w.len]; exact h p List.mem_cons_self), if_neg (Ne.symm (hj p List.mem_cons_self))]
theorem all_gone {f : Frame} (R : Rt f) : ∀ {l : List (Nat × Nat)} {t : TS} {j v x : Nat}, Wf f t.1 → (∀ p ∈ l, p.1 < cells f) → (j, x) ∈ l → x.testBit v = true → has (strikeAll t l).1 j v = false
  | [], t, j, v, x, _, _, hm, _ => by cases hm
  | p :: l, t, j, v, x, w, h, hm, hv => by
    have r := Ran.hit R w (h p List.mem_cons_self) (h := at_ t.1 p.1 &&& p.2) fun v => and_sub
    rcases List.mem_cons.mp hm with e | e
    · have r2 := Ran.all R (l := l) r.wf fun q hq => h q (List.mem_cons_of_mem _ hq)
      cases z : has (strikeAll t (p :: l)).1 j v with
      | false => rfl
      | true =>
        have z1 : has (hitAt t p.1 (at_ t.1 p.1 &&& p.2)).1 j v = true := r2.le j v z
        rw [← e] at z1
        have z0 := r.le j v (by rw [← e]; exact z1)
        have hx : (at_ t.1 j &&& x).testBit v = true := by
          rw [Nat.testBit_and, hv]
          rw [has_def] at z0
          rw [z0]; rfl
        unfold hitAt at z1
        rw [if_neg (ne_zero_of hx)] at z1
        have hj : j < t.1.length := by rw [w.len]; have := h p List.mem_cons_self; rw [← e] at this; exact this
        have z1 : has (t.1.set j (sub (at_ t.1 j) (at_ t.1 j &&& x))) j v = true := z1
        rw [hit_has hj, hx] at z1
        simp at z1
    · exact all_gone R (l := l) r.wf (fun q hq => h q (List.mem_cons_of_mem _ hq)) e hv
theorem all_news {f : Frame} (R : Rt f) : ∀ {l : List (Nat × Nat)} {t : TS} {j x : Nat}, Wf f t.1 → (∀ p ∈ l, p.1 < cells f) → (j, x) ∈ l → at_ t.1 j &&& x ≠ 0 → cpN (strikeAll t l).2 j := by
  intro l t j x w h hm hx
  refine Classical.byContradiction fun c => ?_
  have r := Ran.all R (t := t) w h
  obtain ⟨v, hv⟩ := some_bit hx
  have e := r.same j c
  rw [Nat.testBit_and, Bool.and_eq_true] at hv
  have := all_gone R (t := t) w h hm hv.2
  rw [has_def, e, hv.1] at this
  cases this
def Snd (f : Frame) (s s' : St) : Prop := ∀ C, Wf f C → Cl f C → Le C s → Le C s'
theorem Snd.refl {f : Frame} (s : St) : Snd f s s := fun _ _ _ h => h
theorem Snd.trans {f : Frame} {a b c : St} (x : Snd f a b) (y : Snd f b c) : Snd f a c := fun C w k h => y C w k (x C w k h)
theorem snd_hit {f : Frame} {t : TS} {k h : Nat} (hk : k < t.1.length) (q : ∀ C, Wf f C → Cl f C → Le C t.1 → ∀ v, h.testBit v = true → has C k v = true → False) : Snd f t.1 (hitAt t k h).1 := by
  intro C w c le
  unfold hitAt
  split
  · exact le
  · intro j v e
    show has (t.1.set k (sub (at_ t.1 k) h)) j v = true
    rw [hit_has hk, le j v e, Bool.true_and, Bool.not_eq_true', Bool.and_eq_false_iff]
    by_cases z : j = k
    · right
      cases y : h.testBit v with
      | false => rfl
      | true => exact (q C w c le v y (z ▸ e)).elim
    · left; simpa using z
theorem snd_all {f : Frame} (R : Rt f) {s₀ : St} : ∀ {l : List (Nat × Nat)} {t : TS}, Wf f t.1 → (∀ p ∈ l, p.1 < cells f) → (∀ C, Wf f C → Cl f C → Le C s₀ → ∀ p ∈ l, ∀ v, p.2.testBit v = true → has C p.1 v = true → False) → Le t.1 s₀ → Snd f t.1 (strikeAll t l).1
  | [], t, w, _, _, _ => Snd.refl _
  | p :: l, t, w, h, q, le => by
    have hp := h p List.mem_cons_self
    have r := Ran.hit R w hp (h := at_ t.1 p.1 &&& p.2) fun v => and_sub
    have a : Snd f t.1 (hitAt t p.1 (at_ t.1 p.1 &&& p.2)).1 := snd_hit (by rw [w.len]; exact hp) fun C wC c leC v hv hC => by
      rw [Nat.testBit_and, Bool.and_eq_true] at hv
      exact q C wC c (leC.trans le) p List.mem_cons_self v hv.2 hC
    exact a.trans (snd_all R (l := l) r.wf (fun q hq => h q (List.mem_cons_of_mem _ hq)) (fun C wC c leC p hp => q C wC c leC p (List.mem_cons_of_mem _ hp)) (r.le.trans le))
end Sq
namespace Sq
open Kgi1 (Frame cells rowOf colOf regionOf hasRegions meet numbers)
open Kgi2
theorem Pend.mono {f : Frame} {t : TS} {cx cx' : Nat → Prop} {gx gx' : Sgn → Prop} {ux ux' : Nat → Nat → Prop} (p : Pend f t cx gx ux) (a : ∀ k, k < cells f → cx k → cx' k) (b : ∀ g, g ∈ signs f → gx g → gx' g) (c : ∀ u v, u < nU f → 1 ≤ v → v ≤ f.n → ux u v → ux' u v) : Pend f t cx' gx' ux' :=
  ⟨fun k hk n x => p.cell k hk n fun z => x (a k hk z), fun u v hu h1 h2 n x => p.cov u v hu h1 h2 n fun z => x (c u v hu h1 h2 z), fun k j v hk hj n x => p.set k j v hk hj n fun z => x (a k hk z),
    fun u v k hu h1 h2 n x => p.only u v k hu h1 h2 n fun z => x (c u v hu h1 h2 z), fun k d hk hd hg n n' x => p.sgn k d hk hd hg n n' fun z => x (b _ (mem_signs.mpr ⟨k, d, hk, hd, hg, rfl⟩) z),
    fun u w v hu hw h1 h2 n x => p.lock u w v hu hw h1 h2 n fun z => x (c u v hu h1 h2 z)⟩
def cellL (f : Frame) (t : TS) (k : Nat) : TS := if single (at_ t.1 k) then strikeAll t (strikesOf t.1 (bitsOf (pl t.1 (low (at_ t.1 k)) &&& peers f k)) (at_ t.1 k)) else t
def signL (t : TS) (g : Sgn) : TS := strikeAll t (strikesBySign t.1 g.a g.b)
theorem lookCell_eq (f : Frame) (t : TS) (k : Nat) : lookCell f t k = (signsAt f k).foldl signL (cellL f t k) := rfl
theorem cellL_key {f : Frame} {t : TS} {k : Nat} : ∀ p ∈ strikesOf t.1 (bitsOf (pl t.1 (low (at_ t.1 k)) &&& peers f k)) (at_ t.1 k), p.1 < cells f := fun p hp => by
  have := mem_bitsOf.mp (mem_strikesOf.mp hp).1
  rw [Nat.testBit_and, Bool.and_eq_true] at this
  exact peers_lt this.2
theorem cellL_ran {f : Frame} (R : Rt f) {t : TS} (w : Wf f t.1) (k : Nat) : Ran f t (cellL f t k) := by
  unfold cellL
  split
  · exact Ran.all R w cellL_key
  · exact Ran.refl w
theorem cellL_snd {f : Frame} (R : Rt f) {t : TS} (w : Wf f t.1) {k : Nat} (hk : k < cells f) : Snd f t.1 (cellL f t k).1 := by
  unfold cellL
  split
  · rename_i h1
    refine snd_all R w cellL_key (s₀ := t.1) (fun C wC c le p hp v hv hC => ?_) (Le.refl _)
    obtain ⟨a, b, e⟩ := mem_strikesOf.mp hp
    rw [e, Nat.testBit_and, Bool.and_eq_true] at hv
    have hj := cellL_key p hp
    have hm : meet f k p.1 = true := by
      have := mem_bitsOf.mp a
      rw [Nat.testBit_and, Bool.and_eq_true, tb_peers R hk hj] at this
      exact this.2
    refine c.set k p.1 v hk hj hm ?_ hC
    obtain ⟨x, hx⟩ := some_bit (c.cell k hk)
    have ex : x = v := single_uniq h1 (le k x hx) hv.2
    subst ex
    exact single_of hx fun i hi => single_uniq h1 (le k i hi) hv.2
  · exact Snd.refl _
theorem cellL_at {f : Frame} (R : Rt f) {t : TS} (w : Wf f t.1) {k : Nat} (hk : k < cells f) : at_ (cellL f t k).1 k = at_ t.1 k := by
  unfold cellL
  split
  · refine all_other R w cellL_key fun p hp e => ?_
    have := mem_bitsOf.mp (mem_strikesOf.mp hp).1
    rw [Nat.testBit_and, Bool.and_eq_true, e, tb_peers R hk hk] at this
    have h2 := this.2
    unfold meet at h2
    simp at h2
  · rfl
theorem cellL_pend {f : Frame} (R : Rt f) {t : TS} (w : Wf f t.1) {k : Nat} (hk : k < cells f) (h0 : at_ t.1 k ≠ 0) {gx : Sgn → Prop} {ux : Nat → Nat → Prop} (p : Pend f t (· = k) gx ux) : Pend f (cellL f t k) no1 gx ux := by
  have p' := (cellL_ran R w k).pend _ _ _ p
  have ek := cellL_at R w hk
  refine ⟨fun i hi n _ => ?_, fun u v hu h1 h2 n x => p'.cov u v hu h1 h2 n x, fun i j v hi hj n _ m e hv => ?_, fun u v i hu h1 h2 n x => p'.only u v i hu h1 h2 n x, fun i d hi hd hg n n' x => p'.sgn i d hi hd hg n n' x, fun u w v hu hw h1 h2 n x => p'.lock u w v hu hw h1 h2 n x⟩
  · by_cases e : i = k
    · rw [e, ek]; exact h0
    · exact p'.cell i hi n e
  · by_cases ei : i = k
    · subst ei
      rw [ek] at e
      have hs : single (at_ t.1 i) = true := by rw [e]; exact pow_single v
      have hv0 := (cellL_ran R w i).le j v hv
      unfold cellL at hv
      rw [if_pos hs] at hv
      have hl : low (at_ t.1 i) = v := by rw [e]; exact pow_low v
      have hb : (at_ t.1 j &&& at_ t.1 i).testBit v = true := by
        rw [Nat.testBit_and, e, tb_pow]
        rw [has_def] at hv0
        rw [hv0]; simp
      have := all_gone R (t := t) w (cellL_key (f := f) (t := t) (k := i)) (j := j) (v := v) (x := at_ t.1 j &&& at_ t.1 i) (mem_strikesOf.mpr ⟨mem_bitsOf.mpr (by
        rw [Nat.testBit_and, hl, tb_pl, tb_peers R hi hj, m, hv0]; rfl), ne_zero_of hb, rfl⟩) hb
      rw [hv] at this; cases this
    · exact p'.set i j v hi hj n ei m e hv
theorem signL_key {f : Frame} {t : TS} {g : Sgn} (R : Rt f) (hg : g ∈ signs f) : ∀ p ∈ strikesBySign t.1 g.a g.b, p.1 < cells f := fun p hp => by
  obtain ⟨k, d, hk, hd, h, rfl⟩ := mem_signs.mp hg
  unfold strikesBySign at hp
  split at hp
  · cases hp
  · rcases List.mem_append.mp hp with q | q
    · have := (mem_strikesOf.mp q).1
      simp at this
      rw [this]; exact sa_lt R hk h
    · have := (mem_strikesOf.mp q).1
      simp at this
      rw [this]; exact sb_lt R hk h
theorem signL_ran {f : Frame} (R : Rt f) {t : TS} (w : Wf f t.1) {g : Sgn} (hg : g ∈ signs f) : Ran f t (signL t g) := Ran.all R w (signL_key R hg)
theorem signL_snd {f : Frame} (R : Rt f) {t : TS} (w : Wf f t.1) {g : Sgn} (hg : g ∈ signs f) : Snd f t.1 (signL t g).1 := by
  refine snd_all R w (signL_key R hg) (s₀ := t.1) (fun C wC c le p hp v hv hC => ?_) (Le.refl _)
  obtain ⟨k, d, hk, hd, h, rfl⟩ := mem_signs.mp hg
  obtain ⟨c1, c2⟩ := c.sgn k d hk hd h
  unfold strikesBySign at hp
  split at hp
  · cases hp
  · rename_i h0
    rcases List.mem_append.mp hp with q | q
    · obtain ⟨a, b, e⟩ := mem_strikesOf.mp q
      have ea : p.1 = sa f k d := List.mem_singleton.mp a
      rw [ea] at hC e
      rw [e, Nat.testBit_and, Bool.and_eq_true, tb_sub, Bool.and_eq_true, Bool.not_eq_true', tb_below, decide_eq_false_iff_not] at hv
      have := c2 v hC
      have : (at_ C (sb f k d)).log2 ≤ (at_ t.1 (sb f k d)).log2 := le_log2 (le _ _ (log2_bit (c.cell _ (sb_lt R hk h))))
      have hx : ¬ v < (at_ t.1 (sb f k d)).log2 := hv.2.2
      omega
    · obtain ⟨a, b, e⟩ := mem_strikesOf.mp q
      have ea : p.1 = sb f k d := List.mem_singleton.mp a
      rw [ea] at hC e
      rw [e, Nat.testBit_and, Bool.and_eq_true, tb_upto, decide_eq_true_iff] at hv
      have := c1 v hC
      have : low (at_ t.1 (sa f k d)) ≤ low (at_ C (sa f k d)) := low_le (le _ _ (low_bit (c.cell _ (sa_lt R hk h))))
      have hx : v ≤ low (at_ t.1 (sa f k d)) := hv.2
      omega
theorem signL_pend {f : Frame} (R : Rt f) {t : TS} (w : Wf f t.1) {g : Sgn} (hg : g ∈ signs f) {l : List Sgn} {ux : Nat → Nat → Prop} (p : Pend f t no1 (· ∈ g :: l) ux) : Pend f (signL t g) no1 (· ∈ l) ux := by
  have r := signL_ran R w hg
  have p' := r.pend _ _ _ p
  refine ⟨p'.cell, p'.cov, p'.set, p'.only, fun i d hi hd hsg n n' x => ?_, p'.lock⟩
  by_cases e : sgnOf f i d = g
  · subst e
    have ea := r.same _ n
    have eb := r.same _ n'
    have na : ¬ cpN t.2 (sa f i d) := fun z => n (r.cp _ z)
    have nb : ¬ cpN t.2 (sb f i d) := fun z => n' (r.cp _ z)
    have ca := p.cell _ (sa_lt R hi hsg) na id
    have cb := p.cell _ (sb_lt R hi hsg) nb id
    show (∀ v, (at_ (signL t (sgnOf f i d)).1 (sb f i d)).testBit v = true → low (at_ (signL t (sgnOf f i d)).1 (sa f i d)) < v) ∧ ∀ v, (at_ (signL t (sgnOf f i d)).1 (sa f i d)).testBit v = true → v < (at_ (signL t (sgnOf f i d)).1 (sb f i d)).log2
    rw [ea, eb]
    have hS : strikesBySign t.1 (sa f i d) (sb f i d) = strikesOf t.1 [sa f i d] (sub (at_ t.1 (sa f i d)) (2 ^ (at_ t.1 (sb f i d)).log2 - 1)) ++ strikesOf t.1 [sb f i d] (2 * 2 ^ low (at_ t.1 (sa f i d)) - 1) := by
      unfold strikesBySign
      rw [if_neg]
      rintro (z | z)
      · exact ca z
      · exact cb z
    constructor
    · intro v hv
      refine Classical.byContradiction fun c => n' ?_
      have hb : (at_ t.1 (sb f i d) &&& (2 * 2 ^ low (at_ t.1 (sa f i d)) - 1)).testBit v = true := by
        rw [Nat.testBit_and, hv, tb_upto]; simp; omega
      refine all_news R w (signL_key R hg) (x := at_ t.1 (sb f i d) &&& (2 * 2 ^ low (at_ t.1 (sa f i d)) - 1)) ?_ ?_
      · show _ ∈ strikesBySign t.1 (sa f i d) (sb f i d)
        rw [hS]
        exact List.mem_append_right _ (mem_strikesOf.mpr ⟨by simp, ne_zero_of hb, rfl⟩)
      · refine ne_zero_of (i := v) ?_
        rw [Nat.testBit_and, hb, hv]; rfl
    · intro v hv
      refine Classical.byContradiction fun c => n ?_
      have hb : (at_ t.1 (sa f i d) &&& sub (at_ t.1 (sa f i d)) (2 ^ (at_ t.1 (sb f i d)).log2 - 1)).testBit v = true := by
        rw [Nat.testBit_and, tb_sub, hv, tb_below]; simp; omega
      refine all_news R w (signL_key R hg) (x := at_ t.1 (sa f i d) &&& sub (at_ t.1 (sa f i d)) (2 ^ (at_ t.1 (sb f i d)).log2 - 1)) ?_ ?_
      · show _ ∈ strikesBySign t.1 (sa f i d) (sb f i d)
        rw [hS]
        exact List.mem_append_left _ (mem_strikesOf.mpr ⟨by simp, ne_zero_of hb, rfl⟩)
      · refine ne_zero_of (i := v) ?_
        rw [Nat.testBit_and, hb, hv]; rfl
  · exact p'.sgn i d hi hd hsg n n' fun z => (List.mem_cons.mp z).elim e x
theorem signs_ok {f : Frame} (R : Rt f) {ux : Nat → Nat → Prop} : ∀ {l : List Sgn} {t : TS}, Wf f t.1 → (∀ g ∈ l, g ∈ signs f) → Pend f t no1 (· ∈ l) ux → Ran f t (l.foldl signL t) ∧ Snd f t.1 (l.foldl signL t).1 ∧ Pend f (l.foldl signL t) no1 no1 ux
  | [], t, w, _, p => ⟨Ran.refl w, Snd.refl _, p.mono (fun _ _ z => z) (fun _ _ z => by cases z) fun _ _ _ _ _ z => z⟩
  | g :: l, t, w, h, p => by
    have hg := h g List.mem_cons_self
    have r := signL_ran R w hg
    obtain ⟨a, b, c⟩ := signs_ok R (l := l) r.wf (fun q hq => h q (List.mem_cons_of_mem _ hq)) (signL_pend R w hg p)
    exact ⟨r.trans a, (signL_snd R w hg).trans b, c⟩
theorem mem_signsAt {f : Frame} {k : Nat} {g : Sgn} : g ∈ signsAt f k ↔ g ∈ signs f ∧ (g.a = k ∨ g.b = k) := by
  unfold signsAt
  rw [List.mem_filter]
  simp only [Bool.or_eq_true, beq_iff_eq]
  exact and_congr_right fun _ => or_congr eq_comm eq_comm
theorem lookCell_ok {f : Frame} (R : Rt f) {t : TS} (w : Wf f t.1) {k : Nat} (hk : k < cells f) (h0 : at_ t.1 k ≠ 0) {ux : Nat → Nat → Prop} (p : Pend f t (· = k) (fun g => g.a = k ∨ g.b = k) ux) :
    Ran f t (lookCell f t k) ∧ Snd f t.1 (lookCell f t k).1 ∧ Pend f (lookCell f t k) no1 no1 ux := by
  rw [lookCell_eq]
  have r := cellL_ran R w k
  have p1 := cellL_pend R w hk h0 p
  obtain ⟨a, b, c⟩ := signs_ok R (l := signsAt f k) r.wf (fun g hg => (mem_signsAt.mp hg).1) (p1.mono (fun _ _ z => z) (fun g hg z => mem_signsAt.mpr ⟨hg, z⟩) fun _ _ _ _ _ z => z)
  exact ⟨r.trans a, (cellL_snd R w hk).trans b, c⟩
theorem there_tb {f : Frame} {s : St} {u v k : Nat} : (pl s v &&& mask f u).testBit k = true ↔ k ∈ unit f u ∧ has s k v = true := by
  rw [Nat.testBit_and, Bool.and_eq_true, tb_pl, tb_mask]; exact and_comm
def lockL (f : Frame) (v there : Nat) (t : TS) (w : Nat) : TS := if sub there (mask f w) = 0 then strikeAll t (strikesOf t.1 (bitsOf (sub (pl t.1 v &&& mask f w) there)) (2 ^ v)) else t
theorem lookUnit_eq (f : Frame) (t : TS) (u v : Nat) : lookUnit f t u v =
    if single (pl t.1 v &&& mask f u) then hitAt t (low (pl t.1 v &&& mask f u)) (sub (at_ t.1 (low (pl t.1 v &&& mask f u))) (2 ^ v))
    else (unitsOf f (low (pl t.1 v &&& mask f u))).foldl (lockL f v (pl t.1 v &&& mask f u)) t := rfl
structure LockI (f : Frame) (u v there : Nat) (t : TS) (dn : Nat → Prop) : Prop where
  same : ∀ j, j ∈ unit f u → (has t.1 j v = true ↔ there.testBit j = true)
  done : ∀ w, dn w → w < nU f → sub there (mask f w) = 0 → ∀ j, j ∈ unit f w → has t.1 j v = true → j ∈ unit f u
theorem lockL_ok {f : Frame} (R : Rt f) {u v there w : Nat} {t : TS} {dn : Nat → Prop} (wf : Wf f t.1) (hu : u < nU f) (hv : 1 ≤ v ∧ v ≤ f.n) (hw : w < nU f) (ht : ∀ j, there.testBit j = true → j ∈ unit f u) (i : LockI f u v there t dn) :
    Ran f t (lockL f v there t w) ∧ Snd f t.1 (lockL f v there t w).1 ∧ LockI f u v there (lockL f v there t w) fun x => dn x ∨ x = w := by
  unfold lockL
  by_cases c : sub there (mask f w) = 0
  · rw [if_pos c]
    have key : ∀ p ∈ strikesOf t.1 (bitsOf (sub (pl t.1 v &&& mask f w) there)) (2 ^ v), (p.1 ∈ unit f w ∧ has t.1 p.1 v = true ∧ p.1 ∉ unit f u) ∧ ∀ x, p.2.testBit x = true → x = v := fun p hp => by
      obtain ⟨a, b, e⟩ := mem_strikesOf.mp hp
      have a := mem_bitsOf.mp a
      rw [tb_sub, Bool.and_eq_true, there_tb, Bool.not_eq_true'] at a
      refine ⟨⟨a.1.1, a.1.2, fun z => ?_⟩, fun x hx => ?_⟩
      · have := (i.same p.1 z).mp a.1.2
        rw [a.2] at this; cases this
      · rw [e, Nat.testBit_and, tb_pow, Bool.and_eq_true, decide_eq_true_iff] at hx
        exact hx.2.symm
    have lt : ∀ p ∈ strikesOf t.1 (bitsOf (sub (pl t.1 v &&& mask f w) there)) (2 ^ v), p.1 < cells f := fun p hp => unit_lt hw (key p hp).1.1
    have r := Ran.all R wf lt
    refine ⟨r, snd_all R wf lt (s₀ := t.1) (fun C wC c' le p hp x hx hC => ?_) (Le.refl _), fun j hj => ?_, fun x hx hxl hs j hj hjv => ?_⟩
    · obtain ⟨⟨a1, a2, a3⟩, a4⟩ := key p hp
      have ex := a4 x hx
      subst ex
      refine a3 (c'.lock u w x hu hw hv.1 hv.2 (fun k hk hkv => ?_) p.1 a1 hC)
      have := (i.same k hk).mp (le k x hkv)
      exact tb_mask.mp (sub_zero_iff.mp c k this)
    · rw [← i.same j hj]
      have e : at_ (strikeAll t (strikesOf t.1 (bitsOf (sub (pl t.1 v &&& mask f w) there)) (2 ^ v))).1 j = at_ t.1 j := all_other R wf lt fun p hp z => (key p hp).1.2.2 (z ▸ hj)
      rw [has_def, has_def, e]
    · rcases hx with hx | hx
      · exact i.done x hx hxl hs j hj (r.le j v hjv)
      · subst hx
        have hj0 := r.le j v hjv
        refine Classical.byContradiction fun nu => ?_
        have hb : (at_ t.1 j &&& 2 ^ v).testBit v = true := by
          rw [Nat.testBit_and, tb_pow]
          rw [has_def] at hj0
          rw [hj0]; simp
        have := all_gone R wf lt (j := j) (v := v) (x := at_ t.1 j &&& 2 ^ v) (mem_strikesOf.mpr ⟨mem_bitsOf.mpr (by
          rw [tb_sub, there_tb.mpr ⟨hj, hj0⟩]
          cases z : there.testBit j with
          | false => rfl
          | true => exact (nu (ht j z)).elim), ne_zero_of hb, rfl⟩) hb
        rw [hjv] at this; cases this
  · rw [if_neg c]
    refine ⟨Ran.refl wf, Snd.refl _, i.same, fun x hx hxl hs => ?_⟩
    rcases hx with hx | hx
    · exact i.done x hx hxl hs
    · subst hx; exact (c hs).elim
theorem locks_ok {f : Frame} (R : Rt f) {u v there : Nat} (hu : u < nU f) (hv : 1 ≤ v ∧ v ≤ f.n) (ht : ∀ j, there.testBit j = true → j ∈ unit f u) : ∀ {l : List Nat} {t : TS} {dn : Nat → Prop}, Wf f t.1 → (∀ w ∈ l, w < nU f) → LockI f u v there t dn →
    Ran f t (l.foldl (lockL f v there) t) ∧ Snd f t.1 (l.foldl (lockL f v there) t).1 ∧ LockI f u v there (l.foldl (lockL f v there) t) fun x => dn x ∨ x ∈ l
  | [], t, dn, w, _, i => ⟨Ran.refl w, Snd.refl _, i.same, fun x hx => i.done x (hx.resolve_right (by simp))⟩
  | w :: l, t, dn, wf, h, i => by
    obtain ⟨a, b, c⟩ := lockL_ok R wf hu hv (h w List.mem_cons_self) ht i
    obtain ⟨a', b', c'⟩ := locks_ok R hu hv ht (l := l) a.wf (fun q hq => h q (List.mem_cons_of_mem _ hq)) c
    refine ⟨a.trans a', b.trans b', c'.same, fun x hx => c'.done x ?_⟩
    rcases hx with hx | hx
    · exact .inl (.inl hx)
    · rcases List.mem_cons.mp hx with z | z
      · exact .inl (.inr z)
      · exact .inr z
theorem lookUnit_ok {f : Frame} (R : Rt f) {t : TS} (w : Wf f t.1) {u v : Nat} (hu : u < nU f) (hv : 1 ≤ v ∧ v ≤ f.n) (h0 : pl t.1 v &&& mask f u ≠ 0) {ux : Nat → Nat → Prop} (p : Pend f t no1 no1 ux) :
    Ran f t (lookUnit f t u v) ∧ Snd f t.1 (lookUnit f t u v).1 ∧ Pend f (lookUnit f t u v) no1 no1 fun a b => ux a b ∧ ¬ (a = u ∧ b = v) := by
  rw [lookUnit_eq]
  have hl := there_tb.mp (low_bit h0)
  have fin : ∀ t' : TS, Ran f t t' → (∃ k, k ∈ unit f u ∧ has t'.1 k v = true) → (∀ k, k ∈ unit f u → has t'.1 k v = true → (∀ j, j ∈ unit f u → has t'.1 j v = true → j = k) → at_ t'.1 k = 2 ^ v) →
      (∀ x, x < nU f → (∃ i j, i ∈ unit f u ∧ j ∈ unit f u ∧ i ≠ j ∧ has t'.1 i v = true ∧ has t'.1 j v = true) → (∀ k, k ∈ unit f u → has t'.1 k v = true → k ∈ unit f x) → ∀ j, j ∈ unit f x → has t'.1 j v = true → j ∈ unit f u) →
      Pend f t' no1 no1 fun a b => ux a b ∧ ¬ (a = u ∧ b = v) := fun t' r h1 h2 h3 => by
    have p' := r.pend _ _ _ p
    refine ⟨p'.cell, fun a b ha x1 x2 n x => ?_, p'.set, fun a b k ha x1 x2 n x => ?_, p'.sgn, fun a y b ha hy x1 x2 n x => ?_⟩
    · by_cases e : a = u ∧ b = v
      · obtain ⟨rfl, rfl⟩ := e; exact h1
      · exact p'.cov a b ha x1 x2 n fun z => x ⟨z, e⟩
    · by_cases e : a = u ∧ b = v
      · obtain ⟨rfl, rfl⟩ := e; exact h2 k
      · exact p'.only a b k ha x1 x2 n fun z => x ⟨z, e⟩
    · by_cases e : a = u ∧ b = v
      · obtain ⟨rfl, rfl⟩ := e; exact h3 y hy
      · exact p'.lock a y b ha hy x1 x2 n fun z => x ⟨z, e⟩
  by_cases c : single (pl t.1 v &&& mask f u) = true
  · rw [if_pos c]
    generalize hk2 : low (pl t.1 v &&& mask f u) = k2 at *
    have lt : k2 < cells f := unit_lt hu hl.1
    have lt' : k2 < t.1.length := by rw [w.len]; exact lt
    have uq : ∀ j, j ∈ unit f u → has t.1 j v = true → j = k2 := fun j a b => single_uniq c (there_tb.mpr ⟨a, b⟩) (there_tb.mpr hl)
    have r : Ran f t (hitAt t k2 (sub (at_ t.1 k2) (2 ^ v))) := Ran.hit R w lt fun x hx => by
      rw [tb_sub, Bool.and_eq_true] at hx; exact hx.1
    have e2 : at_ (hitAt t k2 (sub (at_ t.1 k2) (2 ^ v))).1 k2 = 2 ^ v := by
      unfold hitAt
      by_cases z : sub (at_ t.1 k2) (2 ^ v) = 0
      · rw [if_pos z]
        refine single_of hl.2 fun i hi => ?_
        have := sub_zero_iff.mp z i hi
        rw [tb_pow, decide_eq_true_iff] at this; exact this.symm
      · rw [if_neg z]
        show at_ (t.1.set k2 (sub (at_ t.1 k2) (sub (at_ t.1 k2) (2 ^ v)))) k2 = 2 ^ v
        rw [hit_at lt', if_pos rfl]
        refine ext fun i => ?_
        have hl2 := hl.2
        rw [has_def] at hl2
        rw [tb_sub, tb_sub, tb_pow]
        by_cases e : v = i
        · subst e; simp [hl2]
        · simp [e]
    have hk2v : has (hitAt t k2 (sub (at_ t.1 k2) (2 ^ v))).1 k2 v = true := by rw [has_def, e2, tb_pow]; simp
    refine ⟨r, snd_hit lt' fun C wC cC le x hx hC => ?_, fin _ r ⟨k2, hl.1, hk2v⟩ (fun k hk hkv _ => ?_) fun x hx two => ?_⟩
    · obtain ⟨k', a, b⟩ := cC.cov u v hu hv.1 hv.2
      have ek : k' = k2 := uq k' a (le k' v b)
      subst ek
      have eC := cC.only u v k' hu hv.1 hv.2 a b fun j a b => uq j a (le j v b)
      rw [has_def, eC, tb_pow, decide_eq_true_iff] at hC
      rw [tb_sub, tb_pow, ← hC] at hx
      simp at hx
    · rw [uq k hk (r.le k v hkv)]; exact e2
    · obtain ⟨i, j, a, b, c, d, e⟩ := two
      exact (c ((uq i a (r.le i v d)).trans (uq j b (r.le j v e)).symm)).elim
  · rw [if_neg c]
    have ht : ∀ j, (pl t.1 v &&& mask f u).testBit j = true → j ∈ unit f u := fun j h => (there_tb.mp h).1
    have i0 : LockI f u v (pl t.1 v &&& mask f u) t no1 := ⟨fun j hj => ⟨fun h => there_tb.mpr ⟨hj, h⟩, fun h => (there_tb.mp h).2⟩, fun _ h => h.elim⟩
    obtain ⟨r, sn, i⟩ := locks_ok R hu hv ht (l := unitsOf f (low (pl t.1 v &&& mask f u))) w (fun x hx => (mem_unitsOf.mp hx).1) i0
    refine ⟨r, sn, fin _ r ⟨_, hl.1, (i.same _ hl.1).mpr (low_bit h0)⟩ (fun k hk hkv uq => ?_) fun x hx _ q => ?_⟩
    · refine (c ?_).elim
      have e : pl t.1 v &&& mask f u = 2 ^ k := single_of (there_tb.mpr ⟨hk, r.le k v hkv⟩) fun j hj => uq j (ht j hj) ((i.same j (ht j hj)).mpr hj)
      rw [e]; exact pow_single k
    · have hsub : sub (pl t.1 v &&& mask f u) (mask f x) = 0 := sub_zero_iff.mpr fun j hj => tb_mask.mpr (q j (ht j hj) ((i.same j (ht j hj)).mpr hj))
      exact i.done x (.inr (mem_unitsOf.mpr ⟨hx, q _ hl.1 ((i.same _ hl.1).mpr (low_bit h0))⟩)) hx hsub
end Sq
namespace Sq
open Kgi1 (Frame cells rowOf colOf regionOf hasRegions meet numbers)
open Kgi2
theorem find_at {α β : Type} {g : α → Option β} : ∀ {l : List α} {i : Nat} {x : α} {r : β}, l[i]? = some x → g x = some r → (∀ j y, j < i → l[j]? = some y → g y = none) → l.findSome? g = some r
  | [], i, x, r, h, _, _ => by simp at h
  | y :: l, 0, x, r, h, e, _ => by
    have : y = x := by simpa using h
    subst this
    rw [List.findSome?_cons, e]
  | y :: l, i + 1, x, r, h, e, p => by
    have h0 : g y = none := p 0 y (Nat.succ_pos _) rfl
    rw [List.findSome?_cons, h0]
    exact find_at (l := l) (i := i) (by simpa using h) e fun j z hj hz => p (j + 1) z (by omega) (by simpa using hz)
theorem find_no {α β : Type} {g : α → Option β} {l : List α} (h : ∀ (j : Nat) y, l[j]? = some y → g y = none) : l.findSome? g = none := by
  rw [List.findSome?_eq_none_iff]
  intro x hx
  obtain ⟨i, hi, e⟩ := List.mem_iff_getElem.mp hx
  exact h i x (by rw [List.getElem?_eq_getElem hi, e])
theorem find_range {β : Type} {g : Nat → Option β} {n i : Nat} {r : β} (hi : i < n) (e : g i = some r) (p : ∀ j, j < i → g j = none) : (List.range n).findSome? g = some r :=
  find_at (i := i) (x := i) (List.getElem?_range hi) e fun j y hj hy => by
    rw [List.getElem?_range (by omega)] at hy
    cases hy
    exact p j hj
theorem find_range_no {β : Type} {g : Nat → Option β} {n : Nat} (p : ∀ j, j < n → g j = none) : (List.range n).findSome? g = none := by
  rw [List.findSome?_eq_none_iff]
  exact fun x hx => p x (List.mem_range.mp hx)
theorem find_filter {α β : Type} {g : α → Option β} {p : α → Bool} : ∀ {l : List α}, (∀ x ∈ l, p x = false → g x = none) → (l.filter p).findSome? g = l.findSome? g
  | [], _ => rfl
  | x :: l, h => by
    have ih := find_filter (l := l) fun y hy => h y (List.mem_cons_of_mem _ hy)
    rw [List.filter_cons]
    cases e : p x with
    | true => rw [if_pos rfl, List.findSome?_cons, List.findSome?_cons, ih]
    | false => rw [if_neg (by simp), List.findSome?_cons, h x List.mem_cons_self e, ih]
theorem find_append {α β : Type} {g : α → Option β} : ∀ {l m : List α}, (l ++ m).findSome? g = (match l.findSome? g with | some r => some r | none => m.findSome? g)
  | [], m => rfl
  | x :: l, m => by
    rw [List.cons_append, List.findSome?_cons, List.findSome?_cons]
    cases g x with
    | some r => rfl
    | none => exact find_append
theorem find_flat {α β γ : Type} {g : β → Option γ} {k : α → List β} : ∀ {l : List α}, (l.flatMap k).findSome? g = l.findSome? fun x => (k x).findSome? g
  | [] => rfl
  | x :: l => by
    rw [List.flatMap_cons, find_append, List.findSome?_cons, find_flat]
    rfl
theorem find_map {α β γ : Type} {g : β → Option γ} {k : α → β} : ∀ {l : List α}, (l.map k).findSome? g = l.findSome? fun x => g (k x)
  | [] => rfl
  | x :: l => by rw [List.map_cons, List.findSome?_cons, List.findSome?_cons, find_map]
theorem find_numbers {f : Frame} {β : Type} {g : Nat → Option β} {i : Nat} {r : β} (hi : i < f.n) (e : g (i + 1) = some r) (p : ∀ j, j < i → g (j + 1) = none) : (numbers f).findSome? g = some r := by
  unfold numbers
  rw [find_map]
  exact find_range hi e p
theorem find_numbers_no {f : Frame} {β : Type} {g : Nat → Option β} (p : ∀ j, j < f.n → g (j + 1) = none) : (numbers f).findSome? g = none := by
  unfold numbers
  rw [find_map]
  exact find_range_no p
def Lst (f : Frame) (s : St) (want : Nat → Nat) (l : List (Nat × Nat)) : Prop := (l.map (·.1)).Nodup ∧ ∀ k x, (k, x) ∈ l ↔ k < cells f ∧ x = at_ s k &&& want k ∧ x ≠ 0
theorem Lst.hits {f : Frame} {s : St} {want : Nat → Nat} {l : List (Nat × Nat)} (h : Lst f s want l) : l ≠ [] ↔ hits f s want := by
  constructor
  · intro hl
    obtain ⟨⟨k, x⟩, hp⟩ := List.exists_mem_of_ne_nil _ hl
    obtain ⟨a, b, c⟩ := (h.2 k x).mp hp
    exact ⟨k, a, b ▸ c⟩
  · rintro ⟨k, hk, e⟩
    exact List.ne_nil_of_mem ((h.2 k _).mpr ⟨hk, rfl, e⟩)
def Stp (f : Frame) (s : St) (kd p o nu : Nat) (l : List (Nat × Nat)) (r : Told × St) : Prop := ∃ want, r = (⟨kd, p, o, nu, dOf f s want⟩, nOf f s want) ∧ Lst f s want l ∧ l ≠ []
theorem lst_some {f : Frame} {s : St} {kd p o nu : Nat} {want : Nat → Nat} {l : List (Nat × Nat)} (h : Lst f s want l) (hl : l ≠ []) : ∃ r, strikes f s kd p o nu want = some r ∧ Stp f s kd p o nu l r :=
  ⟨_, strikes_hit (h.hits.mp hl), want, rfl, h, hl⟩
theorem lst_none {f : Frame} {s : St} {kd p o nu : Nat} {want : Nat → Nat} {l : List (Nat × Nat)} (h : Lst f s want l) (hl : l = []) : strikes f s kd p o nu want = none :=
  strikes_none.mpr fun q => h.hits.mpr q hl
def strikesW (l : List Nat) (g : Nat → Nat) : List (Nat × Nat) := (l.filter fun k => g k != 0).map fun k => (k, g k)
theorem strikesW_of (s : St) (l : List Nat) (x : Nat) : strikesOf s l x = strikesW l fun k => at_ s k &&& x := rfl
theorem mem_strikesW {l : List Nat} {g : Nat → Nat} {k x : Nat} : (k, x) ∈ strikesW l g ↔ k ∈ l ∧ x = g k ∧ x ≠ 0 := by
  unfold strikesW
  rw [List.mem_map]
  constructor
  · rintro ⟨j, hj, e⟩
    obtain ⟨rfl, rfl⟩ := Prod.mk.inj e
    obtain ⟨a, b⟩ := List.mem_filter.mp hj
    exact ⟨a, rfl, by simpa using b⟩
  · rintro ⟨a, rfl, b⟩
    exact ⟨k, List.mem_filter.mpr ⟨a, by simpa using b⟩, rfl⟩
theorem strikesW_keys (l : List Nat) (g : Nat → Nat) : (strikesW l g).map (·.1) = l.filter fun k => g k != 0 := by
  unfold strikesW
  rw [List.map_map]
  exact List.map_id _
theorem strikesW_nd {l : List Nat} {g : Nat → Nat} (h : l.Nodup) : ((strikesW l g).map (·.1)).Nodup := by rw [strikesW_keys]; exact h.filter _
theorem lst_of {f : Frame} {s : St} {want : Nat → Nat} {l : List Nat} {g : Nat → Nat} (nd : l.Nodup) (h1 : ∀ j ∈ l, j < cells f ∧ g j = at_ s j &&& want j) (h2 : ∀ j, j < cells f → at_ s j &&& want j ≠ 0 → j ∈ l) : Lst f s want (strikesW l g) := by
  refine ⟨strikesW_nd nd, fun k x => ?_⟩
  rw [mem_strikesW]
  constructor
  · rintro ⟨a, b, c⟩
    exact ⟨(h1 k a).1, b.trans (h1 k a).2, c⟩
  · rintro ⟨a, b, c⟩
    have hk := h2 k a (b ▸ c)
    exact ⟨hk, b.trans (h1 k hk).2.symm, c⟩
theorem nd_one (a : Nat) : [a].Nodup := by simp
theorem nd_bits (b : Nat) : (bitsOf b).Nodup := srt_nodup (srt_bitsOf b)
def setWant (f : Frame) (s : St) (k : Nat) : Nat → Nat := fun j => if meet f k j then at_ s k else 0
theorem settledAt_no {f : Frame} {s : St} (w : Wf f s) {k : Nat} (h : single (at_ s k) = false) : settledAt f s k = none := by
  unfold settledAt
  rw [if_neg]
  intro q
  rw [(w.single k).mp q] at h; cases h
theorem settledAt_lst {f : Frame} (R : Rt f) {s : St} (w : Wf f s) {k : Nat} (hk : k < cells f) (h : single (at_ s k) = true) :
    Lst f s (setWant f s k) (strikesOf s (bitsOf (pl s (low (at_ s k)) &&& peers f k)) (at_ s k)) := by
  rw [strikesW_of]
  refine lst_of (nd_bits _) (fun j hj => ?_) fun j hj e => ?_
  · have := mem_bitsOf.mp hj
    rw [Nat.testBit_and, Bool.and_eq_true] at this
    have hjl := peers_lt this.2
    rw [tb_peers R hk hjl] at this
    refine ⟨hjl, ?_⟩
    unfold setWant
    rw [if_pos this.2]
  · unfold setWant at e
    by_cases m : meet f k j = true
    · rw [if_pos m] at e
      obtain ⟨v, hv⟩ := some_bit e
      rw [Nat.testBit_and, Bool.and_eq_true] at hv
      have hl : low (at_ s k) = v := single_uniq h (low_bit (ne_zero_of hv.2)) hv.2
      refine mem_bitsOf.mpr ?_
      rw [Nat.testBit_and, tb_pl, tb_peers R hk hj, m, hl, has_def, hv.1]; rfl
    · rw [if_neg m, Nat.and_zero] at e; exact (e rfl).elim
theorem settledAt_eq {f : Frame} {s : St} (w : Wf f s) {k : Nat} (h : single (at_ s k) = true) : settledAt f s k = strikes f s 1 k 0 (at_ s k) (setWant f s k) := by
  unfold settledAt
  rw [if_pos ((w.single k).mpr h)]
  rfl
theorem settledAt_some {f : Frame} (R : Rt f) {s : St} (w : Wf f s) {k : Nat} (hk : k < cells f) (h : single (at_ s k) = true) (ht : pl s (low (at_ s k)) &&& peers f k ≠ 0) :
    ∃ r, settledAt f s k = some r ∧ Stp f s 1 k 0 (at_ s k) (strikesOf s (bitsOf (pl s (low (at_ s k)) &&& peers f k)) (at_ s k)) r := by
  rw [settledAt_eq w h]
  refine lst_some (settledAt_lst R w hk h) ?_
  obtain ⟨j, hj⟩ := some_bit ht
  have hj' := hj
  rw [Nat.testBit_and, Bool.and_eq_true, tb_pl, has_def] at hj'
  have hb : (at_ s j &&& at_ s k).testBit (low (at_ s k)) = true := by
    rw [Nat.testBit_and, hj'.1, low_bit (fun e => by rw [e] at h; exact absurd h (by decide))]; rfl
  exact List.ne_nil_of_mem (mem_strikesOf.mpr ⟨mem_bitsOf.mpr hj, ne_zero_of hb, rfl⟩ : (j, at_ s j &&& at_ s k) ∈ _)
theorem settledAt_zero {f : Frame} (R : Rt f) {s : St} (w : Wf f s) {k : Nat} (hk : k < cells f) (h : single (at_ s k) = true) (ht : pl s (low (at_ s k)) &&& peers f k = 0) : settledAt f s k = none := by
  rw [settledAt_eq w h]
  refine lst_none (settledAt_lst R w hk h) ?_
  rw [ht, bitsOf_zero]; rfl
theorem onlyAt_many {f : Frame} (R : Rt f) {s : St} {u v : Nat} (hu : u < nU f) (h : single (pl s v &&& mask f u) = false) : onlyAt f s u v = none := by
  refine onlyAt_not fun k e => ?_
  obtain ⟨a, b, c⟩ := (only_filter R.lo hu).mp e
  have : pl s v &&& mask f u = 2 ^ k := single_of (there_tb.mpr ⟨a, b⟩) fun i hi => c i (there_tb.mp hi).1 (there_tb.mp hi).2
  rw [this, pow_single] at h; cases h
theorem onlyAt_lst {f : Frame} (R : Rt f) {s : St} (w : Wf f s) {u v : Nat} (hu : u < nU f) (h : single (pl s v &&& mask f u) = true) :
    onlyAt f s u v = strikes f s 2 u 0 (2 ^ v) (onlyWant f (low (pl s v &&& mask f u)) v) ∧
    Lst f s (onlyWant f (low (pl s v &&& mask f u)) v) (strikesW (bitsOf (pl s v &&& mask f u)) fun k => sub (at_ s k) (2 ^ v)) := by
  have hp := single_pow h
  generalize hk : low (pl s v &&& mask f u) = k at *
  have ht : k ∈ unit f u ∧ has s k v = true := there_tb.mp (by rw [hp, tb_pow]; simp)
  have hkl := unit_lt hu ht.1
  refine ⟨onlyAt_one ((only_filter R.lo hu).mpr ⟨ht.1, ht.2, fun j a b => ?_⟩), ?_⟩
  · have : (pl s v &&& mask f u).testBit j = true := there_tb.mpr ⟨a, b⟩
    rw [hp, tb_pow, decide_eq_true_iff] at this
    exact this.symm
  · have e : at_ s k &&& onlyWant f k v k = sub (at_ s k) (2 ^ v) := by
      refine ext' fun i => ?_
      unfold onlyWant
      rw [if_pos rfl, Nat.testBit_and, tb_sub, tb_pow, Bool.and_eq_true, Bool.and_eq_true, tb_setOf, List.mem_filter, mem_numbers]
      constructor
      · rintro ⟨a, b⟩
        refine ⟨a, ?_⟩
        have := b.2
        simp at this
        simp; exact fun z => this z.symm
      · rintro ⟨a, b⟩
        refine ⟨a, w.bit k i a, ?_⟩
        simp at b
        simp; exact fun z => b z.symm
    rw [hp, pow_bitsOf]
    refine lst_of (nd_one _) (fun j hj => ?_) fun j hj z => ?_
    · obtain rfl := List.mem_singleton.mp hj
      exact ⟨hkl, e.symm⟩
    · unfold onlyWant at z
      by_cases q : j = k
      · rw [q]; simp
      · rw [if_neg q, Nat.and_zero] at z; exact (z rfl).elim
theorem sign_signs {f : Frame} {s : St} (w : Wf f s) : sign f s = (signs f).findSome? fun g => signAt f s g.k g.d := by
  unfold sign signs
  rw [find_flat]
  congr 1
  funext k
  rw [find_map]
  have h := find_filter (g := signAt f s k) (p := fun d => sg f k d != 0) (l := [0, 1]) fun d _ hd => by
    rw [signAt_eq w, if_neg]
    intro q
    exact q.1 (by simpa using hd)
  rw [← h]
  rfl
theorem signAt_zero {f : Frame} {s : St} (w : Wf f s) {k d : Nat} (h : at_ s (sa f k d) = 0 ∨ at_ s (sb f k d) = 0) : signAt f s k d = none := by
  rw [signAt_eq w, if_neg]
  rintro ⟨_, a, b⟩
  rcases h with h | h
  · exact a h
  · exact b h
theorem sign_lst {f : Frame} (R : Rt f) {s : St} (w : Wf f s) {k d : Nat} (hk : k < cells f) (hd : d < 2) (hg : sg f k d ≠ 0) (ha : at_ s (sa f k d) ≠ 0) (hb : at_ s (sb f k d) ≠ 0) :
    signAt f s k d = strikes f s 3 k d 0 (signWant f (sa f k d) (sb f k d) (low (at_ s (sa f k d))) (at_ s (sb f k d)).log2) ∧
    Lst f s (signWant f (sa f k d) (sb f k d) (low (at_ s (sa f k d))) (at_ s (sb f k d)).log2) (strikesBySign s (sa f k d) (sb f k d)) := by
  refine ⟨by rw [signAt_eq w, if_pos ⟨hg, ha, hb⟩], ?_⟩
  have la := sa_lt R hk hg
  have lb := sb_lt R hk hg
  have ne := sab_ne R k d
  generalize hA : sa f k d = a at *
  generalize hB : sb f k d = b at *
  have eb : at_ s b &&& signWant f a b (low (at_ s a)) (at_ s b).log2 b = at_ s b &&& (2 * 2 ^ low (at_ s a) - 1) := by
    refine ext' fun i => ?_
    unfold signWant
    rw [if_pos rfl, Nat.testBit_and, Nat.testBit_and, Bool.and_eq_true, Bool.and_eq_true, tb_setOf, List.mem_filter, mem_numbers, tb_upto]
    exact ⟨fun q => ⟨q.1, q.2.2⟩, fun q => ⟨q.1, w.bit b i q.1, q.2⟩⟩
  have ea : at_ s a &&& signWant f a b (low (at_ s a)) (at_ s b).log2 a = at_ s a &&& sub (at_ s a) (2 ^ (at_ s b).log2 - 1) := by
    refine ext' fun i => ?_
    unfold signWant
    rw [if_neg ne, if_pos rfl, Nat.testBit_and, Nat.testBit_and, Bool.and_eq_true, Bool.and_eq_true, tb_setOf, List.mem_filter, mem_numbers, tb_sub, tb_below]
    constructor
    · intro q
      refine ⟨q.1, ?_⟩
      have := q.2.2
      simp at this
      simp [q.1]; omega
    · intro q
      refine ⟨q.1, w.bit a i q.1, ?_⟩
      have := q.2
      simp at this
      simp; omega
  unfold strikesBySign
  rw [if_neg (fun z => z.elim ha hb)]
  constructor
  · rw [List.map_append]
    refine List.nodup_append.mpr ⟨strikesW_nd (nd_one _), strikesW_nd (nd_one _), ?_⟩
    intro x hx y hy e
    rw [strikesW_of, strikesW_keys] at hx hy
    have h1 := List.mem_singleton.mp (List.mem_filter.mp hx).1
    have h2 := List.mem_singleton.mp (List.mem_filter.mp hy).1
    exact ne (h1.symm.trans (e.trans h2))
  · intro j x
    rw [List.mem_append, strikesW_of, strikesW_of, mem_strikesW, mem_strikesW]
    constructor
    · rintro (⟨h1, h2, h3⟩ | ⟨h1, h2, h3⟩)
      · obtain rfl := List.mem_singleton.mp h1
        exact ⟨la, h2.trans ea.symm, h3⟩
      · obtain rfl := List.mem_singleton.mp h1
        exact ⟨lb, h2.trans eb.symm, h3⟩
    · rintro ⟨h1, h2, h3⟩
      by_cases q : j = b
      · subst q
        exact .inr ⟨by simp, h2.trans eb, h3⟩
      · by_cases q2 : j = a
        · subst q2
          exact .inl ⟨by simp, h2.trans ea, h3⟩
        · unfold signWant at h2
          rw [if_neg q, if_neg q2, Nat.and_zero] at h2
          exact (h3 h2).elim
theorem lockIf_there {f : Frame} {s : St} {u w v : Nat} : lockIf f s u w v ↔ pl s v &&& mask f u ≠ 0 ∧ sub (pl s v &&& mask f u) (mask f w) = 0 := by
  unfold lockIf
  constructor
  · rintro ⟨⟨k, a, b⟩, h⟩
    refine ⟨ne_zero_of (there_tb.mpr ⟨a, b⟩), sub_zero_iff.mpr fun i hi => ?_⟩
    obtain ⟨c, d⟩ := there_tb.mp hi
    exact tb_mask.mpr (h i c d)
  · rintro ⟨h1, h2⟩
    obtain ⟨k, hk⟩ := some_bit h1
    obtain ⟨a, b⟩ := there_tb.mp hk
    exact ⟨⟨k, a, b⟩, fun j c d => tb_mask.mp (sub_zero_iff.mp h2 j (there_tb.mpr ⟨c, d⟩))⟩
theorem lockedAt_apart {f : Frame} {s : St} {u w v : Nat} (h : mask f u &&& mask f w = 0) : lockedAt f s u w v = none := by
  refine lockedAt_neg fun ⟨⟨k, a, b⟩, q⟩ => ?_
  exact and_zero_iff.mp h k (tb_mask.mpr a) (tb_mask.mpr (q k a b))
theorem lockedAt_no {f : Frame} {s : St} {u w v : Nat} (h : ¬ (pl s v &&& mask f u ≠ 0 ∧ sub (pl s v &&& mask f u) (mask f w) = 0)) : lockedAt f s u w v = none := lockedAt_neg fun q => h (lockIf_there.mp q)
theorem lockedAt_lst {f : Frame} (R : Rt f) {s : St} {u w v : Nat} (hw : w < nU f) (h : pl s v &&& mask f u ≠ 0 ∧ sub (pl s v &&& mask f u) (mask f w) = 0) :
    lockedAt f s u w v = strikes f s 4 u w (2 ^ v) (lockWant f u w v) ∧ Lst f s (lockWant f u w v) (strikesOf s (bitsOf (sub (pl s v &&& mask f w) (pl s v &&& mask f u))) (2 ^ v)) := by
  refine ⟨lockedAt_pos (lockIf_there.mpr h), ?_⟩
  rw [strikesW_of]
  refine lst_of (nd_bits _) (fun j hj => ?_) fun j hj e => ?_
  · have := mem_bitsOf.mp hj
    rw [tb_sub, Bool.and_eq_true, there_tb, Bool.not_eq_true'] at this
    have nu : j ∉ unit f u := fun z => by
      have q : (pl s v &&& mask f u).testBit j = true := there_tb.mpr ⟨z, this.1.2⟩
      rw [this.2] at q; cases q
    refine ⟨unit_lt hw this.1.1, ?_⟩
    have : lockWant f u w v j = 2 ^ v := by
      unfold lockWant
      rw [if_pos]
      simpa using ⟨this.1.1, nu⟩
    rw [this]
  · obtain ⟨x, hx⟩ := some_bit e
    rw [Nat.testBit_and, Bool.and_eq_true, lockWant_tb] at hx
    obtain ⟨h1, ⟨h2, h3⟩, rfl⟩ := hx
    refine mem_bitsOf.mpr ?_
    rw [tb_sub, there_tb.mpr ⟨h2, h1⟩]
    cases z : (pl s x &&& mask f u).testBit j with
    | false => rfl
    | true => exact (h3 (there_tb.mp z).1).elim
theorem lock_ne {s : St} {b v : Nat} (h : b ≠ 0) (hb : ∀ j, b.testBit j = true → has s j v = true) : strikesOf s (bitsOf b) (2 ^ v) ≠ [] := by
  obtain ⟨j, hj⟩ := some_bit h
  have hx : (at_ s j &&& 2 ^ v).testBit v = true := by
    have := hb j hj
    rw [has_def] at this
    rw [Nat.testBit_and, tb_pow, this]; simp
  exact List.ne_nil_of_mem (mem_strikesOf.mpr ⟨mem_bitsOf.mpr hj, ne_zero_of hx, rfl⟩ : (j, at_ s j &&& 2 ^ v) ∈ _)
theorem others_has {f : Frame} {s : St} {u w v j : Nat} (h : (sub (pl s v &&& mask f w) (pl s v &&& mask f u)).testBit j = true) : has s j v = true := by
  rw [tb_sub, Bool.and_eq_true, there_tb] at h
  exact h.1.2
def fewC (f : Frame) (s : St) (u x : Nat) : List Nat := (unit f u).filter fun k => at_ s k != 0 && sub (at_ s k) x == 0
theorem sub_and {a x : Nat} : (a &&& x = a) ↔ sub a x = 0 := by
  have := and_le a x
  unfold sub; omega
theorem fewC_eq (f : Frame) (s : St) (u x : Nat) : ((unit f u).filter fun k => at_ s k != 0 && (at_ s k &&& x) == at_ s k) = fewC f s u x := by
  unfold fewC
  refine List.filter_congr fun k _ => ?_
  congr 1
  rw [Bool.eq_iff_iff, beq_iff_eq, beq_iff_eq]
  exact sub_and
theorem bits_mask {f : Frame} (R : Rt f) {u : Nat} (hu : u < nU f) : bitsOf (mask f u) = unit f u := bitsOf_setOf (srt_unit R.lo hu)
def fewWant (f : Frame) (s : St) (u x : Nat) : Nat → Nat := fun j => if (unit f u).contains j && !((fewC f s u x).contains j) then x else 0
theorem fewAt_no {f : Frame} {s : St} {m u x : Nat} (h : (fewC f s u x).length ≠ m) : fewAt f s m u x = none := by
  unfold fewAt
  show (if ((unit f u).filter fun k => at_ s k != 0 && (at_ s k &&& x) == at_ s k).length = m then _ else none) = none
  rw [fewC_eq, if_neg h]
theorem fewAt_lst {f : Frame} (R : Rt f) {s : St} {m u x : Nat} (hu : u < nU f) (h : (fewC f s u x).length = m) : fewAt f s m u x = strikes f s 5 u m x (fewWant f s u x) ∧
    Lst f s (fewWant f s u x) (strikesOf s ((unit f u).filter fun k => !((fewC f s u x).contains k)) x) := by
  constructor
  · unfold fewAt
    show (if ((unit f u).filter fun k => at_ s k != 0 && (at_ s k &&& x) == at_ s k).length = m then strikes f s 5 u m x (fun j => if (unit f u).contains j && !(((unit f u).filter fun k => at_ s k != 0 && (at_ s k &&& x) == at_ s k).contains j) then x else 0) else none) = _
    rw [fewC_eq, if_pos h]; rfl
  · rw [strikesW_of]
    refine lst_of ((srt_nodup (srt_unit R.lo hu)).filter _) (fun j hj => ?_) fun j hj e => ?_
    · obtain ⟨a, b⟩ := List.mem_filter.mp hj
      refine ⟨unit_lt hu a, ?_⟩
      have : fewWant f s u x j = x := by
        unfold fewWant
        rw [if_pos]
        rw [Bool.and_eq_true]
        exact ⟨by simpa using a, b⟩
      rw [this]
    · unfold fewWant at e
      by_cases c : ((unit f u).contains j && !((fewC f s u x).contains j)) = true
      · rw [Bool.and_eq_true] at c
        exact List.mem_filter.mpr ⟨by simpa using c.1, c.2⟩
      · rw [if_neg c, Nat.and_zero] at e
        exact (e rfl).elim
theorem trial_bits {f : Frame} {s : St} (w : Wf f s) (k : Nat) : (numbers f).findSome? (trialAt f s k) = (bitsOf (at_ s k)).findSome? (trialAt f s k) := by
  rw [← w.inSet]
  unfold inSet
  rw [find_filter]
  intro v _ h
  unfold trialAt
  rw [if_neg]
  rintro ⟨_, q, _⟩
  rw [has_def, h] at q; cases q
theorem trialAt_single {f : Frame} {s : St} (w : Wf f s) {k v : Nat} (h : single (at_ s k) = true) : trialAt f s k v = none := by
  unfold trialAt
  rw [if_neg]
  rintro ⟨q, _⟩
  rw [(w.single k).mpr h] at q
  omega
theorem trialAt_keeps {f : Frame} {s : St} {k v : Nat} (h : breaks f (most f) (s.set k (2 ^ v)) = false) : trialAt f s k v = none := by
  unfold trialAt
  rw [if_neg]
  rintro ⟨_, _, q⟩
  rw [h] at q; cases q
theorem trialAt_some {f : Frame} {s : St} (w : Wf f s) {k v : Nat} (hk : k < cells f) (h1 : single (at_ s k) = false) (h2 : has s k v = true) (h3 : breaks f (most f) (s.set k (2 ^ v)) = true) :
    ∃ r, trialAt f s k v = some r ∧ Stp f s 6 k 0 (2 ^ v) [(k, 2 ^ v)] r := by
  have h2' := h2
  rw [has_def] at h2'
  have hl : 2 ≤ (inSet f (at_ s k)).length := by
    have h0 : (inSet f (at_ s k)).length ≠ 1 := fun q => by rw [(w.single k).mp q] at h1; cases h1
    have : v ∈ inSet f (at_ s k) := by rw [w.inSet]; exact mem_bitsOf.mpr h2
    have := List.length_pos_of_mem this
    omega
  unfold trialAt
  rw [if_pos ⟨hl, h2, h3⟩]
  refine lst_some ⟨nd_one _, fun j x => ?_⟩ (by simp)
  rw [List.mem_singleton]
  have e : at_ s k &&& 2 ^ v = 2 ^ v := ext' fun i => by
    rw [Nat.testBit_and, tb_pow, Bool.and_eq_true, decide_eq_true_iff]
    exact ⟨fun q => q.2, fun q => ⟨q ▸ h2', q⟩⟩
  constructor
  · intro q
    obtain ⟨rfl, rfl⟩ := Prod.mk.inj q
    refine ⟨hk, ?_, Nat.ne_of_gt (Nat.two_pow_pos v)⟩
    show 2 ^ v = at_ s j &&& (if j = j then 2 ^ v else 0)
    rw [if_pos rfl, e]
  · rintro ⟨a, b, c⟩
    have b : x = at_ s j &&& (if j = k then 2 ^ v else 0) := b
    by_cases q : j = k
    · subst q
      rw [if_pos rfl, e] at b
      rw [b]
    · rw [if_neg q, Nat.and_zero] at b
      exact (c b).elim
end Sq
namespace Sq
open Kgi1 (Frame cells rowOf colOf regionOf hasRegions meet numbers)
open Kgi2
theorem Pend.of_cl {f : Frame} {s : St} (c : Cl f s) : Pend f (s, []) no1 no1 no2 :=
  ⟨fun k hk _ _ => c.cell k hk, fun u v hu h1 h2 _ _ => c.cov u v hu h1 h2, fun k j v hk hj _ _ => c.set k j v hk hj, fun u v k hu h1 h2 _ _ => c.only u v k hu h1 h2, fun k d hk hd hg _ _ _ => c.sgn k d hk hd hg, fun u w v hu hw h1 h2 _ _ _ => c.lock u w v hu hw h1 h2⟩
theorem Pend.pop {f : Frame} {s : St} {N : List (Nat × Nat)} {k h : Nat} (p : Pend f (s, N ++ [(k, h)]) no1 no1 no2) : Pend f (s, N) (· = k) (fun g => g.a = k ∨ g.b = k) (fun u v => k ∈ unit f u ∧ h.testBit v = true) := by
  have cN : ∀ j, ¬ cpN N j → ¬ j = k → ¬ cpN (N ++ [(k, h)]) j := fun j a b ⟨x, hx⟩ => by
    rcases List.mem_append.mp hx with q | q
    · exact a ⟨x, q⟩
    · exact b (by simpa using (Prod.mk.inj (List.mem_singleton.mp q)).1)
  have uN : ∀ u v, ¬ upN f N u v → ¬ (k ∈ unit f u ∧ h.testBit v = true) → ¬ upN f (N ++ [(k, h)]) u v := fun u v a b ⟨x, y, hx, hu, hv⟩ => by
    rcases List.mem_append.mp hx with q | q
    · exact a ⟨x, y, q, hu, hv⟩
    · obtain ⟨rfl, rfl⟩ := Prod.mk.inj (List.mem_singleton.mp q)
      exact b ⟨hu, hv⟩
  exact ⟨fun j hj a b => p.cell j hj (cN j a b) id, fun u v hu h1 h2 a b => p.cov u v hu h1 h2 (uN u v a b) id, fun i j v hi hj a b => p.set i j v hi hj (cN i a b) id,
    fun u v i hu h1 h2 a b => p.only u v i hu h1 h2 (uN u v a b) id, fun i d hi hd hg a b c => p.sgn i d hi hd hg (cN _ a fun z => c (.inl z)) (cN _ b fun z => c (.inr z)) id, fun u w v hu hw h1 h2 a b => p.lock u w v hu hw h1 h2 (uN u v a b) id⟩
def kOk (f : Frame) (N : List (Nat × Nat)) : Prop := ∀ p ∈ N, p.1 < cells f ∧ ∀ v, p.2.testBit v = true → 1 ≤ v ∧ v ≤ f.n
structure TrI (f : Frame) (s0 : St) (t : TS) (cx : Nat → Prop) (gx : Sgn → Prop) (ux : Nat → Nat → Prop) : Prop where
  wf : Wf f t.1
  le : Le t.1 s0
  snd : Snd f s0 t.1
  key : kOk f t.2
  siz : card t.1 + t.2.length ≤ cells f * f.n
  pend : Pend f t cx gx ux
theorem TrI.next {f : Frame} {s0 : St} {t t' : TS} {cx cx' : Nat → Prop} {gx gx' : Sgn → Prop} {ux ux' : Nat → Nat → Prop} (i : TrI f s0 t cx gx ux) (r : Ran f t t') (s : Snd f t.1 t'.1) (p : Pend f t' cx' gx' ux') : TrI f s0 t' cx' gx' ux' :=
  ⟨r.wf, r.le.trans i.le, i.snd.trans s, r.key i.key, Nat.le_trans r.siz i.siz, p⟩
theorem TrI.pop {f : Frame} {s0 s : St} {N : List (Nat × Nat)} {k h : Nat} (i : TrI f s0 (s, N ++ [(k, h)]) no1 no1 no2) : k < cells f ∧ (∀ v, h.testBit v = true → 1 ≤ v ∧ v ≤ f.n) ∧
    TrI f s0 (s, N) (· = k) (fun g => g.a = k ∨ g.b = k) (fun u v => k ∈ unit f u ∧ h.testBit v = true) := by
  have hk := i.key (k, h) (by simp)
  refine ⟨hk.1, hk.2, i.wf, i.le, i.snd, fun p hp => i.key p (List.mem_append_left _ hp), ?_, i.pend.pop⟩
  have := i.siz
  simp at this
  show card s + N.length ≤ _
  omega
theorem TrI.none {f : Frame} (R : Rt f) {s0 : St} {t : TS} {cx : Nat → Prop} {gx : Sgn → Prop} {ux : Nat → Nat → Prop} (w0 : Wf f s0) (i : TrI f s0 t cx gx ux) (h : ∀ C, Wf f C → Cl f C → Le C t.1 → False) : breaks f (most f) s0 = true := by
  cases e : breaks f (most f) s0 with
  | true => rfl
  | false =>
    obtain ⟨C, a, b, c⟩ := (breaks_iff R w0).mp e
    exact (h C a c (i.snd C a c b)).elim
theorem TrI.cell0 {f : Frame} (R : Rt f) {s0 : St} {t : TS} {cx : Nat → Prop} {gx : Sgn → Prop} {ux : Nat → Nat → Prop} (w0 : Wf f s0) (i : TrI f s0 t cx gx ux) {k : Nat} (hk : k < cells f) (h : at_ t.1 k = 0) : breaks f (most f) s0 = true :=
  i.none R w0 fun C wC c le => by
    obtain ⟨v, hv⟩ := some_bit (c.cell k hk)
    have := le k v hv
    rw [has_def, h, Nat.zero_testBit] at this; cases this
theorem TrI.unit0 {f : Frame} (R : Rt f) {s0 : St} {t : TS} {cx : Nat → Prop} {gx : Sgn → Prop} {ux : Nat → Nat → Prop} (w0 : Wf f s0) (i : TrI f s0 t cx gx ux) {u v : Nat} (hu : u < nU f) (hv : 1 ≤ v ∧ v ≤ f.n) (h : pl t.1 v &&& mask f u = 0) : breaks f (most f) s0 = true :=
  i.none R w0 fun C wC c le => by
    obtain ⟨k, hk, q⟩ := c.cov u v hu hv.1 hv.2
    exact and_zero_iff.mp h k (by rw [tb_pl]; exact le k v q) (tb_mask.mpr hk)
structure Good (f : Frame) (s0 : St) (T : St) : Prop where
  wf : Wf f T
  cl : Cl f T
  le : Le T s0
  snd : Snd f s0 T
theorem TrI.done {f : Frame} (R : Rt f) {s0 s : St} (i : TrI f s0 (s, []) no1 no1 no2) : Good f s0 s := ⟨i.wf, i.pend.closed R, i.le, i.snd⟩
theorem Good.keeps {f : Frame} (R : Rt f) {s0 T : St} (w0 : Wf f s0) (g : Good f s0 T) : breaks f (most f) s0 = false := (breaks_iff R w0).mpr ⟨T, g.wf, g.le, g.cl⟩
theorem set_wf {f : Frame} {s : St} (w : Wf f s) {k v : Nat} (h : has s k v = true) : Wf f (s.set k (2 ^ v)) := by
  have hk := w.lt h
  refine ⟨by simpa using w.len, fun j x q => ?_⟩
  rw [has_def, at_set (by rw [w.len]; exact hk)] at q
  by_cases e : j = k
  · rw [if_pos e, tb_pow, decide_eq_true_iff] at q
    exact q ▸ w.bit k v h
  · rw [if_neg e] at q
    exact w.bit j x q
theorem set_has {f : Frame} {s : St} (w : Wf f s) {k v j x : Nat} (hk : k < cells f) : has (s.set k (2 ^ v)) j x = true ↔ if j = k then x = v else has s j x = true := by
  rw [has_def, at_set (by rw [w.len]; exact hk)]
  by_cases e : j = k
  · rw [if_pos e, if_pos e, tb_pow, decide_eq_true_iff]; exact eq_comm
  · rw [if_neg e, if_neg e]; rfl
theorem hit_start {f : Frame} {s : St} (w : Wf f s) {k v : Nat} (h : has s k v = true) : (hitAt (s, []) k (sub (at_ s k) (2 ^ v))).1 = s.set k (2 ^ v) := by
  have hk := w.lt h
  have hk' : k < s.length := by rw [w.len]; exact hk
  have h' := h
  rw [has_def] at h'
  unfold hitAt
  by_cases z : sub (at_ s k) (2 ^ v) = 0
  · rw [if_pos z]
    have e : at_ s k = 2 ^ v := single_of h' fun i hi => by
      have := sub_zero_iff.mp z i hi
      rw [tb_pow, decide_eq_true_iff] at this; exact this.symm
    refine st_ext (f := f) w.len (by simpa using w.len) fun j hj => ?_
    rw [at_set hk']
    by_cases q : j = k
    · rw [if_pos q, q, e]
    · rw [if_neg q]
  · rw [if_neg z]
    show s.set k (sub (at_ s k) (sub (at_ s k) (2 ^ v))) = s.set k (2 ^ v)
    congr 1
    refine ext fun i => ?_
    rw [tb_sub, tb_sub, tb_pow]
    by_cases e : v = i
    · subst e; simp [h']
    · simp [e]
theorem TrI.start {f : Frame} (R : Rt f) {s : St} (w : Wf f s) (c : Cl f s) {k v : Nat} (h : has s k v = true) : TrI f (s.set k (2 ^ v)) (hitAt (s, []) k (sub (at_ s k) (2 ^ v))) no1 no1 no2 := by
  have hk := w.lt h
  have e := hit_start w h
  have r : Ran f (s, []) (hitAt (s, []) k (sub (at_ s k) (2 ^ v))) := Ran.hit R w hk fun x hx => by
    rw [tb_sub, Bool.and_eq_true] at hx; exact hx.1
  refine ⟨r.wf, by rw [e]; exact Le.refl _, by rw [e]; exact Snd.refl _, r.key fun p hp => (by cases hp), Nat.le_trans r.siz ?_, r.pend _ _ _ (Pend.of_cl c)⟩
  have := card_le w
  simpa using this
def followN (s' : St) (t : TS) (j : Nat) : TS := hitAt t j (sub (at_ t.1 j) (at_ s' j))
def follow (s' : St) (t : TS) (m : Nat) : TS := (List.range m).foldl (followN s') t
theorem follow_succ (s' : St) (t : TS) (m : Nat) : follow s' t (m + 1) = followN s' (follow s' t m) m := by
  unfold follow
  rw [List.range_succ, List.foldl_append]; rfl
theorem follow_ok {f : Frame} (R : Rt f) {s' : St} {t : TS} (w : Wf f t.1) : ∀ m, m ≤ cells f → Ran f t (follow s' t m) ∧ ∀ j x, has (follow s' t m).1 j x = true ↔ has t.1 j x = true ∧ (j < m → has s' j x = true)
  | 0, _ => ⟨Ran.refl w, fun j x => ⟨fun h => ⟨h, fun q => absurd q (Nat.not_lt_zero _)⟩, fun h => h.1⟩⟩
  | m + 1, hm => by
    obtain ⟨r, h⟩ := follow_ok R (s' := s') w m (by omega)
    have r2 : Ran f (follow s' t m) (followN s' (follow s' t m) m) := Ran.hit R r.wf (by omega) fun x hx => by
      rw [tb_sub, Bool.and_eq_true] at hx; exact hx.1
    rw [follow_succ]
    refine ⟨r.trans r2, fun j x => ?_⟩
    have hl : m < (follow s' t m).1.length := by rw [r.wf.len]; omega
    have e : has (followN s' (follow s' t m) m).1 j x = (has (follow s' t m).1 j x && !(decide (j = m) && (sub (at_ (follow s' t m).1 m) (at_ s' m)).testBit x)) := by
      unfold followN hitAt
      split
      · rename_i z
        rw [z, Nat.zero_testBit]; simp
      · exact hit_has hl
    rw [e, Bool.and_eq_true, h, tb_sub]
    by_cases q : j = m
    · subst q
      have hx : has (follow s' t j).1 j x = (at_ (follow s' t j).1 j).testBit x := rfl
      have h0 := h j x
      rw [hx] at h0
      constructor
      · rintro ⟨⟨a, b⟩, c⟩
        refine ⟨a, fun _ => ?_⟩
        rw [h0.mpr ⟨a, b⟩] at c
        rw [has_def]
        simpa using c
      · rintro ⟨a, b⟩
        have b := b (Nat.lt_succ_self _)
        rw [has_def] at b
        refine ⟨⟨a, fun z => absurd z (Nat.lt_irrefl _)⟩, by rw [b]; simp⟩
    · constructor
      · rintro ⟨⟨a, b⟩, c⟩
        exact ⟨a, fun z => b (by omega)⟩
      · rintro ⟨a, b⟩
        exact ⟨⟨a, fun z => b (by omega)⟩, by simp [q]⟩
theorem TrI.follow {f : Frame} (R : Rt f) {s s' T : St} (w : Wf f s) (w' : Wf f s') {k v : Nat} (g : Good f (s.set k (2 ^ v)) T) (h0 : has s k v = true) (h : has s' k v = true) (le : Le s' s) : TrI f (s'.set k (2 ^ v)) (follow s' (T, []) (cells f)) no1 no1 no2 := by
  have hk := w'.lt h
  obtain ⟨r, q⟩ := follow_ok R (s' := s') (t := (T, [])) g.wf (cells f) (Nat.le_refl _)
  refine ⟨r.wf, fun j x hx => ?_, fun C wC c leC j x hx => ?_, r.key fun p hp => (by cases hp), Nat.le_trans r.siz (by simpa using card_le g.wf), r.pend _ _ _ (Pend.of_cl g.cl)⟩
  · obtain ⟨a, b⟩ := (q j x).mp hx
    have a1 := (set_has w hk).mp (g.le j x a)
    refine (set_has w' hk).mpr ?_
    by_cases e : j = k
    · rw [if_pos e] at a1 ⊢; exact a1
    · rw [if_neg e] at a1 ⊢; exact b (w.lt a1)
  · have z := (set_has w' hk).mp (leC j x hx)
    have z' : has s' j x = true := by
      by_cases e : j = k
      · rw [if_pos e] at z; rw [e, z]; exact h
      · rw [if_neg e] at z; exact z
    refine (q j x).mpr ⟨?_, fun _ => z'⟩
    refine g.snd C wC c (fun i y hy => ?_) j x hx
    have z2 := (set_has w' hk).mp (leC i y hy)
    refine (set_has w hk).mpr ?_
    by_cases e : i = k
    · rw [if_pos e] at z2 ⊢; exact z2
    · rw [if_neg e] at z2 ⊢; exact le i y z2
def leftU (f : Frame) (k h i j : Nat) (a b : Nat) : Prop := (k ∈ unit f a ∧ h.testBit b = true) ∧ ¬ b ∈ (bitsOf h).take i ∧ ¬ ((bitsOf h)[i]? = some b ∧ a ∈ (unitsOf f k).take j)
theorem left_start {f : Frame} {k h a b : Nat} (q : k ∈ unit f a ∧ h.testBit b = true) : leftU f k h 0 0 a b := ⟨q, by simp, by simp⟩
theorem left_step {f : Frame} {k h i j u v a b : Nat} (hv : (bitsOf h)[i]? = some v) (hu : (unitsOf f k)[j]? = some u) (q : leftU f k h i j a b ∧ ¬ (a = u ∧ b = v)) : leftU f k h i (j + 1) a b := by
  obtain ⟨⟨q1, q2, q3⟩, q4⟩ := q
  refine ⟨q1, q2, fun ⟨z1, z2⟩ => ?_⟩
  rw [List.take_add_one, List.mem_append, hu] at z2
  rcases z2 with z2 | z2
  · exact q3 ⟨z1, z2⟩
  · rw [hv] at z1
    exact q4 ⟨by simpa using z2, (Option.some.inj z1).symm⟩
theorem left_turn {f : Frame} {k h i v a b : Nat} (ha : a < nU f) (hv : (bitsOf h)[i]? = some v) (q : leftU f k h i (unitsOf f k).length a b) : leftU f k h (i + 1) 0 a b := by
  obtain ⟨q1, q2, q3⟩ := q
  rw [List.take_length] at q3
  refine ⟨q1, fun z => ?_, by simp⟩
  rw [List.take_add_one, List.mem_append, hv] at z
  rcases z with z | z
  · exact q2 z
  · have e : b = v := by simpa using z
    exact q3 ⟨by rw [hv, e], mem_unitsOf.mpr ⟨ha, q1.1⟩⟩
theorem left_end {f : Frame} {k h a b : Nat} (q : leftU f k h (bitsOf h).length 0 a b) : False := by
  obtain ⟨q1, q2, q3⟩ := q
  rw [List.take_length] at q2
  exact q2 (mem_bitsOf.mpr q1.2)
theorem TrI.look {f : Frame} (R : Rt f) {s0 : St} {t : TS} {k h : Nat} (i : TrI f s0 t (· = k) (fun g => g.a = k ∨ g.b = k) (fun u v => k ∈ unit f u ∧ h.testBit v = true)) (hk : k < cells f) (h0 : at_ t.1 k ≠ 0) :
    TrI f s0 (lookCell f t k) no1 no1 (leftU f k h 0 0) ∧ Ran f t (lookCell f t k) := by
  obtain ⟨a, b, c⟩ := lookCell_ok R i.wf hk h0 i.pend
  exact ⟨i.next a b (c.mono (fun _ _ z => z) (fun _ _ z => z) fun _ _ _ _ _ z => left_start z), a⟩
theorem TrI.lookU {f : Frame} (R : Rt f) {s0 : St} {t : TS} {k h p q u v : Nat} (i : TrI f s0 t no1 no1 (leftU f k h p q)) (hv : (bitsOf h)[p]? = some v) (hu : (unitsOf f k)[q]? = some u) (hv1 : 1 ≤ v ∧ v ≤ f.n) (h0 : pl t.1 v &&& mask f u ≠ 0) :
    TrI f s0 (lookUnit f t u v) no1 no1 (leftU f k h p (q + 1)) ∧ Ran f t (lookUnit f t u v) := by
  have hu' := (mem_unitsOf.mp (List.mem_of_getElem? hu)).1
  obtain ⟨a, b, c⟩ := lookUnit_ok R i.wf hu' hv1 h0 i.pend
  exact ⟨i.next a b (c.mono (fun _ _ z => z) (fun _ _ z => z) fun _ _ _ _ _ z => left_step hv hu z), a⟩
theorem TrI.turn {f : Frame} {s0 : St} {t : TS} {k h p v : Nat} (i : TrI f s0 t no1 no1 (leftU f k h p (unitsOf f k).length)) (hv : (bitsOf h)[p]? = some v) : TrI f s0 t no1 no1 (leftU f k h (p + 1) 0) :=
  ⟨i.wf, i.le, i.snd, i.key, i.siz, i.pend.mono (fun _ _ z => z) (fun _ _ z => z) fun _ _ ha _ _ z => left_turn ha hv z⟩
theorem TrI.fin {f : Frame} {s0 : St} {t : TS} {k h : Nat} (i : TrI f s0 t no1 no1 (leftU f k h (bitsOf h).length 0)) : TrI f s0 t no1 no1 no2 :=
  ⟨i.wf, i.le, i.snd, i.key, i.siz, i.pend.mono (fun _ _ z => z) (fun _ _ z => z) fun _ _ _ _ _ z => left_end z⟩
theorem Stp.wf {f : Frame} {s : St} {kd p o nu : Nat} {l : List (Nat × Nat)} {r : Told × St} (w : Wf f s) (h : Stp f s kd p o nu l r) : Wf f r.2 ∧ Le r.2 s ∧ card r.2 < card s ∧ r.1.kind = kd := by
  obtain ⟨want, rfl, h1, h2⟩ := h
  exact ⟨nOf_wf w, nOf_le, hits_card w (h1.hits.mp h2), rfl⟩
def Onw (f : Frame) (h : Nat) (s0 : St) (made g : Nat) (s : St) : Prop := ∃ m, card s ≤ m ∧ ends f h s0 = (made + (goOn f h m s).1, max g (goOn f h m s).2.1, (goOn f h m s).2.2)
theorem Onw.start {f : Frame} {h : Nat} {s : St} (w : Wf f s) : Onw f h s 0 0 s := ⟨most f, card_le w, by unfold ends; simp⟩
theorem Onw.step {f : Frame} {h : Nat} {s0 s : St} {made g : Nat} (o : Onw f h s0 made g s) (hb : broken f s = false) {r : Told × St} (hf : first f h s = some r) (hc : card r.2 < card s) : Onw f h s0 (made + 1) (max g r.1.kind) r.2 := by
  obtain ⟨m, hm, e⟩ := o
  obtain ⟨t, x⟩ := r
  cases m with
  | zero => omega
  | succ m =>
    refine ⟨m, by dsimp only at hc ⊢; omega, ?_⟩
    rw [e]
    have : goOn f h (m + 1) s = ((goOn f h m x).1 + 1, max t.kind (goOn f h m x).2.1, (goOn f h m x).2.2) := by
      rw [goOn, if_neg (by rw [hb]; simp), hf]
    rw [this]
    simp only [Prod.mk.injEq]
    exact ⟨by omega, by omega, trivial⟩
theorem Onw.stop {f : Frame} {h : Nat} {s0 s : St} {made g : Nat} (o : Onw f h s0 made g s) (q : broken f s = true ∨ first f h s = none) : ends f h s0 = (made, g, s) := by
  obtain ⟨m, hm, e⟩ := o
  have : goOn f h m s = (0, 0, s) := by
    cases m with
    | zero => rfl
    | succ m =>
      rw [goOn]
      rcases q with q | q
      · rw [if_pos q]
      · cases b : broken f s with
        | true => rw [if_pos rfl]
        | false => rw [if_neg (by simp), q]
  rw [e, this]
  simp
def Quiet (f : Frame) (s : St) (q : Nat) : Prop := ∀ i g, i < q → kinds[i]? = some g → g f s = none
theorem first_quiet {f : Frame} {s : St} {h : Nat} (q : Quiet f s h) : first f h s = none := by
  unfold first
  refine find_no fun j g hj => ?_
  rw [List.getElem?_take] at hj
  by_cases c : j < h
  · rw [if_pos c] at hj; exact q j g c hj
  · rw [if_neg c] at hj; cases hj
theorem first_found {f : Frame} {s : St} {h i : Nat} {g : Frame → St → Option (Told × St)} {r : Told × St} (q : Quiet f s i) (hi : i < h) (hg : kinds[i]? = some g) (e : g f s = some r) : first f h s = some r := by
  unfold first
  refine find_at (i := i) (x := g) ?_ e fun j y hj hy => ?_
  · rw [List.getElem?_take, if_pos hi]; exact hg
  · rw [List.getElem?_take, if_pos (by omega)] at hy; exact q j y hj hy
theorem Quiet.next {f : Frame} {s : St} {i : Nat} {g : Frame → St → Option (Told × St)} (q : Quiet f s i) (hg : kinds[i]? = some g) (e : g f s = none) : Quiet f s (i + 1) := fun j y hj hy => by
  by_cases c : j = i
  · subst c
    rw [hg] at hy
    cases hy
    exact e
  · exact q j y (by omega) hy
theorem Quiet.easy {f : Frame} {s : St} (q : Quiet f s 4) : easy f s = none := easy_none.mpr ⟨q 0 _ (by decide) rfl, q 1 _ (by decide) rfl, q 2 _ (by decide) rfl, q 3 _ (by decide) rfl⟩
end Sq
namespace Sq
open Kgi1 (Frame cells rowOf colOf regionOf hasRegions meet numbers)
open Kgi2
theorem range_getD {α : Type} (d : α) : ∀ {l : List α} {n : Nat}, l.length = n → (List.range n).map (fun k => l.getD k d) = l := by
  intro l n h
  refine List.ext_getElem (by simp [h]) fun i h1 h2 => ?_
  rw [List.getElem_map, List.getElem_range, List.getD_eq_getElem?_getD, List.getElem?_eq_getElem h2]; rfl
theorem tab_set {β : Type} {g : Nat → β} {n v : Nat} {y : β} (hv : v < n) : ((List.range n).map g).set v y = (List.range n).map fun x => if x = v then y else g x := by
  refine List.ext_getElem (by simp) fun i h1 h2 => ?_
  rw [List.getElem_set, List.getElem_map, List.getElem_map, List.getElem_range]
  by_cases e : v = i
  · rw [if_pos e, if_pos e.symm]
  · rw [if_neg e, if_neg fun z => e z.symm]
theorem tab_at {β : Type} {g : Nat → β} {n v : Nat} (hv : v < n) : ((List.range n).map g)[v]? = some (g v) := by
  rw [List.getElem?_map, List.getElem?_range hv]; rfl
theorem tab_congr {β : Type} {g h : Nat → β} {n : Nat} (e : ∀ v, v < n → g v = h v) : (List.range n).map g = (List.range n).map h := List.map_congr_left fun v hv => e v (List.mem_range.mp hv)
theorem setOf_snoc (l : List Nat) (k : Nat) : setOf (l ++ [k]) = setOf l ||| 2 ^ k := by
  unfold setOf
  rw [List.foldl_append]; rfl
structure Lens (f : Frame) : Prop where
  reg : f.region.length = cells f
  rt : f.right.length = cells f
  dn : f.down.length = cells f
  gv : f.given.length = cells f
theorem cnt_range {l : List Nat} {d g n : Nat} (h : l.length = n) : (List.range n).countP (fun k => l.getD k d == g) = l.count g := by
  have e := range_getD d h
  have : (List.range n).countP (fun k => l.getD k d == g) = ((List.range n).map fun k => l.getD k d).countP (· == g) := by
    rw [List.countP_map]; rfl
  rw [this, e]; rfl
theorem cnt_below (l : List Nat) : ∀ m n : Nat, (∀ g, g < m → l.count g = n) → l.countP (fun x => decide (x < m)) = m * n
  | 0, n, _ => by
    rw [Nat.zero_mul, List.countP_eq_zero]
    intro a _; simp
  | m + 1, n, h => by
    have ih := cnt_below l m n fun g hg => h g (by omega)
    have : l.countP (fun x => decide (x < m + 1)) = l.countP (fun x => decide (x < m)) + l.count m := by
      clear ih h
      induction l with
      | nil => rfl
      | cons a l ih =>
        rw [List.countP_cons, List.countP_cons, List.count_cons, ih]
        by_cases c1 : a < m
        · have c2 : a < m + 1 := by omega
          have c3 : ¬ a = m := by omega
          simp [c1, c2, c3]; omega
        · by_cases c3 : a = m
          · subst c3; simp; omega
          · have c2 : ¬ a < m + 1 := by omega
            simp [c1, c2, c3]
    rw [this, ih, h m (by omega), Nat.succ_mul]
theorem noReg_iff {f : Frame} (L : Lens f) : hasRegions f = false ↔ f.region.count 255 = cells f := by
  have e : hasRegions f = f.region.any (· != 255) := by
    unfold hasRegions
    have h := range_getD 255 L.reg
    have : ((List.range (cells f)).any fun k => regionOf f k != 255) = ((List.range (cells f)).map fun k => f.region.getD k 255).any (· != 255) := by
      rw [List.any_map]; rfl
    rw [this, h]
  rw [e, ← L.reg]
  constructor
  · intro h
    rw [List.any_eq_false] at h
    rw [List.count_eq_length]
    intro b hb
    have := h b hb
    simp at this
    exact this.symm
  · intro h
    rw [List.count_eq_length] at h
    rw [List.any_eq_false]
    intro b hb
    have := h b hb
    simp [← this]
theorem regionsOk_eq {f : Frame} (L : Lens f) : Kgi1.regionsOk f = (decide (f.region.count 255 = cells f) || (List.range f.n).all fun g => decide (f.region.count g = f.n)) := by
  unfold Kgi1.regionsOk
  have hc : ∀ g, (List.range (cells f)).countP (fun k => regionOf f k == g) = f.region.count g := fun g => cnt_range L.reg
  cases hr : hasRegions f with
  | false =>
    rw [decide_eq_true ((noReg_iff L).mp hr)]; simp
  | true =>
    have : ¬ f.region.count 255 = cells f := fun q => by rw [(noReg_iff L).mpr q] at hr; cases hr
    rw [decide_eq_false this, Bool.not_true, Bool.false_or, Bool.false_or, Bool.eq_iff_iff, Bool.and_eq_true]
    have e2 : ((List.range f.n).all fun g => (List.range (cells f)).countP (fun k => regionOf f k == g) == f.n) = (List.range f.n).all fun g => decide (f.region.count g = f.n) := by
      congr 1
      funext g
      rw [hc g]; rfl
    rw [e2]
    refine ⟨fun h => h.2, fun h => ⟨?_, h⟩⟩
    rw [List.all_eq_true] at h
    have hb := cnt_below f.region f.n f.n fun g hg => by simpa using h g (List.mem_range.mpr hg)
    have hall : f.region.countP (fun x => decide (x < f.n)) = f.region.length := by rw [hb, L.reg]; rfl
    rw [List.countP_eq_length] at hall
    rw [List.all_eq_true]
    intro k hk
    have hk := List.mem_range.mp hk
    rw [← L.reg] at hk
    unfold regionOf
    rw [List.getD_eq_getElem?_getD, List.getElem?_eq_getElem hk]
    exact hall _ (List.getElem_mem hk)
def okSign (f : Frame) (k : Nat) : Bool := !(decide (2 < f.right.getD k 0) || decide (2 < f.down.getD k 0)) && !(decide (k % f.n = f.n - 1) && decide (f.right.getD k 0 ≠ 0)) && !(decide (k / f.n = f.n - 1) && decide (f.down.getD k 0 ≠ 0))
theorem signsOk_eq {f : Frame} (hn : 2 ≤ f.n) : Kgi1.signsOk f = (List.range (cells f)).all (okSign f) := by
  unfold Kgi1.signsOk
  rw [Bool.eq_iff_iff, List.all_eq_true, List.all_eq_true]
  refine forall_congr' fun k => forall_congr' fun hk => ?_
  have hk := List.mem_range.mp hk
  have h1 : k % f.n < f.n := Nat.mod_lt _ (by omega)
  have h2 : k / f.n < f.n := Nat.div_lt_of_lt_mul hk
  unfold okSign rowOf colOf
  simp only [Bool.and_eq_true, Bool.or_eq_true, decide_eq_true_eq, beq_iff_eq, Bool.not_eq_true', Bool.or_eq_false_iff, Bool.and_eq_false_iff, decide_eq_false_iff_not, ne_eq, Decidable.not_not, Nat.not_lt]
  constructor
  · rintro ⟨⟨⟨a, b⟩, c⟩, d⟩
    refine ⟨⟨⟨a, b⟩, ?_⟩, ?_⟩
    · rcases c with c | c
      · exact .inr c
      · left; omega
    · rcases d with d | d
      · exact .inr d
      · left; omega
  · rintro ⟨⟨⟨a, b⟩, c⟩, d⟩
    refine ⟨⟨⟨a, b⟩, ?_⟩, ?_⟩
    · rcases c with c | c
      · right; omega
      · exact .inl c
    · rcases d with d | d
      · right; omega
      · exact .inl d
theorem givenOk_eq {f : Frame} (L : Lens f) {m : Nat} (h1 : m ∈ f.given) (h2 : ∀ x ∈ f.given, x ≤ m) : Kgi1.givenOk f = decide (m ≤ f.n) := by
  unfold Kgi1.givenOk
  have e := range_getD 0 L.gv
  have : ((List.range (cells f)).all fun k => decide (f.given.getD k 0 ≤ f.n)) = ((List.range (cells f)).map fun k => f.given.getD k 0).all fun x => decide (x ≤ f.n) := by
    rw [List.all_map]; rfl
  rw [this, e, Bool.eq_iff_iff, List.all_eq_true, decide_eq_true_iff]
  constructor
  · intro h
    simpa using h m h1
  · intro h x hx
    have := h2 x hx
    simp; omega
def acc (p : Nat → Nat) (c : Nat → Bool) (i u : Nat) : Nat := setOf ((List.range i).filter fun k => c k && p k == u)
theorem tb_acc {p : Nat → Nat} {c : Nat → Bool} {i u k : Nat} : (acc p c i u).testBit k = true ↔ k < i ∧ c k = true ∧ p k = u := by
  unfold acc
  rw [tb_setOf, List.mem_filter, List.mem_range, Bool.and_eq_true, beq_iff_eq]
theorem acc_zero (p : Nat → Nat) (c : Nat → Bool) (u : Nat) : acc p c 0 u = 0 := rfl
theorem acc_yes {p : Nat → Nat} {c : Nat → Bool} {i : Nat} (h : c i = true) : acc p c (i + 1) (p i) = acc p c i (p i) ||| 2 ^ i := by
  unfold acc
  rw [List.range_succ, List.filter_append]
  have : ([i].filter fun k => c k && p k == p i) = [i] := by simp [h]
  rw [this, setOf_snoc]
theorem acc_no {p : Nat → Nat} {c : Nat → Bool} {i u : Nat} (h : ¬ (c i = true ∧ p i = u)) : acc p c (i + 1) u = acc p c i u := by
  unfold acc
  rw [List.range_succ, List.filter_append]
  have : ([i].filter fun k => c k && p k == u) = [] := by
    rw [List.filter_eq_nil_iff]
    intro a ha
    obtain rfl := List.mem_singleton.mp ha
    simpa using h
  rw [this, List.append_nil]
def tabs (n : Nat) (p : Nat → Nat) (c : Nat → Bool) (i : Nat) : List Nat := (List.range n).map (acc p c i)
theorem tabs_zero (n : Nat) (p : Nat → Nat) (c : Nat → Bool) : tabs n p c 0 = List.replicate n 0 := by
  unfold tabs
  refine List.ext_getElem (by simp) fun i h1 h2 => ?_
  rw [List.getElem_map, acc_zero, List.getElem_replicate]
theorem tabs_yes {n : Nat} {p : Nat → Nat} {c : Nat → Bool} {i : Nat} (hp : p i < n) (h : c i = true) : (tabs n p c i).set (p i) (acc p c i (p i) ||| 2 ^ i) = tabs n p c (i + 1) := by
  unfold tabs
  rw [tab_set hp]
  refine tab_congr fun v hv => ?_
  by_cases e : v = p i
  · rw [if_pos e, e, acc_yes h]
  · rw [if_neg e, acc_no fun z => e z.2.symm]
theorem tabs_no {n : Nat} {p : Nat → Nat} {c : Nat → Bool} {i : Nat} (h : c i = false) : tabs n p c (i + 1) = tabs n p c i := by
  unfold tabs
  exact tab_congr fun v hv => acc_no fun z => by rw [h] at z; exact absurd z.1 (by decide)
theorem tabs_at {n : Nat} {p : Nat → Nat} {c : Nat → Bool} {i u : Nat} (h : u < n) : (tabs n p c i)[u]? = some (acc p c i u) := tab_at h
theorem tabs_len (n : Nat) (p : Nat → Nat) (c : Nat → Bool) (i : Nat) : (tabs n p c i).length = n := by unfold tabs; simp
def yes : Nat → Bool := fun _ => true
def isReg (f : Frame) : Nat → Bool := fun k => regionOf f k != 255
theorem areas_zero {f : Frame} (R : Rt f) : (acc (regionOf f) (isReg f) (cells f) 0 = 0) ↔ hasRegions f = false := by
  constructor
  · intro h
    cases hr : hasRegions f with
    | false => rfl
    | true =>
      have hc := R.cnt hr 0 (by have := R.lo; omega)
      have hp : 0 < (List.range (cells f)).countP (fun k => regionOf f k == 0) := by have := R.lo; omega
      obtain ⟨k, hk, e⟩ := List.countP_pos_iff.mp hp
      have : (acc (regionOf f) (isReg f) (cells f) 0).testBit k = true := tb_acc.mpr ⟨List.mem_range.mp hk, by
        have e : regionOf f k = 0 := by simpa using e
        unfold isReg; rw [e]; rfl, by simpa using e⟩
      rw [h, Nat.zero_testBit] at this; cases this
  · intro h
    refine zero_of fun k hk => ?_
    obtain ⟨a, b, c⟩ := tb_acc.mp hk
    unfold hasRegions at h
    rw [List.any_eq_false] at h
    exact h k (List.mem_range.mpr a) b
theorem mask_row {f : Frame} {u : Nat} (h : u < f.n) : mask f u = acc (· / f.n) yes (cells f) u := ext' fun k => by
  have hu : u < nU f := by rw [nU_eq]; split <;> omega
  rw [tb_mask, mem_unit hu, tb_acc]
  unfold inU yes
  rw [if_pos h]
  exact ⟨fun q => ⟨q.1, rfl, q.2⟩, fun q => ⟨q.1, q.2.2⟩⟩
theorem mask_col {f : Frame} {u : Nat} (h : u < f.n) : mask f (f.n + u) = acc (· % f.n) yes (cells f) u := ext' fun k => by
  have hu : f.n + u < nU f := by rw [nU_eq]; split <;> omega
  rw [tb_mask, mem_unit hu, tb_acc]
  unfold inU yes
  rw [if_neg (by omega), if_pos (by omega), Nat.add_sub_cancel_left]
  exact ⟨fun q => ⟨q.1, rfl, q.2⟩, fun q => ⟨q.1, q.2.2⟩⟩
theorem mask_reg {f : Frame} (R : Rt f) (hr : hasRegions f = true) {u : Nat} (h : u < f.n) : mask f (2 * f.n + u) = acc (regionOf f) (isReg f) (cells f) u := ext' fun k => by
  have hu : 2 * f.n + u < nU f := by rw [nU_eq, hr]; simp; omega
  rw [tb_mask, mem_unit hu, tb_acc]
  unfold inU
  rw [if_neg (by omega), if_neg (by omega), Nat.add_sub_cancel_left]
  refine ⟨fun q => ⟨q.1, ?_, q.2⟩, fun q => ⟨q.1, q.2.2⟩⟩
  unfold isReg
  have := R.hi
  simp; omega
theorem range_add (a b : Nat) : List.range (a + b) = List.range a ++ (List.range b).map (a + ·) := by
  rw [List.range_add]
theorem masks_no {f : Frame} (hr : hasRegions f = false) : tabs f.n (· / f.n) yes (cells f) ++ tabs f.n (· % f.n) yes (cells f) = masks f := by
  unfold masks
  have e : nU f = f.n + f.n := by rw [nU_eq, hr]; simp; omega
  rw [e, range_add, List.map_append, List.map_map]
  unfold tabs
  congr 1
  · exact tab_congr fun v hv => (mask_row hv).symm
  · exact tab_congr fun v hv => (mask_col hv).symm
theorem masks_yes {f : Frame} (R : Rt f) (hr : hasRegions f = true) : tabs f.n (· / f.n) yes (cells f) ++ tabs f.n (· % f.n) yes (cells f) ++ tabs f.n (regionOf f) (isReg f) (cells f) = masks f := by
  unfold masks
  have e : nU f = f.n + f.n + f.n := by rw [nU_eq, hr]; simp; omega
  rw [e, range_add, range_add, List.map_append, List.map_append, List.map_map, List.map_map]
  unfold tabs
  congr 1
  congr 1
  · exact tab_congr fun v hv => (mask_row hv).symm
  · exact tab_congr fun v hv => (mask_col hv).symm
  · refine tab_congr fun v hv => ?_
    rw [← mask_reg R hr hv]
    show _ = mask f (f.n + f.n + v)
    congr 1; omega
theorem masks_len (f : Frame) : (masks f).length = nU f := by unfold masks; simp
theorem masks_at {f : Frame} {u : Nat} (h : u < nU f) : (masks f)[u]? = some (mask f u) := tab_at h
def signsUp (f : Frame) (i : Nat) : List Sgn := (List.range i).flatMap fun k => ([0, 1].filter fun d => sg f k d != 0).map (sgnOf f k)
theorem signsUp_all (f : Frame) : signsUp f (cells f) = signs f := rfl
def sgR (f : Frame) (k : Nat) : List Sgn := if f.right.getD k 0 = 0 then [] else [sgnOf f k 0]
def sgD (f : Frame) (k : Nat) : List Sgn := if f.down.getD k 0 = 0 then [] else [sgnOf f k 1]
theorem signsUp_succ (f : Frame) (i : Nat) : signsUp f (i + 1) = signsUp f i ++ sgR f i ++ sgD f i := by
  unfold signsUp
  rw [List.range_succ, List.flatMap_append, List.append_assoc]
  congr 1
  rw [List.flatMap_singleton]
  have a : sg f i 0 = f.right.getD i 0 := rfl
  have b : sg f i 1 = f.down.getD i 0 := rfl
  unfold sgR sgD
  rw [← a, ← b]
  by_cases h0 : sg f i 0 = 0 <;> by_cases h1 : sg f i 1 = 0 <;> simp [h0, h1]
theorem signsUp_len (f : Frame) : ∀ i, (signsUp f i).length ≤ 2 * i
  | 0 => Nat.le_refl _
  | i + 1 => by
    have := signsUp_len f i
    rw [signsUp_succ, List.length_append, List.length_append]
    have h1 : (sgR f i).length ≤ 1 := by unfold sgR; split <;> simp
    have h2 : (sgD f i).length ≤ 1 := by unfold sgD; split <;> simp
    omega
theorem even_range (p : Nat → Bool) : ∀ m : Nat, (List.range (2 * m)).filter (fun x => x % 2 == 0 && p x) = ((List.range m).map (2 * ·)).filter p
  | 0 => rfl
  | m + 1 => by
    have ih := even_range p m
    rw [show 2 * (m + 1) = 2 * m + 1 + 1 by omega, List.range_succ, List.range_succ, List.filter_append, List.filter_append, ih, List.range_succ, List.map_append, List.filter_append]
    have h1 : [2 * m].filter (fun x => x % 2 == 0 && p x) = [2 * m].filter p := by
      simp [List.filter_cons]
    have h2 : [2 * m + 1].filter (fun x => x % 2 == 0 && p x) = [] := by
      have : (2 * m + 1) % 2 = 1 := by omega
      simp [List.filter_cons, this]
    rw [h1, h2, List.append_nil]; rfl
theorem sets_eq (f : Frame) (m : Nat) : sets f m = ((List.range (2 ^ f.n)).map (2 * ·)).filter fun x => (bitsOf x).length == m := by
  unfold sets
  rw [show 2 ^ (f.n + 1) = 2 * 2 ^ f.n by rw [Nat.pow_succ, Nat.mul_comm], even_range]
  refine List.filter_congr fun x hx => ?_
  obtain ⟨y, hy, rfl⟩ := List.mem_map.mp hx
  have hy := List.mem_range.mp hy
  rw [inSet_bits fun v hv => ?_]
  have h0 : v ≠ 0 := fun e => by
    rw [e, Nat.testBit_zero] at hv
    simp at hv
  have : 2 * y < 2 ^ (f.n + 1) := by rw [Nat.pow_succ]; omega
  have := bit_lt this hv
  omega
def setsUp (m i : Nat) : List Nat := ((List.range i).map (2 * ·)).filter fun x => (bitsOf x).length == m
theorem setsUp_succ (m i : Nat) : setsUp m (i + 1) = if (bitsOf (2 * i)).length = m then setsUp m i ++ [2 * i] else setsUp m i := by
  unfold setsUp
  rw [List.range_succ, List.map_append, List.filter_append]
  by_cases h : (bitsOf (2 * i)).length = m
  · rw [if_pos h]
    simp [h]
  · rw [if_neg h]
    simp [h]
theorem setsUp_len (m : Nat) : ∀ i, (setsUp m i).length ≤ i := fun i => by
  unfold setsUp
  refine Nat.le_trans (List.length_filter_le _ _) (by simp)
theorem numbers_set (f : Frame) : setOf (numbers f) = 2 * 2 ^ f.n - 2 := ext' fun i => by
  rw [tb_setOf, mem_numbers]
  have e : 2 * 2 ^ f.n - 2 = 2 * (2 ^ f.n - 1) := by omega
  rw [e]
  cases i with
  | zero =>
    rw [Nat.testBit_zero]
    constructor
    · rintro ⟨h, _⟩; omega
    · intro h; simp at h
  | succ i =>
    rw [Nat.testBit_succ, show 2 * (2 ^ f.n - 1) / 2 = 2 ^ f.n - 1 by omega, tb_below, decide_eq_true_iff]
    omega
def at0 (f : Frame) (v : Nat) : Nat := if v = 0 then 2 * 2 ^ f.n - 2 else 2 ^ v
theorem start_eq {f : Frame} (L : Lens f) : start f = f.given.map (at0 f) := by
  unfold start
  have e := range_getD 0 L.gv
  conv => rhs; rw [← e]
  rw [List.map_map]
  refine tab_congr fun k hk => ?_
  show (if f.given.getD k 0 = 0 then setOf (numbers f) else setOf [f.given.getD k 0]) = at0 f (f.given.getD k 0)
  unfold at0
  by_cases h : f.given.getD k 0 = 0
  · rw [if_pos h, if_pos h, numbers_set]
  · rw [if_neg h, if_neg h]
    unfold setOf; simp
theorem start_wf {f : Frame} (R : Rt f) : Wf f (start f) := by
  refine ⟨by unfold start; simp, fun k v h => ?_⟩
  unfold start at h
  by_cases hk : k < cells f
  · rw [has_def, at_map _ _ _ hk] at h
    by_cases c : f.given.getD k 0 = 0
    · rw [if_pos c, tb_setOf, mem_numbers] at h; exact h
    · rw [if_neg c, tb_setOf, List.mem_singleton] at h
      have := R.giv k hk
      omega
  · rw [has_def, at_out (by simp; omega), Nat.zero_testBit] at h; cases h
def plT (f : Frame) (s : St) : List Nat := (List.range (f.n + 1)).map (pl s)
theorem plT_at {f : Frame} {s : St} {v : Nat} (h : v ≤ f.n) : (plT f s)[v]? = some (pl s v) := tab_at (by omega)
def plUp (s : St) (i v : Nat) : Nat := setOf ((List.range i).filter fun k => has s k v)
theorem tb_plUp {s : St} {i v k : Nat} : (plUp s i v).testBit k = true ↔ k < i ∧ has s k v = true := by
  unfold plUp; rw [tb_setOf, List.mem_filter, List.mem_range]
def plIn (s : St) (i j : Nat) (v : Nat) : Nat := if v ∈ (bitsOf (at_ s i)).take j then plUp s i v ||| 2 ^ i else plUp s i v
theorem plIn_zero (s : St) (i : Nat) : plIn s i 0 = plUp s i := by funext v; unfold plIn; simp
theorem take_nd {α : Type} {l : List α} {j : Nat} {x : α} (nd : l.Nodup) (h : l[j]? = some x) : ¬ x ∈ l.take j := fun q => by
  obtain ⟨i, hi, e⟩ := List.mem_iff_getElem.mp q
  rw [List.getElem_take] at e
  rw [List.length_take] at hi
  obtain ⟨hj, ej⟩ := List.getElem?_eq_some_iff.mp h
  have := (List.getElem_inj nd).mp (e.trans ej.symm)
  omega
theorem plIn_succ {f : Frame} {s : St} {i j v : Nat} (hv : (bitsOf (at_ s i))[j]? = some v) (hn : v < f.n + 1) :
    ((List.range (f.n + 1)).map (plIn s i j)).set v (plIn s i j v ||| 2 ^ i) = (List.range (f.n + 1)).map (plIn s i (j + 1)) := by
  rw [tab_set hn]
  refine tab_congr fun x hx => ?_
  unfold plIn
  rw [List.take_add_one, hv]
  by_cases e : x = v
  · subst e
    have : ¬ x ∈ (bitsOf (at_ s i)).take j := take_nd (nd_bits _) hv
    rw [if_pos rfl, if_neg this, if_pos (by simp)]
  · rw [if_neg e]
    have : (x ∈ (bitsOf (at_ s i)).take j ++ (some v).toList) ↔ x ∈ (bitsOf (at_ s i)).take j := by simp [e]
    by_cases c : x ∈ (bitsOf (at_ s i)).take j
    · rw [if_pos c, if_pos (this.mpr c)]
    · rw [if_neg c, if_neg fun z => c (this.mp z)]
theorem plIn_end (s : St) (i : Nat) : plIn s i (bitsOf (at_ s i)).length = plUp s (i + 1) := by
  funext v
  unfold plIn
  rw [List.take_length]
  refine ext' fun k => ?_
  by_cases c : v ∈ bitsOf (at_ s i)
  · rw [if_pos c, Nat.testBit_or, Bool.or_eq_true, tb_plUp, tb_plUp, tb_pow, decide_eq_true_iff]
    have c' : has s i v = true := mem_bitsOf.mp c
    constructor
    · rintro (q | q)
      · exact ⟨by omega, q.2⟩
      · subst q; exact ⟨Nat.lt_succ_self _, c'⟩
    · rintro ⟨a, b⟩
      by_cases e : i = k
      · exact .inr e
      · exact .inl ⟨by omega, b⟩
  · rw [if_neg c, tb_plUp, tb_plUp]
    constructor
    · exact fun q => ⟨by omega, q.2⟩
    · rintro ⟨a, b⟩
      refine ⟨?_, b⟩
      by_cases e : i = k
      · subst e; exact (c (mem_bitsOf.mpr b)).elim
      · omega
theorem plUp_zero (s : St) : plUp s 0 = fun _ => 0 := rfl
theorem pl_hit {s : St} {k h v : Nat} (hk : k < s.length) (hh : ∀ x, h.testBit x = true → has s k x = true) : pl (s.set k (sub (at_ s k) h)) v = if h.testBit v = true then pl s v ^^^ 2 ^ k else pl s v := by
  refine ext fun j => ?_
  rw [tb_pl, hit_has hk]
  by_cases c : h.testBit v = true
  · rw [if_pos c, Nat.testBit_xor, tb_pl, tb_pow, c]
    have := hh v c
    by_cases e : j = k
    · subst e; rw [this]; simp
    · have e' : ¬ k = j := fun z => e z.symm
      simp [e, e']
  · rw [if_neg c, tb_pl]
    simp at c
    rw [c]; simp
def plX (s : St) (k h j : Nat) (v : Nat) : Nat := if v ∈ (bitsOf h).take j then pl s v ^^^ 2 ^ k else pl s v
theorem plX_zero (s : St) (k h : Nat) : plX s k h 0 = pl s := by funext v; unfold plX; simp
theorem plX_succ {f : Frame} {s : St} {k h j v : Nat} (hv : (bitsOf h)[j]? = some v) (hn : v < f.n + 1) :
    ((List.range (f.n + 1)).map (plX s k h j)).set v (plX s k h j v ^^^ 2 ^ k) = (List.range (f.n + 1)).map (plX s k h (j + 1)) := by
  rw [tab_set hn]
  refine tab_congr fun x hx => ?_
  unfold plX
  rw [List.take_add_one, hv]
  by_cases e : x = v
  · subst e
    have : ¬ x ∈ (bitsOf h).take j := take_nd (nd_bits _) hv
    rw [if_pos rfl, if_neg this, if_pos (by simp)]
  · rw [if_neg e]
    have : (x ∈ (bitsOf h).take j ++ (some v).toList) ↔ x ∈ (bitsOf h).take j := by simp [e]
    by_cases c : x ∈ (bitsOf h).take j
    · rw [if_pos c, if_pos (this.mpr c)]
    · rw [if_neg c, if_neg fun z => c (this.mp z)]
theorem plX_end {f : Frame} {s : St} {k h : Nat} (hk : k < s.length) (hh : ∀ x, h.testBit x = true → has s k x = true) : (List.range (f.n + 1)).map (plX s k h (bitsOf h).length) = plT f (s.set k (sub (at_ s k) h)) := by
  unfold plT
  refine tab_congr fun v hv => ?_
  unfold plX
  rw [List.take_length, pl_hit hk hh]
  by_cases c : h.testBit v = true
  · rw [if_pos (mem_bitsOf.mpr c), if_pos c]
  · rw [if_neg fun z => c (mem_bitsOf.mp z), if_neg c]
theorem sub_zero (a : Nat) : sub a 0 = a := by unfold sub; rw [Nat.and_zero]; rfl
theorem set_same {f : Frame} {s : St} (w : Wf f s) (k : Nat) : s.set k (sub (at_ s k) 0) = s := by
  rw [sub_zero]
  by_cases hk : k < s.length
  · refine st_ext (f := f) (by simpa using w.len) w.len fun j hj => ?_
    rw [at_set hk]
    by_cases e : j = k
    · rw [if_pos e, e]
    · rw [if_neg e]
  · exact List.set_eq_of_length_le (by omega)
def lk (l : List (Nat × Nat)) (k : Nat) : Nat := match l.find? (fun p => p.1 == k) with
  | some p => p.2
  | none => 0
theorem lk_snoc {l : List (Nat × Nat)} {a x : Nat} (h : ∀ p ∈ l, p.1 ≠ a) (k : Nat) : lk (l ++ [(a, x)]) k = if k = a then x else lk l k := by
  unfold lk
  rw [List.find?_append]
  by_cases e : k = a
  · subst e
    have : l.find? (fun p => p.1 == k) = none := by
      rw [List.find?_eq_none]
      intro p hp
      simpa using h p hp
    rw [this, if_pos rfl]; simp
  · rw [if_neg e]
    have e' : ¬ a = k := fun z => e z.symm
    cases l.find? (fun p => p.1 == k) with
    | some p => rfl
    | none => simp [e']
theorem Lst.lk {f : Frame} {s : St} {want : Nat → Nat} {l : List (Nat × Nat)} (h : Lst f s want l) (k : Nat) : lk l k = if k < cells f then at_ s k &&& want k else 0 := by
  unfold Sq.lk
  cases e : l.find? (fun p => p.1 == k) with
  | some p =>
    have hp := List.mem_of_find?_eq_some e
    have he : p.1 = k := by have := List.find?_some e; simpa using this
    obtain ⟨a, b, c⟩ := (h.2 p.1 p.2).mp hp
    rw [he] at a b
    rw [if_pos a]; exact b
  | none =>
    by_cases c : k < cells f
    · rw [if_pos c]
      refine (Classical.byContradiction fun z => ?_ : (0 : Nat) = at_ s k &&& want k)
      have hm := (h.2 k _).mpr ⟨c, rfl, fun q => z q.symm⟩
      have := List.find?_eq_none.mp e _ hm
      simp at this
    · rw [if_neg c]
theorem Stp.flat {f : Frame} {s : St} {kd p o nu : Nat} {l : List (Nat × Nat)} {r : Told × St} (h : Stp f s kd p o nu l r) : Kgi2.flat r.1 = [kd, p, o, nu] ++ (List.range 81).map (lk l) := by
  obtain ⟨want, rfl, h1, h2⟩ := h
  unfold Kgi2.flat
  show [kd, p, o, nu] ++ (List.range 81).map (fun k => (dOf f s want).getD k 0) = _
  congr 1
  refine tab_congr fun k hk => ?_
  rw [h1.lk]
  by_cases c : k < cells f
  · rw [if_pos c, dOf_at c]
  · rw [if_neg c, List.getD_eq_getElem?_getD, List.getElem?_eq_none (by rw [dOf_len]; omega)]; rfl
def mk (f : Frame) (s : St) (l : List (Nat × Nat)) : St := (List.range (cells f)).map fun j => sub (at_ s j) (lk l j)
theorem mk_nil {f : Frame} {s : St} (w : Wf f s) : mk f s [] = s := by
  refine st_ext (f := f) (by unfold mk; simp) w.len fun j hj => ?_
  unfold mk
  rw [at_map _ _ _ hj]
  exact sub_zero _
theorem mk_at {f : Frame} {s : St} {l : List (Nat × Nat)} {k : Nat} (hk : k < cells f) (h : ∀ p ∈ l, p.1 ≠ k) : at_ (mk f s l) k = at_ s k := by
  unfold mk
  rw [at_map _ _ _ hk]
  have : lk l k = 0 := by
    unfold lk
    have : l.find? (fun p => p.1 == k) = none := by
      rw [List.find?_eq_none]
      intro p hp
      simpa using h p hp
    rw [this]
  rw [this, sub_zero]
theorem mk_snoc {f : Frame} {s : St} {l : List (Nat × Nat)} {k x : Nat} (hk : k < cells f) (h : ∀ p ∈ l, p.1 ≠ k) : (mk f s l).set k (sub (at_ (mk f s l) k) x) = mk f s (l ++ [(k, x)]) := by
  rw [mk_at hk h]
  unfold mk
  rw [tab_set hk]
  refine tab_congr fun j hj => ?_
  rw [lk_snoc h]
  by_cases e : j = k
  · rw [if_pos e, if_pos e, e]
  · rw [if_neg e, if_neg e]
theorem Stp.mk {f : Frame} {s : St} {kd p o nu : Nat} {l : List (Nat × Nat)} {r : Told × St} (h : Stp f s kd p o nu l r) : r.2 = mk f s l := by
  obtain ⟨want, rfl, h1, h2⟩ := h
  show nOf f s want = Sq.mk f s l
  unfold nOf Sq.mk
  refine tab_congr fun j hj => ?_
  rw [h1.lk, if_pos hj]
  unfold sub
  congr 1
  rw [← Nat.and_assoc, Nat.and_self]
theorem Stp.keys {f : Frame} {s : St} {kd p o nu : Nat} {l : List (Nat × Nat)} {r : Told × St} (h : Stp f s kd p o nu l r) : (l.map (·.1)).Nodup ∧ ∀ q ∈ l, q.1 < cells f ∧ ∀ v, q.2.testBit v = true → has s q.1 v = true := by
  obtain ⟨want, rfl, h1, h2⟩ := h
  refine ⟨h1.1, fun q hq => ?_⟩
  obtain ⟨a, b, c⟩ := (h1.2 q.1 q.2).mp hq
  refine ⟨a, fun v hv => ?_⟩
  rw [b] at hv
  exact and_sub hv
theorem keys_take {l : List (Nat × Nat)} {i a x : Nat} (nd : (l.map (·.1)).Nodup) (h : l[i]? = some (a, x)) : ∀ p ∈ l.take i, p.1 ≠ a := fun p hp e => by
  have : ¬ a ∈ (l.map (·.1)).take i := take_nd nd (by rw [List.getElem?_map, h]; rfl)
  rw [← List.map_take] at this
  exact this (List.mem_map.mpr ⟨p, hp, e⟩)
theorem take_snoc {α : Type} {l : List α} {i : Nat} {x : α} (h : l[i]? = some x) : l.take (i + 1) = l.take i ++ [x] := by rw [List.take_add_one, h]; rfl
end Sq
namespace Sq
open Kgi1 (Frame cells)
open Kgi2
abbrev NS := Kgi2Neutral.S
inductive CallIs : List (List Int) → Prop where
  | read (n : Int) (a b c d : List Int) : CallIs [[0, n], a, b, c, d]
  | step (h : Int) : CallIs [[1, h]]
  | cell (k : Int) : CallIs [[2, k]]
  | solve (h : Int) : CallIs [[3, h]]
theorem shape_cases {p : Int} {n k : Nat} (h : PyKgi2.shape p = some (n, k)) : (p = 0 ∧ n = 1 ∧ k = 4) ∨ ((p = 1 ∨ p = 2 ∨ p = 3) ∧ n = 1 ∧ k = 0) := by
  unfold PyKgi2.shape at h
  by_cases h0 : p = 0
  · rw [if_pos h0] at h; simp at h; omega
  · rw [if_neg h0] at h
    by_cases h1 : p = 1
    · rw [if_pos h1] at h; simp at h; omega
    · rw [if_neg h1] at h
      by_cases h2 : p = 2
      · rw [if_pos h2] at h; simp at h; omega
      · rw [if_neg h2] at h
        by_cases h3 : p = 3
        · rw [if_pos h3] at h; simp at h; omega
        · rw [if_neg h3] at h; cases h
theorem call_is {c : List (List Int)} (h : PyFlat.okCall PyKgi2.shape c) : CallIs c := by
  obtain ⟨p, a, xs, rfl, hs⟩ := h
  rcases shape_cases hs with ⟨rfl, h1, h2⟩ | ⟨hp, h1, h2⟩
  · match a, xs, h1, h2 with
    | [n], [a, b, c, d], _, _ => exact .read n a b c d
  · match a, xs, h1, h2 with
    | [n], [], _, _ =>
      rcases hp with rfl | rfl | rfl
      · exact .step n
      · exact .cell n
      · exact .solve n
theorem whole_is {c : List (List Int)} (h : CallIs c) : PyKgi2.whole c = c := by cases h <;> rfl
theorem map_whole : ∀ {cs : List (List (List Int))}, (∀ c ∈ cs, CallIs c) → cs.map PyKgi2.whole = cs
  | [], _ => rfl
  | c :: cs, h => by rw [List.map_cons, whole_is (h c List.mem_cons_self), map_whole fun d hd => h d (List.mem_cons_of_mem _ hd)]
theorem asked_is {ns : List Int} (h : PyKgi2.answers_asked ns = true) : ∃ cs, ns = PyFlat.put cs ∧ (∀ c ∈ cs, CallIs c) ∧ cs.length ≤ 1000 ∧ (∀ c ∈ cs, Kgi2Neutral.asked1 c = true) ∧ Kgi2Neutral.may Kgi2Neutral.start cs = true ∧
    PyKgi2.answers ns = PyFlat.told (PyFlat.played Kgi2Neutral.step Kgi2Neutral.start cs) := by
  unfold PyKgi2.answers_asked at h
  unfold PyKgi2.answers
  cases e : PyKgi2.calls ns with
  | none => rw [e] at h; cases h
  | some cs =>
    rw [e] at h
    unfold PyKgi2.calls at e
    cases e2 : PyFlat.calls PyKgi2.shape ns.length ns with
    | none => rw [e2] at e; cases e
    | some ds =>
      rw [e2] at e
      obtain ⟨q1, q2⟩ := PyFlat.put_calls _ _ _ e2
      have hc : ∀ c ∈ ds, CallIs c := fun c hc => call_is (q2 c hc)
      have e3 : ds = cs := by
        have := Option.some.inj e
        rw [map_whole hc] at this; exact this
      subst e3
      rw [Bool.and_eq_true] at h
      obtain ⟨h1, h2⟩ := h
      unfold PyFlat.atMost at h1
      unfold Kgi2Neutral.asked at h2
      simp only [Bool.and_eq_true, decide_eq_true_eq, List.all_eq_true] at h2
      exact ⟨ds, q1, hc, by simpa using h1, h2.1.2, h2.2, rfl⟩
theorem may_cons {s : NS} {c : List (List Int)} {cs : List (List (List Int))} (h : Kgi2Neutral.may s (c :: cs) = true) : (Kgi2Neutral.step s c).2 ≠ [] ∧ Kgi2Neutral.may (Kgi2Neutral.step s c).1 cs = true := by
  unfold Kgi2Neutral.may at h
  rw [Bool.and_eq_true] at h
  exact ⟨by simpa using h.1, h.2⟩
theorem told_cons (x : List Int) (l : List (List Int)) : PyFlat.told (x :: l) = ((x.length : Int) :: x) ++ PyFlat.told l := rfl
theorem played_cons (s : NS) (c : List (List Int)) (cs : List (List (List Int))) : PyFlat.played Kgi2Neutral.step s (c :: cs) = (Kgi2Neutral.step s c).2 :: PyFlat.played Kgi2Neutral.step (Kgi2Neutral.step s c).1 cs := rfl
theorem step_read (s : NS) (n : Int) (a b c d : List Int) : Kgi2Neutral.step s [[0, n], a, b, c, d] =
    if Kgi1.reads (Kgi2Neutral.frame n a b c d) = 0 then (some ⟨Kgi2Neutral.frame n a b c d, start (Kgi2Neutral.frame n a b c d)⟩, [0]) else (s, [Kgi1.reads (Kgi2Neutral.frame n a b c d)]) := by
  show (match some (if Kgi1.reads (Kgi2Neutral.frame n a b c d) = 0 then (some ⟨Kgi2Neutral.frame n a b c d, start (Kgi2Neutral.frame n a b c d)⟩, say 0) else (s, say (Kgi1.reads (Kgi2Neutral.frame n a b c d)))) with
    | none => (s, [])
    | some (t, a) => (t, a.value :: Kgi2Neutral.ints a.out)) = _
  by_cases h : Kgi1.reads (Kgi2Neutral.frame n a b c d) = 0
  · rw [if_pos h, if_pos h]; rfl
  · rw [if_neg h, if_neg h]; rfl
theorem step_step (x : Abs) (h : Int) : Kgi2Neutral.step (some x) [[1, h]] =
    if h.toNat < 1 ∨ 6 < h.toNat then (some x, [-22]) else if broken x.f x.s = true then (some x, [-33]) else match first x.f h.toNat x.s with
      | none => (some x, [0])
      | some (t, s) => (some ⟨x.f, s⟩, 1 :: Kgi2Neutral.ints (flat t)) := by
  show (match some (if h.toNat < 1 ∨ 6 < h.toNat then (some x, say (-22)) else if broken x.f x.s = true then (some x, say (-33)) else match first x.f h.toNat x.s with
    | none => (some x, say 0)
    | some (t, s) => (some ⟨x.f, s⟩, ⟨1, flat t⟩)) with
    | none => (some x, [])
    | some (t, a) => (t, a.value :: Kgi2Neutral.ints a.out)) = _
  by_cases c : h.toNat < 1 ∨ 6 < h.toNat
  · rw [if_pos c, if_pos c]; rfl
  · rw [if_neg c, if_neg c]
    by_cases b : broken x.f x.s = true
    · rw [if_pos b, if_pos b]; rfl
    · rw [if_neg b, if_neg b]
      cases first x.f h.toNat x.s with
      | none => rfl
      | some r => rfl
theorem step_cell (x : Abs) (k : Int) : Kgi2Neutral.step (some x) [[2, k]] = (some x, [if cells x.f ≤ k.toNat then -2 else (at_ x.s k.toNat : Int)]) := by
  show (match some (some x, if cells x.f ≤ k.toNat then say (-2) else say (at_ x.s k.toNat : Nat)) with
    | none => (some x, [])
    | some (t, a) => (t, a.value :: Kgi2Neutral.ints a.out)) = _
  by_cases c : cells x.f ≤ k.toNat
  · rw [if_pos c, if_pos c]; rfl
  · rw [if_neg c, if_neg c]; rfl
theorem step_solve (x : Abs) (h : Int) : Kgi2Neutral.step (some x) [[3, h]] =
    if h.toNat < 1 ∨ 6 < h.toNat then (some x, [-22]) else (some ⟨x.f, (ends x.f h.toNat x.s).2.2⟩, [((ends x.f h.toNat x.s).1 : Int), ((ends x.f h.toNat x.s).2.1 : Int), (how x.f (ends x.f h.toNat x.s).2.2 : Int)]) := by
  show (match some (if h.toNat < 1 ∨ 6 < h.toNat then (some x, say (-22)) else (some ⟨x.f, (ends x.f h.toNat x.s).2.2⟩, ⟨((ends x.f h.toNat x.s).1 : Nat), [(ends x.f h.toNat x.s).2.1, how x.f (ends x.f h.toNat x.s).2.2]⟩)) with
    | none => (some x, [])
    | some (t, a) => (t, a.value :: Kgi2Neutral.ints a.out)) = _
  by_cases c : h.toNat < 1 ∨ 6 < h.toNat
  · rw [if_pos c, if_pos c]; rfl
  · rw [if_neg c, if_neg c]; rfl
theorem step_none {c : List (List Int)} (hc : CallIs c) (h : (Kgi2Neutral.step none c).2 ≠ []) : ∃ n a b d e, c = [[0, n], a, b, d, e] := by
  cases hc with
  | read n a b c d => exact ⟨n, a, b, c, d, rfl⟩
  | step h' => exact (h rfl).elim
  | cell k => exact (h rfl).elim
  | solve h' => exact (h rfl).elim
theorem natural_is {z : Int} {b : Nat} (h : Kgi2Neutral.natural z b = true) : 0 ≤ z ∧ z < 2 ^ b := by
  unfold Kgi2Neutral.natural at h
  simpa using h
def natI (l : List Nat) : List Int := l.map fun (x : Nat) => (x : Int)
theorem nats_back {l : List Int} (h : ∀ z ∈ l, 0 ≤ z) : natI (Kgi2Neutral.natsOf l) = l := by
  unfold natI Kgi2Neutral.natsOf
  rw [List.map_map]
  refine Eq.trans (List.map_congr_left fun z hz => ?_) (List.map_id _)
  show ((z.toNat : Nat) : Int) = z
  have := h z hz
  omega
theorem cells_is {l : List Int} {n : Int} (h : Kgi2Neutral.cells l n = true) : (∀ z ∈ l, 0 ≤ z ∧ z < 256) ∧ (l.length : Int) = if 2 ≤ n ∧ n ≤ 9 then n * n else 0 := by
  unfold Kgi2Neutral.cells at h
  rw [Bool.and_eq_true, List.all_eq_true] at h
  exact ⟨fun z hz => natural_is (h.1 z hz), by simpa using h.2⟩
theorem read_is {n : Int} {a b c d : List Int} (h : Kgi2Neutral.asked1 [[0, n], a, b, c, d] = true) : (0 ≤ n ∧ n < 2 ^ 32) ∧
    (a = natI (Kgi2Neutral.frame n a b c d).region ∧ b = natI (Kgi2Neutral.frame n a b c d).right ∧ c = natI (Kgi2Neutral.frame n a b c d).down ∧ d = natI (Kgi2Neutral.frame n a b c d).given) ∧
    (a.length ≤ 81 ∧ b.length ≤ 81 ∧ c.length ≤ 81 ∧ d.length ≤ 81) ∧
    (2 ≤ n ∧ n ≤ 9 → Lens (Kgi2Neutral.frame n a b c d) ∧ (Kgi2Neutral.frame n a b c d).n = n.toNat) := by
  unfold Kgi2Neutral.asked1 at h
  simp only [Bool.and_eq_true] at h
  obtain ⟨h0, ha, hb, hc, hd⟩ := h
  have h0 := natural_is h0
  have ha := cells_is ha
  have hb := cells_is hb
  have hc := cells_is hc
  have hd := cells_is hd
  have len : ∀ l : List Int, (l.length : Int) = (if 2 ≤ n ∧ n ≤ 9 then n * n else 0) → l.length ≤ 81 := fun l e => by
    by_cases q : 2 ≤ n ∧ n ≤ 9
    · rw [if_pos q] at e
      have : n * n ≤ 9 * 9 := Int.mul_le_mul q.2 q.2 (by omega) (by decide)
      omega
    · rw [if_neg q] at e; omega
  refine ⟨h0, ⟨(nats_back fun z hz => (ha.1 z hz).1).symm, (nats_back fun z hz => (hb.1 z hz).1).symm, (nats_back fun z hz => (hc.1 z hz).1).symm, (nats_back fun z hz => (hd.1 z hz).1).symm⟩, ⟨len a ha.2, len b hb.2, len c hc.2, len d hd.2⟩, fun q => ⟨?_, rfl⟩⟩
  have nn : ∀ l : List Int, (l.length : Int) = (if 2 ≤ n ∧ n ≤ 9 then n * n else 0) → (Kgi2Neutral.natsOf l).length = n.toNat * n.toNat := fun l e => by
    rw [if_pos q] at e
    unfold Kgi2Neutral.natsOf
    rw [List.length_map]
    have h1 : n = (n.toNat : Int) := by omega
    rw [h1] at e
    have h2 : ((n.toNat * n.toNat : Nat) : Int) = (n.toNat : Int) * (n.toNat : Int) := by push_cast; rfl
    rw [← h2] at e
    exact Int.ofNat.inj e
  exact ⟨nn a ha.2, nn b hb.2, nn c hc.2, nn d hd.2⟩
theorem one_is {p h : Int} (hp : p = 1 ∨ p = 2 ∨ p = 3) (q : Kgi2Neutral.asked1 [[p, h]] = true) : 0 ≤ h ∧ h < 2 ^ 32 := by
  rcases hp with rfl | rfl | rfl
  · exact natural_is q
  · exact natural_is q
  · exact natural_is q
theorem put_cons (c : List (List Int)) (cs : List (List (List Int))) : PyFlat.put (c :: cs) = PyFlat.put1 c ++ PyFlat.put cs := rfl
theorem put_read (n : Int) (a b c d : List Int) : PyFlat.put1 [[0, n], a, b, c, d] = 0 :: n :: ((a.length : Int) :: a ++ ((b.length : Int) :: b ++ ((c.length : Int) :: c ++ ((d.length : Int) :: d)))) := by
  show ([0, n] ++ (((a.length : Int) :: a) ++ (((b.length : Int) :: b) ++ (((c.length : Int) :: c) ++ (((d.length : Int) :: d) ++ []))))) = _
  rw [List.append_nil]; rfl
theorem put_one (p h : Int) : PyFlat.put1 [[p, h]] = [p, h] := rfl
theorem flat_len (t : Told) : (flat t).length = 85 := by unfold flat; simp
end Sq
namespace Py
open PySem PySem.Spec PyProof.Rows L2
section
variable {X : Cx}
theorem mt_bits : MtR X "int.bit_length" (fun x xs H Q => ∃ i, x = .int i ∧ xs = [] ∧ Q (.int (Builtin.Int.intBits i)) H) := by
  intro pins s σ H x xs v us Q I rx rxs h
  obtain ⟨i, rfl, rfl, q⟩ := h
  obtain ⟨t, rfl⟩ := rx
  cases rxs
  exact call_int_bit_length ⟨.int _, H, I.tok _, ⟨_, rfl⟩, q⟩
theorem pe_bits {o : Expr} {to : TE} {apos cpos : Pos} (ho : PE X o to) (hbase : attributeBase o "bit_length" X.env (eval o X.env) = eval o X.env := by rfl) (hline : (apos.endLine == cpos.line) = true := by rfl) :
    PE X (.Call (.Attribute o "bit_length" apos) [] [] cpos) (tBM0 X.K "int" (fun x xs H Q => ∃ i, x = .int i ∧ xs = [] ∧ Q (.int (Builtin.Int.intBits i)) H) to) :=
  pe_bm0 PySem.F.plainAttrs_int PySem.F.slot_int_bit_length PySem.F.type_int_bit_length mt_bits ho hbase hline
theorem get_list : PGet X (rIxL X.K) := by
  intro pins s σ H x y v u Q I rx ry h
  obtain ⟨p, xs, i, z, rfl, rfl, hq, he, q⟩ := h
  cases rx
  obtain ⟨t, rfl⟩ := ry
  obtain ⟨its, r, pl, hz⟩ := I.list hq
  obtain ⟨j, h1, h2, h3, h4, h5⟩ := atI_get he
  obtain ⟨w, ew, rw'⟩ := r.get h2
  have hl := r.length
  have hn := line63
  have fin : EP X pins σ Q w s := ⟨z, H, I, rw', q⟩
  by_cases h0 : 0 ≤ i
  · have hj : i.toNat = j := by
      rw [seqIndex_of h0 h5] at h1
      exact Option.some.inj h1
    exact wpAny_getItem_list pl.isList h0 (by omega) (by rw [hj]; simpa using ew) fin
  · have hj : (i + (its.toArray.size : Int)).toNat = j := by
      rw [seqIndex_neg (by omega) h4] at h1
      rw [List.size_toArray, ← hl]
      exact Option.some.inj h1
    exact wpAny_getItem_list_neg pl.isList (by omega) (by rw [List.size_toArray] <;> omega) (by omega) (by rw [hj]; simpa using ew) fin
def rCount (K : PySem.W.Frag) : V → List V → Hp → VK → Prop := fun x xs H Q => ∃ (a : Addr) (ys : List V) (y : V), x = V.ref a ∧ xs = [y] ∧ SqL K H a ys ∧ flatV y = true ∧ ys.all flatV = true ∧ Q (.int ((ys.countP fun z => eqV z y : Nat) : Int)) H
theorem countP_eqU {y : V} : ∀ {ys : List V} {us : List Value}, Vals ys us → ys.all flatV = true → us.countP (eqU y) = ys.countP fun z => eqV z y
  | _, _, .nil, _ => rfl
  | _, _, .cons r t, f => by
    rw [List.all_cons, Bool.and_eq_true] at f
    rw [List.countP_cons, List.countP_cons, countP_eqU t f.2, eqU_of r f.1]
theorem mt_countL : MtR X "list.count" (rCount X.K) := by
  intro pins s σ H x xs v us Q I rx rxs h
  obtain ⟨a, ys, y, rfl, rfl, hs, fy, fys, q⟩ := h
  cases rx
  cases rxs with
  | cons ry rt =>
    rename_i uy ut
    cases rt
    obtain ⟨its, rv, ⟨⟨cls, dd, data, sl⟩, n, ho, hc, hdn, hd⟩, hlen⟩ := I.list hs
    simp only at hc hd
    subst hc hd
    refine call_meets PySem.F.slot_list_count ⟨_, ho, rfl⟩ PySem.F.entry_list_count (PySem.F.args_list_count_2 _ _)
      (SeqAt.list_countAt a its.toArray n dd sl uy (eqU y)) ⟨ho, fun u' hu' => mem_eqAt ry fy rv fys u' (by simpa using hu'), ?_⟩
    have e : its.toArray.toList.countP (eqU y) = ys.countP fun z => eqV z y := countP_eqU rv fys
    rw [e]
    exact ⟨.int _, H, I.tok _, ⟨_, rfl⟩, q⟩
end
section
variable {X : Cx} {K : PySem.W.Frag}
theorem pe_fldB (K : PySem.W.Frag) {e : Expr} {f : Str} {pos : Pos} {ta : TE} (he : PE X e ta) (hb : attributeBase e f X.env (eval e X.env) = eval e X.env) (hK : X.K = K := by rfl) : PE X (.Attribute e f pos) (tFld K ta f) := by
  subst hK; exact pe_fld he hb
theorem ix_listB (K : PySem.W.Frag) (hK : X.K = K := by rfl) : IxR X (rIxL K) := by subst hK; exact ix_list
theorem ix_tupB (K : PySem.W.Frag) (hK : X.K = K := by rfl) : IxR X (rIxT K) := by subst hK; exact ix_tup
theorem op_inB (K : PySem.W.Frag) (hK : X.K = K := by rfl) : OpR X (compareOp .In) (rIn K false) := by subst hK; exact op_in_seq
theorem op_notInB (K : PySem.W.Frag) (hK : X.K = K := by rfl) : OpR X (compareOp .NotIn) (rIn K true) := by subst hK; exact op_notIn_seq
def rLen (K : PySem.W.Frag) : List V → Hp → VK → Prop := fun xs H Q => ∃ p ys, xs = [.ref p] ∧ (SqL K H p ys ∨ SqT K H p ys) ∧ Q (.int ys.length) H
theorem call_lenB (K : PySem.W.Frag) (hK : X.K = K := by rfl) : CallR X (.builtin "len") (rLen K) := by subst hK; exact call_len_seq
theorem pe_countB (K : PySem.W.Frag) {o e : Expr} {to te : TE} {apos cpos : Pos} (ho : PE X o to) (ha : PA X [e] (tCons te tNil)) (hbase : attributeBase o "count" X.env (eval o X.env) = eval o X.env := by rfl) (hK : X.K = K := by rfl)
    (hfew : ((backTo cpos (starEach [e] X.env)).all (fun x => !x.1) && (backToKw cpos (keywordEach [] X.env)).all (fun x => x.1.isSome) && decide (([e] : List Expr).length + ([] : List Keyword).length + (if ([] : List Keyword).isEmpty then 0 else 1) < 30)) = true := by rfl)
    (hline : (apos.endLine == cpos.line) = true := by rfl) (hst : starEach [e] X.env = (false, eval e X.env) :: starEach [] X.env := by rfl) :
    PE X (.Call (.Attribute o "count" apos) [e] [] cpos) (tBM K "list" (rCount K) to (tCons te tNil)) := by
  subst hK
  exact pe_bm PySem.F.plainAttrs_list PySem.F.slot_list_count PySem.F.type_list_count mt_countL ho ha hbase hfew hline hst
end
section
variable (P : Program) (w : World) (K : PySem.W.Frag) (mg : Str → Option Value) (base : Heap)
def GF (k : Nat) (x : Str) (ps : List Str) (sp : Sp) : Prop := ∃ f fd, FnOk P w K mg base CX0 k f fd ps sp ∧ mg x = some (.ref f) ∧ PySem.W.keepIn K (.ref f) = true ∧ Binds K fd ps []
def MF (k : Nat) (C : Addr) (m : Str) (ps : List Str) (sp : Sp) : Prop := ∃ f fd, FnOk P w K mg base CX0 k f fd ps sp ∧ Meth K C m f ∧ Binds K fd ps []
def CF (k : Nat) (C : Addr) (x : Str) (ps : List Str) (sp : Sp) : Prop := ∃ f fd, FnOk P w K mg base CX0 k f fd ps sp ∧ Mk K C f ∧ mg x = some (.ref C) ∧ Binds K fd ps []
end
section
variable {X : Cx} {j k : Nat} {x m : Str} {C : Addr} {ps : List Str} {sp : Sp} {p pos apos : Pos} {e o : Expr} {es : List Expr} {ta : TE} {t : TA}
theorem pe_callG (G : GF X.prog X.w X.K X.mg X.base j x ps sp) (hr : Room k X.A) (hg : Gl X x) (ha : PA X (e :: es) t) (hj : j ≤ k := by decide) (hdb : (x == ("__debug__" : Str)) = false := by decide)
    (he : starEach (e :: es) X.env = (false, eval e X.env) :: starEach es X.env := by rfl) (hpl : (backTo pos (starEach es X.env)).any (·.1) = false := by rfl) : PE X (.Call (.Name x p) (e :: es) [] pos) (tCall sp [] E0 t) := by
  obtain ⟨f, fd, F, hm, hk, hb⟩ := G
  exact pe_call F (hr.mono hj) hg hm hk hb .nil pass0 ha hdb he hpl
theorem pe_methG {pl : Sem Bool} (he : PE X o ta) (c : Cls X.K C) (G : MF X.prog X.w X.K X.mg X.base j C m ps sp) (hr : Room k X.A) (ha : PA X (e :: es) t) (hj : j ≤ k := by decide)
    (hst : starEach (e :: es) X.env = (false, eval e X.env) :: starEach es X.env := by rfl) (hpl : (backTo pos (starEach es X.env)).any (·.1) = false := by rfl)
    (ht : eval (.Call (.Attribute o m apos) (e :: es) [] pos) X.env = (do
      let ov ← eval o X.env
      standAt apos.atName
      let (f, first) ← holding [ov] (getMethod ov m pl)
      callWith pos f first (backTo pos (starEach (e :: es) X.env)) (backToKw pos (keywordEach [] X.env))) := by rfl) :
    PE X (.Call (.Attribute o m apos) (e :: es) [] pos) (tMeth C m sp [] E0 ta t) := by
  obtain ⟨f, fd, F, hm, hb⟩ := G
  exact pe_meth he c hm F (hr.mono hj) hb .nil pass0 ha hst hpl ht
theorem pe_methG0 {pl : Sem Bool} (he : PE X o ta) (c : Cls X.K C) (G : MF X.prog X.w X.K X.mg X.base j C m ps sp) (hr : Room k X.A) (hj : j ≤ k := by decide)
    (ht : eval (.Call (.Attribute o m apos) [] [] pos) X.env = (do
      let ov ← eval o X.env
      standAt apos.atName
      let (f, first) ← holding [ov] (getMethod ov m pl)
      callWith pos f first (backTo pos (starEach [] X.env)) (backToKw pos (keywordEach [] X.env))) := by rfl) :
    PE X (.Call (.Attribute o m apos) [] [] pos) (tMeth C m sp [] E0 ta tNil) := by
  obtain ⟨f, fd, F, hm, hb⟩ := G
  exact pe_meth0 he c hm F (hr.mono hj) hb .nil pass0 ht
theorem pe_makeG (G : CF X.prog X.w X.K X.mg X.base j C x ps sp) (hr : Room k X.A) (hg : Gl X x) (ha : PA X (e :: es) t) (hj : j + 1 ≤ k := by decide) (hdb : (x == ("__debug__" : Str)) = false := by decide)
    (he : starEach (e :: es) X.env = (false, eval e X.env) :: starEach es X.env := by rfl) (hpl : (backTo pos (starEach es X.env)).any (·.1) = false := by rfl) : PE X (.Call (.Name x p) (e :: es) [] pos) (tMake C sp [] E0 t) := by
  obtain ⟨f, fd, F, M, hm, hb⟩ := G
  exact pe_make M F (hr.mono hj) hg hm hb .nil pass0 ha hdb he hpl
theorem pe_makeG0 (G : CF X.prog X.w X.K X.mg X.base j C x ps sp) (hr : Room k X.A) (hg : Gl X x) (hj : j + 1 ≤ k := by decide) (hdb : (x == ("__debug__" : Str)) = false := by decide) : PE X (.Call (.Name x p) [] [] pos) (tMake C sp [] E0 tNil) := by
  obtain ⟨f, fd, F, M, hm, hb⟩ := G
  exact pe_make0 M F (hr.mono hj) hg hm hb .nil pass0 hdb
def tCallV (R : Addr → Sp → Prop) (i : Nat) (t : TA) : TE := fun σ H Q => ∃ f sp, σ[i]? = some (some (.ref f)) ∧ R f sp ∧ t σ H fun vs H1 => sp vs H1 Q E0
def VF (P : Program) (w : World) (K : PySem.W.Frag) (mg : Str → Option Value) (base : Heap) (k : Nat) (ps : List Str) (f : Addr) (sp : Sp) : Prop := ∃ fd, FnOk P w K mg base CX0 k f fd ps sp ∧ PySem.W.keepIn K (.ref f) = true ∧ Binds K fd ps []
theorem pe_callV {i : Nat} (hv : PE X (.Name x p) (tVar i)) (hr : Room k X.A) (ha : PA X (e :: es) t)
    (he : starEach (e :: es) X.env = (false, eval e X.env) :: starEach es X.env := by rfl) (hpl : (backTo pos (starEach es X.env)).any (·.1) = false := by rfl) :
    PE X (.Call (.Name x p) (e :: es) [] pos) (tCallV (VF X.prog X.w X.K X.mg X.base k ps) i t) := by
  intro pins s σ H Q I h
  obtain ⟨f, sp, e1, ⟨fd, F, hk, hb⟩, h⟩ := h
  refine wpAny_Call_Name_kw (thn (hv pins s σ H (fun v H1 => v = .ref f ∧ H1 = H) I ⟨_, e1, rfl, rfl⟩) fun u s1 ⟨v, H1, I1, r, ev, eH⟩ => ?_)
  subst ev eH
  obtain rfl : u = Value.ref f := r
  refine PySem.W.callWith_K (h₀ := X.base) I1.ok.mod.kin hk (thn (ha pos pins s1 σ H1 _ I1 h) fun us s2 ⟨vs, H2, I2, r, q⟩ => ⟨I2.kIn, ?_⟩) he hpl
  exact run_fn (dvs := []) F hr hb .nil pass0 I2 r (by rw [List.append_nil]; exact q)
end
end Py
namespace Py
open PySem PySem.Spec PyProof.Rows L2
theorem bA (a b : Nat) : Builtin.bitAnd (a : Int) (b : Int) = ((a &&& b : Nat) : Int) := by
  rw [bitAnd_pp (Int.natCast_nonneg _) (Int.natCast_nonneg _)]; rfl
theorem bNot_neg (b : Nat) : ¬ 0 ≤ Builtin.bitNot (b : Int) := by unfold Builtin.bitNot; omega
theorem bNot_not (z : Int) : Builtin.bitNot (Builtin.bitNot z) = z := by unfold Builtin.bitNot; omega
theorem bAN (a b : Nat) : Builtin.bitAnd (a : Int) (Builtin.bitNot (b : Int)) = ((Sq.sub a b : Nat) : Int) := by
  rw [bitAnd_pn (Int.natCast_nonneg _) (bNot_neg b), bNot_not]
  have := Sq.and_le a b
  unfold Sq.sub
  show (a : Int) - ((a &&& b : Nat) : Int) = _
  omega
theorem bO (a b : Nat) : Builtin.bitOr (a : Int) (b : Int) = ((a ||| b : Nat) : Int) := by
  rw [bitOr_and, bA]
  have e : (a ||| b) + (a &&& b) = a + b := by
    have h1 := Sq.xor_add_and a b
    have h2 : (a ||| b) = (a ^^^ b) + (a &&& b) := by
      have h3 := Sq.xor_add_and (a ^^^ b) (a &&& b)
      have h4 : (a ^^^ b) &&& (a &&& b) = 0 := Sq.zero_of fun i hi => by
        rw [Nat.testBit_and, Nat.testBit_xor, Nat.testBit_and] at hi
        cases h5 : a.testBit i <;> cases h6 : b.testBit i <;> rw [h5, h6] at hi <;> cases hi
      have h5 : (a ^^^ b) ^^^ (a &&& b) = a ||| b := Sq.ext fun i => by
        rw [Nat.testBit_xor, Nat.testBit_xor, Nat.testBit_and, Nat.testBit_or]
        cases a.testBit i <;> cases b.testBit i <;> rfl
      rw [h4, h5] at h3
      omega
    omega
  omega
theorem bX (a b : Nat) : Builtin.bitXor (a : Int) (b : Int) = ((a ^^^ b : Nat) : Int) := by
  rw [bitXor_and, bA]
  have := Sq.xor_add_and a b
  omega
theorem bPred (b : Nat) : Builtin.bitAnd (b : Int) ((b : Int) - 1) = ((b &&& (b - 1) : Nat) : Int) := by
  by_cases h : b = 0
  · subst h
    rw [bitAnd_pn (by decide) (by decide)]; simp
  · have e : (b : Int) - 1 = ((b - 1 : Nat) : Int) := by omega
    rw [e, bA]
theorem bNeg {b : Nat} (h : b ≠ 0) : Builtin.bitAnd (b : Int) (-(b : Int)) = ((2 ^ Sq.low b : Nat) : Int) := by
  have e : -(b : Int) = Builtin.bitNot ((b - 1 : Nat) : Int) := by unfold Builtin.bitNot; omega
  rw [e, bAN]
  have := Sq.low_pow h
  unfold Sq.sub
  rw [this]
theorem bits_of {b : Nat} (h : b ≠ 0) : ((Builtin.Int.intBits (b : Int) : Nat) : Int) - 1 = (b.log2 : Int) := by
  unfold Builtin.Int.intBits
  have : ((b : Int) == 0) = false := by
    rw [beq_eq_false_iff_ne]; omega
  rw [this]
  show ((((b : Int).natAbs.log2 + 1 : Nat)) : Int) - 1 = _
  rw [Int.natAbs_natCast]; omega
theorem log2_pow (k : Nat) : (2 ^ k).log2 = k := Nat.log2_two_pow
def andZ (a : Nat) (z : Int) : Nat := if 0 ≤ z then a &&& z.toNat else Sq.sub a (Builtin.bitNot z).toNat
theorem bZ (a : Nat) (z : Int) : Builtin.bitAnd (a : Int) z = ((andZ a z : Nat) : Int) := by
  unfold andZ
  by_cases h : 0 ≤ z
  · rw [if_pos h]
    have e : z = (z.toNat : Int) := by omega
    conv => lhs; rw [e]
    exact bA a z.toNat
  · rw [if_neg h]
    have e : z = Builtin.bitNot (((Builtin.bitNot z).toNat : Nat) : Int) := by unfold Builtin.bitNot; omega
    conv => lhs; rw [e]
    exact bAN a _
theorem andZ_nat (a b : Nat) : andZ a (b : Int) = a &&& b := by
  unfold andZ
  rw [if_pos (Int.natCast_nonneg _)]; rfl
theorem andZ_not (a b : Nat) : andZ a (Builtin.bitNot (b : Int)) = Sq.sub a b := by
  unfold andZ
  rw [if_neg (bNot_neg b), bNot_not]; rfl
theorem andZ_bit {a : Nat} {z : Int} {v : Nat} (h : (andZ a z).testBit v = true) : a.testBit v = true := by
  unfold andZ at h
  split at h
  · rw [Nat.testBit_and, Bool.and_eq_true] at h; exact h.1
  · rw [Sq.tb_sub, Bool.and_eq_true] at h; exact h.1
theorem xor_hit {a h : Nat} (hh : ∀ v, h.testBit v = true → a.testBit v = true) : a ^^^ h = Sq.sub a h := Sq.ext fun i => by
  rw [Nat.testBit_xor, Sq.tb_sub]
  cases e : h.testBit i with
  | false => cases a.testBit i <;> rfl
  | true => rw [hh i e]; rfl
abbrev nI (x : Nat) : V := .int (x : Int)
def nIs (l : List Nat) : List V := l.map nI
theorem ints_len (l : List Nat) : (nIs l).length = l.length := List.length_map _
theorem ints_get {l : List Nat} {i x : Nat} (h : l[i]? = some x) : (nIs l)[i]? = some (nI x) := by
  unfold nIs; rw [List.getElem?_map, h]; rfl
theorem of_ints {l : List Nat} {i : Nat} {y : V} (h : (nIs l)[i]? = some y) : ∃ x, l[i]? = some x ∧ y = nI x := by
  unfold nIs at h
  rw [List.getElem?_map] at h
  cases e : l[i]? with
  | none => rw [e] at h; cases h
  | some x => rw [e] at h; exact ⟨x, rfl, (Option.some.inj h).symm⟩
theorem ints_at {l : List Nat} {i x : Nat} (h : l[i]? = some x) : atI (nIs l) (i : Int) = some (nI x) := atI_nat (ints_get h)
theorem ints_set (l : List Nat) (i x : Nat) : (nIs l).set i (nI x) = nIs (l.set i x) := by
  unfold nIs; rw [List.map_set]
theorem ints_snoc (l : List Nat) (x : Nat) : nIs l ++ [nI x] = nIs (l ++ [x]) := by
  unfold nIs; rw [List.map_append]; rfl
theorem ints_app (l m : List Nat) : nIs l ++ nIs m = nIs (l ++ m) := by
  unfold nIs; rw [List.map_append]
theorem ints_flat (l : List Nat) : (nIs l).all flatV = true := by
  unfold nIs; rw [List.all_map, List.all_eq_true]; exact fun _ _ => rfl
theorem ixN_nat {n i : Nat} (h : i < n) : ixN n (i : Int) = some i := by
  unfold ixN
  rw [if_pos (Int.natCast_nonneg _), if_pos (by omega), Int.toNat_natCast]
theorem refs_get {l : List Addr} {i : Nat} {x : Addr} (h : l[i]? = some x) : (l.map V.ref)[i]? = some (.ref x) := by rw [List.getElem?_map, h]; rfl
theorem of_refs {l : List Addr} {i : Nat} {y : V} (h : (l.map V.ref)[i]? = some y) : ∃ x, l[i]? = some x ∧ y = .ref x := by
  rw [List.getElem?_map] at h
  cases e : l[i]? with
  | none => rw [e] at h; cases h
  | some x => rw [e] at h; exact ⟨x, rfl, (Option.some.inj h).symm⟩
section
variable {X : Cx}
theorem OpR.of {f : Value → Value → Sem Value} {r r' : R2} (h : OpR X f r) (i : ∀ x y H Q, r' x y H Q → r x y H Q) : OpR X f r' := fun pins s σ H x y v u Q I rx ry q => h pins s σ H x y v u Q I rx ry (i x y H Q q)
def rAndN : R2 := fun x y H Q => ∃ a b : Nat, x = nI a ∧ y = nI b ∧ Q (nI (a &&& b)) H
theorem on_and : OpR X (binaryOp .BitAnd) rAndN := OpR.of op_and fun x y H Q ⟨a, b, e1, e2, q⟩ => ⟨a, b, e1, e2, by
  show Q (.int (Builtin.bitAnd (a : Int) (b : Int))) H
  rw [bA]; exact q⟩
def rAndZ : R2 := fun x y H Q => ∃ (a : Nat) (z : Int), x = nI a ∧ y = .int z ∧ Q (nI (andZ a z)) H
theorem on_andZ : OpR X (binaryOp .BitAnd) rAndZ := OpR.of op_and fun x y H Q ⟨a, z, e1, e2, q⟩ => ⟨a, z, e1, e2, by
  show Q (.int (Builtin.bitAnd (a : Int) z)) H
  rw [bZ]; exact q⟩
def rAndNot : R2 := fun x y H Q => ∃ (a b : Nat), x = nI a ∧ y = .int (Builtin.bitNot (b : Int)) ∧ Q (nI (Sq.sub a b)) H
theorem on_andNot : OpR X (binaryOp .BitAnd) rAndNot := OpR.of op_and fun x y H Q ⟨a, b, e1, e2, q⟩ => ⟨a, _, e1, e2, by
  show Q (.int (Builtin.bitAnd (a : Int) (Builtin.bitNot (b : Int)))) H
  rw [bAN]; exact q⟩
def rOrN : R2 := fun x y H Q => ∃ a b : Nat, x = nI a ∧ y = nI b ∧ Q (nI (a ||| b)) H
theorem in_or : OpR X (inplaceOp .BitOr) rOrN := OpR.of iop_or fun x y H Q ⟨a, b, e1, e2, q⟩ => ⟨a, b, e1, e2, by
  show Q (.int (Builtin.bitOr (a : Int) (b : Int))) H
  rw [bO]; exact q⟩
def rXorN : R2 := fun x y H Q => ∃ a b : Nat, x = nI a ∧ y = nI b ∧ Q (nI (a ^^^ b)) H
theorem in_xor : OpR X (inplaceOp .BitXor) rXorN := OpR.of iop_xor fun x y H Q ⟨a, b, e1, e2, q⟩ => ⟨a, b, e1, e2, by
  show Q (.int (Builtin.bitXor (a : Int) (b : Int))) H
  rw [bX]; exact q⟩
def rAddN : R2 := fun x y H Q => ∃ a b : Nat, x = nI a ∧ y = nI b ∧ Q (nI (a + b)) H
theorem on_add : OpR X (binaryOp .Add) rAddN := OpR.of op_add fun x y H Q ⟨a, b, e1, e2, q⟩ => ⟨a, b, e1, e2, by
  show Q (.int ((a : Int) + (b : Int))) H
  rw [show ((a : Int) + (b : Int)) = ((a + b : Nat) : Int) by push_cast; rfl]; exact q⟩
theorem in_addN : OpR X (inplaceOp .Add) rAddN := OpR.of iop_add fun x y H Q ⟨a, b, e1, e2, q⟩ => ⟨a, b, e1, e2, by
  show Q (.int ((a : Int) + (b : Int))) H
  rw [show ((a : Int) + (b : Int)) = ((a + b : Nat) : Int) by push_cast; rfl]; exact q⟩
def rSubN : R2 := fun x y H Q => ∃ a b : Nat, x = nI a ∧ y = nI b ∧ b ≤ a ∧ Q (nI (a - b)) H
theorem on_sub : OpR X (binaryOp .Sub) rSubN := OpR.of op_sub fun x y H Q ⟨a, b, e1, e2, c, q⟩ => ⟨a, b, e1, e2, by
  show Q (.int ((a : Int) - (b : Int))) H
  rw [show ((a : Int) - (b : Int)) = ((a - b : Nat) : Int) by omega]; exact q⟩
def rMulN : R2 := fun x y H Q => ∃ a b : Nat, x = nI a ∧ y = nI b ∧ a < 1000000 ∧ Q (nI (a * b)) H
theorem on_mul : OpR X (binaryOp .Mult) rMulN := OpR.of op_mul fun x y H Q ⟨a, b, e1, e2, c, q⟩ => ⟨a, b, e1, e2, .inl ⟨by omega, by omega⟩, by
  show Q (.int ((a : Int) * (b : Int))) H
  rw [show ((a : Int) * (b : Int)) = ((a * b : Nat) : Int) by push_cast; rfl]; exact q⟩
def rShlN : R2 := fun x y H Q => ∃ a b : Nat, x = nI a ∧ y = nI b ∧ (a < 1000000 ∧ b < 1000000) ∧ Q (nI (a * 2 ^ b)) H
theorem on_shl : OpR X (binaryOp .LShift) rShlN := OpR.of op_shl fun x y H Q ⟨a, b, e1, e2, c, q⟩ => ⟨a, b, e1, e2, ⟨by omega, by omega, by omega⟩, by
  show Q (.int ((a : Int) * 2 ^ ((b : Int)).toNat)) H
  rw [Int.toNat_natCast, show ((a : Int) * 2 ^ b) = ((a * 2 ^ b : Nat) : Int) by push_cast; rfl]; exact q⟩
def rShrN : R2 := fun x y H Q => ∃ a b : Nat, x = nI a ∧ y = nI b ∧ Q (nI (a / 2 ^ b)) H
theorem on_shr : OpR X (binaryOp .RShift) rShrN := OpR.of op_shr fun x y H Q ⟨a, b, e1, e2, q⟩ => ⟨a, b, e1, e2, Int.natCast_nonneg _, by
  show Q (.int ((a : Int) / 2 ^ ((b : Int)).toNat)) H
  rw [Int.toNat_natCast, show ((a : Int) / 2 ^ b) = ((a / 2 ^ b : Nat) : Int) by push_cast; rfl]; exact q⟩
def rDivN : R2 := fun x y H Q => ∃ a b : Nat, x = nI a ∧ y = nI b ∧ (0 < b ∧ b < 1000000) ∧ Q (nI (a / b)) H
theorem on_div : OpR X (binaryOp .FloorDiv) rDivN := OpR.of op_fdiv fun x y H Q ⟨a, b, e1, e2, c, q⟩ => ⟨a, b, e1, e2, ⟨by omega, by omega⟩, by
  show Q (.int ((a : Int) / (b : Int))) H
  rw [show ((a : Int) / (b : Int)) = ((a / b : Nat) : Int) by push_cast; rfl]; exact q⟩
def rModN : R2 := fun x y H Q => ∃ a b : Nat, x = nI a ∧ y = nI b ∧ 0 < b ∧ Q (nI (a % b)) H
theorem on_mod : OpR X (binaryOp .Mod) rModN := OpR.of op_mod fun x y H Q ⟨a, b, e1, e2, c, q⟩ => ⟨a, b, e1, e2, Int.natCast_pos.mpr c, by
  show Q (.int ((a : Int) % (b : Int))) H
  rw [show ((a : Int) % (b : Int)) = ((a % b : Nat) : Int) by push_cast; rfl]; exact q⟩
theorem dN {a b : Nat} : decide (nI a = nI b) = decide (a = b) := by
  by_cases h : a = b
  · subst h; simp
  · rw [decide_eq_false h, decide_eq_false]
    intro e
    injection e with e
    omega
def rEqN : R2 := fun x y H Q => ∃ a b : Nat, x = nI a ∧ y = nI b ∧ Q (.bl (decide (a = b))) H
def rNeN : R2 := fun x y H Q => ∃ a b : Nat, x = nI a ∧ y = nI b ∧ Q (.bl (!decide (a = b))) H
theorem on_eq : OpR X (compareOp .Eq) rEqN := OpR.of op_eq fun x y H Q ⟨a, b, e1, e2, q⟩ => by subst e1 e2; exact ⟨rfl, by rw [dN]; exact q⟩
theorem on_ne : OpR X (compareOp .NotEq) rNeN := OpR.of op_ne fun x y H Q ⟨a, b, e1, e2, q⟩ => by subst e1 e2; exact ⟨rfl, by rw [dN]; exact q⟩
def rLtN : R2 := fun x y H Q => ∃ a b : Nat, x = nI a ∧ y = nI b ∧ Q (.bl (decide (a < b))) H
theorem on_lt : OpR X (compareOp .Lt) rLtN := OpR.of op_lt fun x y H Q ⟨a, b, e1, e2, q⟩ => ⟨a, b, e1, e2, by
  have e : decide ((a : Int) < (b : Int)) = decide (a < b) := decide_eq_decide.mpr (by omega)
  show Q (.bl (decide ((a : Int) < (b : Int)))) H
  rw [e]; exact q⟩
def rLeN : R2 := fun x y H Q => ∃ a b : Nat, x = nI a ∧ y = nI b ∧ Q (.bl (decide (a ≤ b))) H
theorem on_le : OpR X (compareOp .LtE) rLeN := OpR.of op_le fun x y H Q ⟨a, b, e1, e2, q⟩ => ⟨a, b, e1, e2, by
  have e : decide ((a : Int) ≤ (b : Int)) = decide (a ≤ b) := decide_eq_decide.mpr (by omega)
  show Q (.bl (decide ((a : Int) ≤ (b : Int)))) H
  rw [e]; exact q⟩
def rGtN : R2 := fun x y H Q => ∃ a b : Nat, x = nI a ∧ y = nI b ∧ Q (.bl (decide (b < a))) H
theorem on_gt : OpR X (compareOp .Gt) rGtN := OpR.of op_gt fun x y H Q ⟨a, b, e1, e2, q⟩ => ⟨a, b, e1, e2, by
  have e : decide ((b : Int) < (a : Int)) = decide (b < a) := decide_eq_decide.mpr (by omega)
  show Q (.bl (decide ((b : Int) < (a : Int)))) H
  rw [e]; exact q⟩
def rGeN : R2 := fun x y H Q => ∃ a b : Nat, x = nI a ∧ y = nI b ∧ Q (.bl (decide (b ≤ a))) H
theorem on_ge : OpR X (compareOp .GtE) rGeN := OpR.of op_ge fun x y H Q ⟨a, b, e1, e2, q⟩ => ⟨a, b, e1, e2, by
  have e : decide ((b : Int) ≤ (a : Int)) = decide (b ≤ a) := decide_eq_decide.mpr (by omega)
  show Q (.bl (decide ((b : Int) ≤ (a : Int)))) H
  rw [e]; exact q⟩
theorem pe_nat (n : Nat) {i : Int} {j : Nat} {pos : Pos} (h : i = (n : Int) := by rfl) : PE X (.Constant (.int i) j pos) (tC (nI n)) := by subst h; exact pe_int
def CI (mg : Str → Option Value) (x : Str) (i : Int) : Prop := ∃ t, mg x = some (.int i t)
theorem pe_num {x : Str} {i : Int} {pos : Pos} (h : CI X.mg x i) (hg : Gl X x) (hd : (x == ("__debug__" : Str)) = false := by decide) : PE X (.Name x pos) (tC (.int i)) := by
  obtain ⟨t, h⟩ := h
  exact pe_glob hg h ⟨t, rfl⟩ hd
def tTruN (ta : TE) : TT := fun σ H Q => ta σ H fun x H' => ∃ a : Nat, x = nI a ∧ Q (decide (a ≠ 0)) H'
theorem pt_nat {a : Expr} {ta : TE} (ha : PE X a ta) (he : ∀ whole, isTrue a X.env whole = (do let v ← whole; standAt a.pos; holding [v] (truthy v))) : PT X a (tTruN ta) := by
  intro pins s σ H Q I h
  rw [he]
  refine wpAny_bind (thn (ha pins s σ H _ I h) fun v s' ⟨x, H', I', r, a, e, q⟩ => wpAny_bind (wpAny_standAt (wpAny_holding ?_)))
  subst e
  refine tru_ok pins s' σ H' _ v Q I' r ⟨_, rfl, ?_⟩
  have e : ((a : Int) != 0) = decide (a ≠ 0) := by
    rw [Bool.eq_iff_iff, bne_iff_ne, decide_eq_true_iff]; omega
  rw [e]; exact q
end
structure Kp (M : List Addr) (H H' : Hp) : Prop where
  lst : ∀ b xs, H b = some (.lst xs) → b ∉ M → H' b = some (.lst xs)
  oth : ∀ b o, H b = some o → (∀ xs, o ≠ .lst xs) → H' b = some o
theorem Kp.refl (M : List Addr) (H : Hp) : Kp M H H := ⟨fun _ _ h _ => h, fun _ _ h _ => h⟩
theorem Kp.trans {M : List Addr} {H H1 H2 : Hp} (a : Kp M H H1) (b : Kp M H1 H2) : Kp M H H2 := ⟨fun c xs h n => b.lst c xs (a.lst c xs h n) n, fun c o h n => b.oth c o (a.oth c o h n) n⟩
theorem Kp.mono {M N : List Addr} {H H' : Hp} (a : Kp M H H') (h : ∀ b ∈ M, b ∈ N) : Kp N H H' := ⟨fun c xs e n => a.lst c xs e fun z => n (h c z), a.oth⟩
theorem Kp.same {M : List Addr} {H H' : Hp} (s : Same H H') : Kp M H H' := ⟨fun b xs h _ => s b _ h, fun b o h _ => s b o h⟩
theorem Kp.keep {M : List Addr} {H H' : Hp} (k : Kp M H H') {b : Addr} {o : HO} (h : H b = some o) (n : b ∉ M) : H' b = some o := by
  by_cases q : ∃ xs, o = .lst xs
  · obtain ⟨xs, rfl⟩ := q
    exact k.lst b xs h n
  · exact k.oth b o h fun xs e => q ⟨xs, e⟩
theorem Kp.sub {M : List Addr} {S H H' : Hp} (k : Kp M H H') (s : Same S H) (n : ∀ b ∈ M, S b = none) : Same S H' := fun b o h => k.keep (s b o h) fun z => by rw [n b z] at h; cases h
theorem same_new {H : Hp} {p : Addr} {o : HO} (h : H p = none) : Same H (upd H p o) := fun b u e => by rw [upd_ne (ne_of_none e h)]; exact e
theorem Kp.new {M : List Addr} {H : Hp} {p : Addr} {o : HO} (h : H p = none) : Kp M H (upd H p o) := Kp.same (same_new h)
theorem Kp.put {M : List Addr} {H : Hp} {p : Addr} {xs : List V} {o : HO} (h : H p = some (.lst xs)) (hm : p ∈ M) : Kp M H (upd H p o) :=
  ⟨fun b ys e n => by
    have q : b ≠ p := fun z => n (by rw [z]; exact hm)
    rw [upd_ne q]; exact e, fun b u e n => by
    have : b ≠ p := fun z => by subst z; rw [h] at e; exact n xs (Option.some.inj e).symm
    rw [upd_ne this]; exact e⟩
def Ats {α : Type} (R : Addr → α → Prop) : List Addr → List α → Prop
  | [], [] => True
  | a :: as, q :: l => R a q ∧ Ats R as l
  | _, _ => False
section
variable {α : Type} {R R' : Addr → α → Prop}
theorem Ats.len : ∀ {as : List Addr} {l : List α}, Ats R as l → as.length = l.length
  | [], [], _ => rfl
  | a :: as, q :: l, h => by rw [List.length_cons, List.length_cons, Ats.len h.2]
  | [], _ :: _, h => h.elim
  | _ :: _, [], h => h.elim
theorem Ats.get : ∀ {as : List Addr} {l : List α} {i : Nat} {a : Addr}, Ats R as l → as[i]? = some a → ∃ q, l[i]? = some q ∧ R a q
  | [], [], i, a, _, e => by simp at e
  | b :: as, q :: l, 0, a, h, e => by
    have : b = a := by simpa using e
    subst this
    exact ⟨q, rfl, h.1⟩
  | b :: as, q :: l, i + 1, a, h, e => by
    obtain ⟨r, h1, h2⟩ := Ats.get (i := i) (a := a) h.2 (by simpa using e)
    exact ⟨r, by simpa using h1, h2⟩
  | [], _ :: _, _, _, h, _ => h.elim
  | _ :: _, [], _, _, h, _ => h.elim
theorem Ats.at : ∀ {as : List Addr} {l : List α} {i : Nat} {q : α}, Ats R as l → l[i]? = some q → ∃ a, as[i]? = some a ∧ R a q := fun {as l i q} h e => by
  have hl := h.len
  have hi := (List.getElem?_eq_some_iff.mp e).1
  obtain ⟨r, h1, h2⟩ := h.get (List.getElem?_eq_getElem (by omega : i < as.length))
  rw [e] at h1
  cases h1
  exact ⟨_, List.getElem?_eq_getElem (by omega), h2⟩
theorem Ats.imp (f : ∀ a q, R a q → R' a q) : ∀ {as : List Addr} {l : List α}, Ats R as l → Ats R' as l
  | [], [], h => h
  | a :: as, q :: l, h => ⟨f a q h.1, Ats.imp f h.2⟩
  | [], _ :: _, h => h.elim
  | _ :: _, [], h => h.elim
theorem Ats.imp_mem : ∀ {as : List Addr} {l : List α}, (∀ a q, a ∈ as → R a q → R' a q) → Ats R as l → Ats R' as l
  | [], [], _, h => h
  | a :: as, q :: l, f, h => ⟨f a q List.mem_cons_self h.1, Ats.imp_mem (fun a q ha => f a q (List.mem_cons_of_mem _ ha)) h.2⟩
  | [], _ :: _, _, h => h.elim
  | _ :: _, [], _, h => h.elim
theorem Ats.app : ∀ {as bs : List Addr} {l m : List α}, Ats R as l → Ats R bs m → Ats R (as ++ bs) (l ++ m)
  | [], _, [], _, _, h => h
  | a :: as, _, q :: l, _, h, g => ⟨h.1, Ats.app h.2 g⟩
  | [], _, _ :: _, _, h, _ => h.elim
  | _ :: _, _, [], _, h, _ => h.elim
theorem Ats.snoc {as : List Addr} {l : List α} {a : Addr} {q : α} (h : Ats R as l) (e : R a q) : Ats R (as ++ [a]) (l ++ [q]) := h.app ⟨e, trivial⟩
theorem Ats.unsnoc {as : List Addr} {l : List α} {q : α} (h : Ats R as (l ++ [q])) : ∃ bs a, as = bs ++ [a] ∧ Ats R bs l ∧ R a q := by
  induction l generalizing as with
  | nil =>
    match as, h with
    | [a], h => exact ⟨[], a, rfl, trivial, h.1⟩
    | [], h => exact h.elim
    | _ :: _ :: _, h => exact h.2.elim
  | cons r l ih =>
    match as, h with
    | [], h => exact h.elim
    | a :: as, h =>
      obtain ⟨bs, b, e, h1, h2⟩ := ih h.2
      exact ⟨a :: bs, b, by rw [e]; rfl, ⟨h.1, h1⟩, h2⟩
end
def Tups (H : Hp) : List Addr → List (Nat × Nat) → Prop := Ats fun a q => H a = some (.tup [nI q.1, nI q.2])
theorem Tups.len {H : Hp} {as : List Addr} {l : List (Nat × Nat)} (h : Tups H as l) : as.length = l.length := Ats.len h
theorem Tups.get {H : Hp} {as : List Addr} {l : List (Nat × Nat)} {i : Nat} {a : Addr} (h : Tups H as l) (e : as[i]? = some a) : ∃ q, l[i]? = some q ∧ H a = some (.tup [nI q.1, nI q.2]) := Ats.get h e
theorem Tups.kp {M : List Addr} {H H' : Hp} (k : Kp M H H') {as : List Addr} {l : List (Nat × Nat)} (h : Tups H as l) : Tups H' as l := Ats.imp (fun a q e => k.oth a _ e (fun xs e => by cases e)) h
theorem Tups.same {H H' : Hp} (s : Same H H') {as : List Addr} {l : List (Nat × Nat)} (h : Tups H as l) : Tups H' as l := Ats.imp (fun a q e => s a _ e) h
theorem Tups.app {H : Hp} {as bs : List Addr} {l m : List (Nat × Nat)} (h : Tups H as l) (g : Tups H bs m) : Tups H (as ++ bs) (l ++ m) := Ats.app h g
theorem Tups.snoc {H : Hp} {as : List Addr} {l : List (Nat × Nat)} {a : Addr} {k x : Nat} (h : Tups H as l) (e : H a = some (.tup [nI k, nI x])) : Tups H (as ++ [a]) (l ++ [(k, x)]) := Ats.snoc h e
theorem Tups.unsnoc {H : Hp} {as : List Addr} {l : List (Nat × Nat)} {q : Nat × Nat} (h : Tups H as (l ++ [q])) : ∃ bs a, as = bs ++ [a] ∧ Tups H bs l ∧ H a = some (.tup [nI q.1, nI q.2]) := Ats.unsnoc h
abbrev gTwo (K : PySem.W.Frag) (p q : Nat) : TG := gTup K 2 (gCons (gName p) (gCons (gName q) gNil))
theorem two_of {K : PySem.W.Frag} {p q : Nat} {T : Addr} {x y : V} {σ : L2.St} {H : Hp} {Q : L2.St → Hp → Prop} (h : SqT K H T [x, y]) (hQ : Q ((σ.set p (some x)).set q (some y)) H) : gTwo K p q (.ref T) σ H Q :=
  ⟨T, [x, y], rfl, h, rfl, x, [y], rfl, y, [], rfl, rfl, hQ⟩
theorem for_enum {K : PySem.W.Frag} {a : Addr} {xs : List V} {p q : Nat} {tb : TS} {D : Ends} {σ : L2.St} {H : Hp} (Pv : Nat → L2.St → Hp → Prop) (h0 : Pv 0 σ H) (hl : ∀ i σ H, i ≤ xs.length → Pv i σ H → SqL K H a xs)
    (hs : ∀ i x σ H T, xs[i]? = some x → Pv i σ H → H T = none → tb { D with nx := Pv (i + 1), ct := Pv (i + 1), bk := D.nx } ((σ.set p (some (nI i))).set q (some x)) (upd H T (.tup [nI i, x]))) (hd : ∀ σ H, Pv xs.length σ H → D.nx σ H) :
    ∃ W : Nat → Nat → L2.St → Hp → Prop, (∃ m, W 0 m σ H) ∧ ∀ i m σ H, W i m σ H →
      ((Ite K a).stop i H ∧ D.nx σ H) ∨ ((Ite K a).go i H ∧ ∃ N : L2.St → Hp → Prop, (∀ σ' H', N σ' H' → ∃ m', m' < m ∧ W (i + 1) m' σ' H') ∧ ∀ x H', (Ite K a).yld i H x H' → gTwo K p q x σ H' fun σ2 H2 => tb { D with nx := N, ct := N, bk := D.nx } σ2 H2) := by
  refine ⟨fun i m σ H => m = xs.length - i ∧ i ≤ xs.length ∧ Pv i σ H, ⟨xs.length, by simp, Nat.zero_le _, h0⟩, ?_⟩
  rintro i m σ H ⟨rfl, hi, p'⟩
  have sq := hl i σ H hi p'
  by_cases hlt : i < xs.length
  · refine .inr ⟨⟨xs, xs[i], sq, List.getElem?_eq_getElem hlt⟩, Pv (i + 1), fun σ' H' p' => ⟨xs.length - (i + 1), by omega, rfl, hlt, p'⟩, fun v H' y => ?_⟩
    obtain ⟨T, x, rfl, hT, rfl, hx⟩ := y
    exact two_of (SqT.of upd_same) (hs i x σ H T (hx xs sq) p' hT)
  · have e : i = xs.length := by omega
    subst e
    exact .inl ⟨⟨xs, sq, Nat.le_refl _⟩, hd σ H p'⟩
theorem for_pairs {K : PySem.W.Frag} {a : Addr} {as : List Addr} {l : List (Nat × Nat)} {p q : Nat} {tb : TS} {D : Ends} {σ : L2.St} {H : Hp} (Pv : Nat → L2.St → Hp → Prop) (h0 : Pv 0 σ H)
    (hl : ∀ i σ H, i ≤ l.length → Pv i σ H → SqL K H a (as.map V.ref) ∧ Tups H as l) (hlen : as.length = l.length)
    (hs : ∀ i k x σ H, l[i]? = some (k, x) → Pv i σ H → tb { D with nx := Pv (i + 1), ct := Pv (i + 1), bk := D.nx } ((σ.set p (some (nI k))).set q (some (nI x))) H) (hd : ∀ σ H, Pv l.length σ H → D.nx σ H) :
    ∃ W : Nat → Nat → L2.St → Hp → Prop, (∃ m, W 0 m σ H) ∧ ∀ i m σ H, W i m σ H →
      ((Itl K a).stop i H ∧ D.nx σ H) ∨ ((Itl K a).go i H ∧ ∃ N : L2.St → Hp → Prop, (∀ σ' H', N σ' H' → ∃ m', m' < m ∧ W (i + 1) m' σ' H') ∧ ∀ x H', (Itl K a).yld i H x H' → gTwo K p q x σ H' fun σ2 H2 => tb { D with nx := N, ct := N, bk := D.nx } σ2 H2) := by
  have e : (as.map V.ref).length = l.length := by rw [List.length_map, hlen]
  refine for_list (K := K) (a := a) (xs := as.map V.ref) Pv h0 (fun i σ H hi pv => (hl i σ H (by omega) pv).1) (fun i y σ H hy pv => ?_) (fun σ H pv => hd σ H (e ▸ pv))
  obtain ⟨b, hb, rfl⟩ := of_refs hy
  have hi : i < as.length := (List.getElem?_eq_some_iff.mp hb).1
  obtain ⟨_, tu⟩ := hl i σ H (by omega) pv
  obtain ⟨⟨k, x⟩, h1, h2⟩ := tu.get hb
  exact two_of (SqT.of h2) (hs i k x σ H h1 pv)
theorem lc_enum {K : PySem.W.Frag} {a : Addr} {xs : List V} {p q : Nat} {tt : TT} {te : TE} {vs : List Nat} {σ : L2.St} {H1 : Hp} {D : Addr} {Qd : Hp → Prop} (Pv : Nat → Hp → Prop) (h0 : Pv 0 (upd H1 D (.lst []))) (hl : ∀ i H, i ≤ xs.length → Pv i H → SqL K H a xs)
    (hw : ∀ i x, wipe (((wipe σ vs).set p (some (nI i))).set q (some x)) vs = wipe σ vs)
    (hs : ∀ i x H T, xs[i]? = some x → Pv i H → H T = none → tt (((wipe σ vs).set p (some (nI i))).set q (some x)) (upd H T (.tup [nI i, x])) fun b H3 =>
      if b = true then te (((wipe σ vs).set p (some (nI i))).set q (some x)) H3 fun y H4 => ∃ acc, H4 D = some (.lst acc) ∧ acc.length < sizeLine ∧ Pv (i + 1) (upd H4 D (.lst (acc ++ [y]))) else Pv (i + 1) H3) (hd : ∀ H, Pv xs.length H → Qd H) :
    ∃ W : Nat → Nat → Hp → Prop, (∃ m, W 0 m (upd H1 D (.lst []))) ∧ ∀ i m H, W i m H →
      ((Ite K a).stop i H ∧ Qd H) ∨ ((Ite K a).go i H ∧ ∃ Nx : Hp → Prop, (∀ H', Nx H' → ∃ m', m' < m ∧ W (i + 1) m' H') ∧ ∀ x H', (Ite K a).yld i H x H' → gTwo K p q x (wipe σ vs) H' fun σ2 H2 => wipe σ2 vs = wipe σ vs ∧ tt σ2 H2 fun b H3 =>
        if b = true then te σ2 H3 fun y H4 => ∃ acc, H4 D = some (.lst acc) ∧ acc.length < sizeLine ∧ Nx (upd H4 D (.lst (acc ++ [y]))) else Nx H3) := by
  refine ⟨fun i m H => m = xs.length - i ∧ i ≤ xs.length ∧ Pv i H, ⟨xs.length, by simp, Nat.zero_le _, h0⟩, ?_⟩
  rintro i m H ⟨rfl, hi, p'⟩
  have sq := hl i H hi p'
  by_cases hlt : i < xs.length
  · refine .inr ⟨⟨xs, xs[i], sq, List.getElem?_eq_getElem hlt⟩, Pv (i + 1), fun H' p' => ⟨xs.length - (i + 1), by omega, rfl, hlt, p'⟩, fun v H' y => ?_⟩
    obtain ⟨T, x, rfl, hT, rfl, hx⟩ := y
    exact two_of (SqT.of upd_same) ⟨hw i x, hs i x H T (hx xs sq) p' hT⟩
  · have e : i = xs.length := by omega
    subst e
    exact .inl ⟨⟨xs, sq, Nat.le_refl _⟩, hd H p'⟩
theorem lc_rangeC {lo c : Int} {n : Nat} {g : TG} {tt : TT} {te : TE} {vs : List Nat} {σ : L2.St} {H1 : Hp} {D : Addr} {Qd : Hp → Prop} (Pv : Nat → Hp → Prop) (h0 : Pv 0 (upd H1 D (.lst [])))
    (hs : ∀ i H, i < n → Pv i H → g (.int (lo + (i : Nat) * c)) (wipe σ vs) H fun σ2 H2 => wipe σ2 vs = wipe σ vs ∧ tt σ2 H2 fun b H3 =>
      if b = true then te σ2 H3 fun y H4 => ∃ acc, H4 D = some (.lst acc) ∧ acc.length < sizeLine ∧ Pv (i + 1) (upd H4 D (.lst (acc ++ [y]))) else Pv (i + 1) H3) (hd : ∀ H, Pv n H → Qd H) :
    ∃ W : Nat → Nat → Hp → Prop, (∃ m, W 0 m (upd H1 D (.lst []))) ∧ ∀ i m H, W i m H →
      ((Itc lo c n).stop i H ∧ Qd H) ∨ ((Itc lo c n).go i H ∧ ∃ Nx : Hp → Prop, (∀ H', Nx H' → ∃ m', m' < m ∧ W (i + 1) m' H') ∧ ∀ x H', (Itc lo c n).yld i H x H' → g x (wipe σ vs) H' fun σ2 H2 => wipe σ2 vs = wipe σ vs ∧ tt σ2 H2 fun b H3 =>
        if b = true then te σ2 H3 fun y H4 => ∃ acc, H4 D = some (.lst acc) ∧ acc.length < sizeLine ∧ Nx (upd H4 D (.lst (acc ++ [y]))) else Nx H3) := by
  refine ⟨fun i m H => m = n - i ∧ i ≤ n ∧ Pv i H, ⟨n, by simp, Nat.zero_le _, h0⟩, ?_⟩
  rintro i m H ⟨rfl, hi, p⟩
  by_cases hlt : i < n
  · refine .inr ⟨hlt, Pv (i + 1), fun H' p' => ⟨n - (i + 1), by omega, rfl, hlt, p'⟩, fun x H' y => ?_⟩
    obtain ⟨e, y⟩ := y
    subst e y
    exact hs i _ hlt p
  · have e : i = n := by omega
    subst e
    exact .inl ⟨Nat.le_refl _, hd H p⟩
theorem iteB {b : Bool} {A B : Prop} (h1 : b = true → A) (h2 : b = false → B) : if b = true then A else B := by
  cases b with
  | true => rw [if_pos rfl]; exact h1 rfl
  | false => rw [if_neg Bool.false_ne_true]; exact h2 rfl
end Py
namespace Py
open PySem PySem.Spec PyProof.Rows L2
def top (i : Nat) : Stmt := PySem.Challenge.pw_strikesquare_s01_answers.main.body.getD i (.Pass ⟨0, 0, 0, 0⟩)
abbrev sSingle : Stmt := top 1
abbrev sLeast : Stmt := top 2
abbrev sGreatest : Stmt := top 3
abbrev sMembers : Stmt := top 4
abbrev sSets : Stmt := top 5
def spSingle : Sp := fun vs H Q _ => ∃ b : Nat, vs = [nI b] ∧ Q (.bl (Sq.single b)) H
def spLeast : Sp := fun vs H Q _ => ∃ b : Nat, vs = [nI b] ∧ b ≠ 0 ∧ Q (nI (Sq.low b)) H
def spGreatest : Sp := fun vs H Q _ => ∃ b : Nat, vs = [nI b] ∧ b ≠ 0 ∧ Q (nI b.log2) H
def spMembers : Sp := fun vs H Q _ => ∃ b : Nat, vs = [nI b] ∧ b < 2 ^ 100 ∧ ∀ p, H p = none → Q (.ref p) (upd H p (.lst (nIs (Sq.bitsOf b))))
def spSets : Sp := fun vs H Q _ => ∃ m n : Nat, vs = [nI m, nI n] ∧ n ≤ 9 ∧ ∀ p H', H p = none → Same H H' → H' p = some (.lst (nIs (Sq.setsUp m (2 ^ n)))) → Q (.ref p) H'
section
variable {P : Program} {w : World} {K : PySem.W.Frag} {mg : Str → Option Value} {base : Heap}
theorem scSingle : FnScope ["bits"] ["bits"] (defScope sSingle) := ⟨rfl, rfl, rfl, by decide +kernel, rfl, by decide +kernel, by decide +kernel⟩
theorem ok_single {f : Addr} {fd : FuncData} (F : Fun K "is_single" "is_single" sSingle f fd) : FnOk P w K mg base CX0 1 f fd ["bits"] spSingle := by
  refine F.ok scSingle (fun vs H Q E h => ?_) (fun cdv A outer s H vs Q E hr h => ?_)
  · obtain ⟨b, rfl, _⟩ := h; rfl
  · obtain ⟨b, rfl, k⟩ := h
    -- return bits != 0 and bits & bits - 1 == 0
    refine ⟨_, pss_one (ps_ret (pe_and (pe_cmpR op_ne (pv 0) pe_int (nomark _)) (pe_one (pe_cmpR op_eq (pe_op op_and (pv 0) (pe_op op_sub (pv 0) pe_int)) pe_int (nomark _))))), ?_⟩
    refine ⟨_, rfl, rfl, _, rfl, iteB (fun c => ⟨_, rfl, _, rfl, _, _, rfl, rfl, _, _, rfl, rfl, rfl, ?_⟩) (fun c => ?_)⟩
    · have hb : b ≠ 0 := fun e => by subst e; simp at c
      have e : decide (V.int (Builtin.bitAnd (b : Int) ((b : Int) - 1)) = V.int 0) = Sq.single b := by
        rw [bPred]
        unfold Sq.single
        rw [Bool.eq_iff_iff]
        simp [hb]
      show Q (.bl (decide (V.int (Builtin.bitAnd (b : Int) ((b : Int) - 1)) = V.int 0))) H
      rw [e]; exact k
    · have hb : b = 0 := by
        simp at c
        omega
      subst hb
      exact k
theorem scLeast : FnScope ["bits"] ["bits"] (defScope sLeast) := ⟨rfl, rfl, rfl, by decide +kernel, rfl, by decide +kernel, by decide +kernel⟩
theorem ok_least {f : Addr} {fd : FuncData} (F : Fun K "least" "least" sLeast f fd) : FnOk P w K mg base CX0 1 f fd ["bits"] spLeast := by
  refine F.ok scLeast (fun vs H Q E h => ?_) (fun cdv A outer s H vs Q E hr h => ?_)
  · obtain ⟨b, rfl, _⟩ := h; rfl
  · obtain ⟨b, rfl, hb, k⟩ := h
    -- return (bits & -bits).bit_length() - 1
    refine ⟨_, pss_one (ps_ret (pe_op op_sub (pe_bits (pe_op op_and (pv 0) (pe_un un_neg (pv 0)))) pe_int)), ?_⟩
    refine ⟨_, rfl, _, rfl, _, rfl, _, _, rfl, rfl, rfl, _, rfl, rfl, _, _, rfl, rfl, ?_⟩
    have e : ((Builtin.Int.intBits (Builtin.bitAnd (b : Int) (-(b : Int))) : Nat) : Int) - 1 = (Sq.low b : Int) := by
      rw [bNeg hb, bits_of (Nat.ne_of_gt (Nat.two_pow_pos _)), log2_pow]
    show Q (.int (((Builtin.Int.intBits (Builtin.bitAnd (b : Int) (-(b : Int))) : Nat) : Int) - 1)) H
    rw [e]; exact k
theorem scGreatest : FnScope ["bits"] ["bits"] (defScope sGreatest) := ⟨rfl, rfl, rfl, by decide +kernel, rfl, by decide +kernel, by decide +kernel⟩
theorem ok_greatest {f : Addr} {fd : FuncData} (F : Fun K "greatest" "greatest" sGreatest f fd) : FnOk P w K mg base CX0 1 f fd ["bits"] spGreatest := by
  refine F.ok scGreatest (fun vs H Q E h => ?_) (fun cdv A outer s H vs Q E hr h => ?_)
  · obtain ⟨b, rfl, _⟩ := h; rfl
  · obtain ⟨b, rfl, hb, k⟩ := h
    refine ⟨_, pss_one (ps_ret (pe_op op_sub (pe_bits (pv 0)) pe_int)), ?_⟩
    refine ⟨_, rfl, rfl, _, rfl, rfl, _, _, rfl, rfl, ?_⟩
    show Q (.int (((Builtin.Int.intBits (b : Int) : Nat) : Int) - 1)) H
    rw [bits_of hb]; exact k
theorem bits_len {b n : Nat} (h : b < 2 ^ n) : (Sq.bitsOf b).length ≤ n := by
  have e : Sq.bitsOf b = (List.range n).filter fun i => b.testBit i := Sq.bitsOf_eq (Sq.srt_filter _ (Sq.srt_range n)) fun i => by
    rw [List.mem_filter, List.mem_range]
    exact ⟨fun q => q.2, fun q => ⟨Sq.bit_lt h q, q⟩⟩
  rw [e]
  refine Nat.le_trans (List.length_filter_le _ _) (by simp)
theorem scMembers : FnScope ["bits", "found", "rest"] ["bits"] (defScope sMembers) := ⟨rfl, rfl, rfl, by decide +kernel, rfl, by decide +kernel, by decide +kernel⟩
theorem ok_members {f : Addr} {fd : FuncData} (F : Fun K "members" "members" sMembers f fd) (GL : GF P w K mg base 1 "least" ["bits"] spLeast) : FnOk P w K mg base CX0 2 f fd ["bits"] spMembers := by
  refine F.ok scMembers (fun vs H Q E h => ?_) (fun cdv A outer s H vs Q E hr h => ?_)
  · obtain ⟨b, rfl, _⟩ := h; rfl
  · obtain ⟨b, rfl, hb, k⟩ := h
    refine ⟨_, pss_cons (ps_set (i := 1) scMembers.nd rfl (Or.inl rfl) (pe_lst pa_nil)) (pss_cons (ps_set (i := 2) scMembers.nd rfl (Or.inl rfl) (pv 0))
      (pss_cons (ps_while PassesOwn.never (pt_truth (pv 2) (fun _ => rfl)) (pss_cons (ps_expr (pe_bm PySem.F.plainAttrs_list PySem.F.slot_list_append PySem.F.type_list_append mt_append (pv 1) (pa_cons (pe_callG GL hr rfl (pa_cons (pv 2) pa_nil)) pa_nil)))
        (pss_one (ps_set (i := 2) scMembers.nd rfl (Or.inl rfl) (pe_op op_and (pv 2) (pe_op op_sub (pv 2) pe_int)))))) (pss_one (ps_ret (pv 1))))), ?_⟩
    refine ⟨Nat.zero_le _, fun p hp => ?_⟩
    refine ⟨_, rfl, ?_⟩
    refine ⟨fun m σ H' => ∃ l, σ = [some (nI b), some (.ref p), some (nI m)] ∧ H' = upd H p (.lst (nIs l)) ∧ l ++ Sq.bitsOf m = Sq.bitsOf b, ⟨b, [], rfl, rfl, rfl⟩, ?_⟩
    rintro m σ H' ⟨l, rfl, rfl, e⟩
    refine ⟨_, rfl, _, rfl, iteB (fun c => ?_) (fun c => ?_)⟩
    · have hm : m ≠ 0 := fun z => by subst z; simp at c
      refine ⟨_, fun σ' H' q => q, ?_⟩
      refine ⟨_, rfl, .inl ⟨rfl, _, SqL.of upd_same⟩, _, rfl, m, rfl, hm, p, _, _, rfl, rfl, upd_same, ?_, ?_⟩
      · have h1 := bits_len hb
        have h2 : l.length ≤ (Sq.bitsOf b).length := by rw [← e]; simp
        rw [ints_len]
        exact Nat.lt_of_le_of_lt (Nat.le_trans h2 h1) (by decide)
      · refine ⟨_, rfl, _, rfl, _, _, rfl, rfl, _, _, rfl, rfl, m &&& (m - 1), ?_, l ++ [Sq.low m], ?_, ?_, ?_⟩
        · have := Sq.low_pow hm
          have := Nat.two_pow_pos (Sq.low m)
          omega
        · show [some (nI b), some (V.ref p), some (V.int (Builtin.bitAnd (m : Int) ((m : Int) - 1)))] = _
          rw [bPred]
        · rw [upd_upd, ints_snoc]
        · rw [← e, Sq.bitsOf_cons hm, List.append_assoc]; rfl
    · have hm : m = 0 := by
        simp at c
        omega
      subst hm
      rw [Sq.bitsOf_zero, List.append_nil] at e
      subst e
      exact ⟨_, rfl, k p hp⟩
theorem scSets : FnScope ["m", "n", "bits"] ["m", "n"] (defScope sSets) := ⟨rfl, rfl, rfl, by decide +kernel, rfl, by decide +kernel, by decide +kernel⟩
theorem ok_sets {f : Addr} {fd : FuncData} (F : Fun K "sets_of" "sets_of" sSets f fd) (GM : GF P w K mg base 2 "members" ["bits"] spMembers) (nr : mg "range" = none) (nl : mg "len" = none) : FnOk P w K mg base CX0 3 f fd ["m", "n"] spSets := by
  refine F.ok scSets (fun vs H Q E h => ?_) (fun cdv A outer s H vs Q E hr h => ?_)
  · obtain ⟨m, n, rfl, _⟩ := h; rfl
  · obtain ⟨m, n, rfl, hn, k⟩ := h
    -- return [bits for bits in range(0, 1 << n + 1, 2) if len(members(bits)) == m]
    refine ⟨_, pss_one (ps_ret (pe_lc (own := [("bits", 2)]) rfl scSets.nd (pi_range3 rfl nr (pa_cons pe_int (pa_cons (pe_op op_shl pe_int (pe_op op_add (pv 1) pe_int)) (pa_cons pe_int pa_nil))))
      (blkOk_by (N := ["m", "n", "bits"]) (sc := defScope sSets) (by decide +kernel)) (fun _ _ _ _ _ => pg_name (i := 2) scSets.nd rfl (Or.inl rfl)) (fun _ _ _ _ _ => pts_one (pt_cmpR op_eq (pe_callB (call_lenB K) (by rfl) nl PySem.boot_len (pa_cons (pe_callG GM hr rfl (pa_cons (pv 2) pa_nil)) pa_nil)) (pv 0) (nomark _))) (fun _ _ _ _ _ => pv 2))), ?_⟩
    have e2 : (1 : Int) * 2 ^ ((n : Int) + 1).toNat = ((2 * 2 ^ n : Nat) : Int) := by
      rw [show ((n : Int) + 1).toNat = n + 1 by omega, Int.pow_succ]; push_cast; omega
    refine ⟨_, rfl, _, _, rfl, rfl, _, _, rfl, rfl, ⟨by omega, by omega, by decide⟩, 0, _, 2, 2 ^ n, rfl, ?_, fun D hD => ?_⟩
    · show RgC 0 ((1 : Int) * 2 ^ ((n : Int) + 1).toNat) 2 (2 ^ n)
      rw [e2]
      have hc : n = 0 ∨ n = 1 ∨ n = 2 ∨ n = 3 ∨ n = 4 ∨ n = 5 ∨ n = 6 ∨ n = 7 ∨ n = 8 ∨ n = 9 := by omega
      rcases hc with rfl | rfl | rfl | rfl | rfl | rfl | rfl | rfl | rfl | rfl <;> exact ⟨by decide, by decide, by decide +kernel, by decide +kernel⟩
    · refine lc_rangeC (fun i H' => Same H H' ∧ H' D = some (.lst (nIs (Sq.setsUp m i)))) ⟨same_new hD, upd_same⟩ ?_ ?_
      · rintro i H' hi ⟨sm, hD'⟩
        have hp9 : 2 ^ n ≤ 2 ^ 9 := Nat.pow_le_pow_right (by decide) hn
        have hlt : 2 * i < 2 ^ 100 := Nat.lt_of_lt_of_le (show 2 * i < 1024 by omega) (by decide)
        have ei : V.int (0 + (i : Int) * 2) = nI (2 * i) := by congr 1; push_cast; omega
        rw [ei]
        refine ⟨rfl, _, rfl, 2 * i, rfl, hlt, fun p hp => ⟨p, _, rfl, .inl (SqL.of upd_same), _, rfl, rfl, _, rfl, iteB (fun cc => ?_) (fun cc => ?_)⟩⟩
        · have hlen : (Sq.bitsOf (2 * i)).length = m := by
            have := of_decide_eq_true cc
            rw [ints_len] at this
            injection this with q
            omega
          have hDp : D ≠ p := ne_of_none hD' hp
          refine ⟨_, rfl, _, by rw [upd_ne hDp]; exact hD', ?_, ?_, ?_⟩
          · rw [ints_len]
            have := Sq.setsUp_len m i
            exact small1000 (by omega)
          · intro q o e
            rw [upd_ne (ne_of_none e hD), upd_ne (ne_of_none (sm _ _ e) hp)]
            exact sm _ _ e
          · rw [upd_same, Sq.setsUp_succ, if_pos hlen, ints_snoc]
        · have hlen : ¬ (Sq.bitsOf (2 * i)).length = m := fun z => by
            have := of_decide_eq_false cc
            rw [ints_len, z] at this
            exact this rfl
          refine ⟨fun q o e => ?_, ?_⟩
          · rw [upd_ne (ne_of_none (sm _ _ e) hp)]; exact sm _ _ e
          · rw [upd_ne (ne_of_none hD' hp), Sq.setsUp_succ, if_neg hlen]; exact hD'
      · rintro H' ⟨sm, hD'⟩
        exact k D H' hD sm hD'
end
end Py
namespace Py
open PySem PySem.Spec PyProof.Rows L2
open Kgi1 (cells)
abbrev Fm := Kgi1.Frame
open Kgi2 (at_ has unit)
open Sq (Wf Rt sub nU mask masks plT)
structure Cs where
  B : Addr
  F : Addr
  T : Addr
  P : Addr
  S : Addr
  C : Addr
structure Txt (K : PySem.W.Frag) (c : Cs) : Prop where
  clB : Cls K c.B
  bCells : NoAttr K c.B "cells"
  bPlaces : NoAttr K c.B "places"
  clF : Cls K c.F
  fN : NoAttr K c.F "n"
  fGiven : NoAttr K c.F "given"
  fUnits : NoAttr K c.F "units"
  fSigns : NoAttr K c.F "signs"
  fPairs : NoAttr K c.F "pairs"
  fTriples : NoAttr K c.F "triples"
  fUnitsOf : NoAttr K c.F "units_of"
  fPeers : NoAttr K c.F "peers"
  fSignsAt : NoAttr K c.F "signs_at"
  clT : Cls K c.T
  tFrame : NoAttr K c.T "frame"
  tBoard : NoAttr K c.T "board"
  tNews : NoAttr K c.T "news"
  clP : Cls K c.P
  pKind : NoAttr K c.P "kind"
  pPlace : NoAttr K c.P "place"
  pOther : NoAttr K c.P "other"
  pNumbers : NoAttr K c.P "numbers"
  pStrikes : NoAttr K c.P "strikes"
  clS : Cls K c.S
  sFrame : NoAttr K c.S "frame"
  sBoard : NoAttr K c.S "board"
  sTrials : NoAttr K c.S "trials"
  sQuiet : NoAttr K c.S "quiet"
  clC : Cls K c.C
  cNumbers : NoAttr K c.C "numbers"
  cAt : NoAttr K c.C "at"
def fsB (cl pl : Addr) : List (Str × V) := [("cells", .ref cl), ("places", .ref pl)]
theorem fsB_cells (cl pl : Addr) : (fsB cl pl).lookup ("cells" : Str) = some (.ref cl) := by rfl
theorem fsB_places (cl pl : Addr) : (fsB cl pl).lookup ("places" : Str) = some (.ref pl) := by rfl
theorem fsB_twin (cl pl : Addr) : (fsB cl pl).lookup ("twin" : Str) = none := by rfl
theorem fsB_strike (cl pl : Addr) : (fsB cl pl).lookup ("strike" : Str) = none := by rfl
abbrev sBoard0 : Stmt := inClass (top 7) 0
abbrev sTwin : Stmt := inClass (top 7) 1
abbrev sStrike : Stmt := inClass (top 7) 2
abbrev sFirst : Stmt := top 8
abbrev sBroken : Stmt := top 9
abbrev sStrikesOf : Stmt := top 10
abbrev sBySign : Stmt := top 11
structure Bd where
  p : Addr
  dx : Addr
  cl : Addr
  pl : Addr
structure BdAt (c : Cs) (H : Hp) (B : Bd) (f : Fm) (s : Kgi2.St) : Prop where
  ob : H B.p = some (.ins c.B B.dx (fsB B.cl B.pl))
  cl : H B.cl = some (.lst (nIs s))
  pl : H B.pl = some (.lst (nIs (plT f s)))
  ne : B.cl ≠ B.pl
theorem BdAt.kp {c : Cs} {M : List Addr} {H H' : Hp} {B : Bd} {f : Fm} {s : Kgi2.St} (b : BdAt c H B f s) (k : Kp M H H') (h1 : B.cl ∉ M) (h2 : B.pl ∉ M) : BdAt c H' B f s :=
  ⟨k.oth _ _ b.ob (fun _ e => by cases e), k.lst _ _ b.cl h1, k.lst _ _ b.pl h2, b.ne⟩
theorem BdAt.same {c : Cs} {H H' : Hp} {B : Bd} {f : Fm} {s : Kgi2.St} (b : BdAt c H B f s) (k : Same H H') : BdAt c H' B f s := b.kp (M := []) (Kp.same k) (by simp) (by simp)
def spBoard0 (c : Cs) : Sp := fun vs H Q _ => ∃ p dx cl pl : Addr, vs = [.ref p, .ref cl, .ref pl] ∧ H p = some (.ins c.B dx []) ∧ Q .non (upd H p (.ins c.B dx (fsB cl pl)))
def spTwin (c : Cs) : Sp := fun vs H Q _ => ∃ (B : Bd) (f : Fm) (s : Kgi2.St), vs = [.ref B.p] ∧ BdAt c H B f s ∧
  ∀ (B' : Bd) (H' : Hp), Same H H' → BdAt c H' B' f s → H B'.cl = none → H B'.pl = none → Q (.ref B'.p) H'
def spStrike (c : Cs) : Sp := fun vs H Q _ => ∃ (B : Bd) (f : Fm) (s : Kgi2.St) (k : Nat) (z : Int), vs = [.ref B.p, nI k, .int z] ∧ BdAt c H B f s ∧ Rt f ∧ Wf f s ∧ k < cells f ∧
  ∀ H', Kp [B.cl, B.pl] H H' → BdAt c H' B f (s.set k (sub (at_ s k) (andZ (at_ s k) z))) → Q (nI (andZ (at_ s k) z)) H'
section
variable {P : Program} {w : World} {K : PySem.W.Frag} {mg : Str → Option Value} {base : Heap} {c : Cs}
theorem scBoard0 : FnScope ["self", "cells", "places"] ["self", "cells", "places"] (defScope sBoard0) := ⟨rfl, rfl, rfl, by decide +kernel, rfl, by decide +kernel, by decide +kernel⟩
theorem ok_board0 {f : Addr} {fd : FuncData} (F : Fun K "__init__" "Board.__init__" sBoard0 f fd) (T : Txt K c) : FnOk P w K mg base CX0 1 f fd ["self", "cells", "places"] (spBoard0 c) := by
  refine F.ok scBoard0 (fun vs H Q E h => ?_) (fun cdv A outer s H vs Q E hr h => ?_)
  · obtain ⟨p, dx, cl, pl, rfl, _⟩ := h; rfl
  · obtain ⟨p, dx, cl, pl, rfl, hp, k⟩ := h
    refine ⟨_, pss_cons (ps_fld (pv 0) (pv 1) rfl) (pss_one (ps_fld (pv 0) (pv 2) rfl)), ?_⟩
    refine ⟨_, rfl, _, rfl, p, c.B, dx, _, rfl, hp, T.clB, T.bCells, (by show 0 < 1000; decide), _, rfl, _, rfl, p, c.B, dx, _, rfl, upd_same, T.clB, T.bPlaces, (by show 1 < 1000; decide), ?_⟩
    rw [upd_upd]
    exact k
theorem scTwin : FnScope ["self"] ["self"] (defScope sTwin) := ⟨rfl, rfl, rfl, by decide +kernel, rfl, by decide +kernel, by decide +kernel⟩
theorem ok_twin {f : Addr} {fd : FuncData} (F : Fun K "twin" "Board.twin" sTwin f fd) (T : Txt K c) (GB : CF P w K mg base 1 c.B "Board" ["self", "cells", "places"] (spBoard0 c)) (nl : mg "list" = none) :
    FnOk P w K mg base CX0 3 f fd ["self"] (spTwin c) := by
  refine F.ok scTwin (fun vs H Q E h => ?_) (fun cdv A outer s H vs Q E hr h => ?_)
  · obtain ⟨B, fr, st, rfl, _⟩ := h; rfl
  · obtain ⟨B, fr, st, rfl, b, k⟩ := h
    -- return Board(list(self.cells), list(self.places))
    refine ⟨_, pss_one (ps_ret (pe_makeG GB hr rfl (pa_cons (pe_callTy call_list_of rfl nl PyProof.Rows.boot_list (pa_cons (pe_fld (pv 0) rfl) pa_nil)) (pa_cons (pe_callTy call_list_of rfl nl PyProof.Rows.boot_list (pa_cons (pe_fld (pv 0) rfl) pa_nil)) pa_nil)))), ?_⟩
    refine ⟨_, rfl, _, c.B, _, _, _, rfl, b.ob, T.clB, T.bCells, fsB_cells _ _, B.cl, _, rfl, .inl (SqL.of b.cl), fun l1 h1 => ?_⟩
    have n1 : ∀ {q o}, H q = some o → q ≠ l1 := fun e => ne_of_none e h1
    refine ⟨_, rfl, _, c.B, _, _, _, rfl, (by rw [upd_ne (n1 b.ob)]; exact b.ob), T.clB, T.bPlaces, fsB_places _ _, B.pl, _, rfl, .inl (SqL.of (xs := nIs (plT fr st)) (by rw [upd_ne (n1 b.pl)]; exact b.pl)), fun l2 h2 => ?_⟩
    intro x dx nx ndx ne
    refine ⟨x, dx, l1, l2, rfl, upd_same, ?_⟩
    refine ⟨rfl, ?_⟩
    have s1 := same_new (o := .lst (nIs st)) h1
    have s2 := s1.trans (same_new (o := .lst (nIs (plT fr st))) h2)
    have l12 : l1 ≠ l2 := ne_of_none (upd_same (H := H) (a := l1) (o := .lst (nIs st))) h2
    have e1 : (upd (upd H l1 (.lst (nIs st))) l2 (.lst (nIs (plT fr st)))) l1 = some (.lst (nIs st)) := by rw [upd_ne l12]; exact upd_same
    have e2 : (upd (upd H l1 (.lst (nIs st))) l2 (.lst (nIs (plT fr st)))) l2 = some (.lst (nIs (plT fr st))) := upd_same
    refine k ⟨x, dx, l1, l2⟩ _ (fun b o e => ?_) ⟨upd_same, ?_, ?_, l12⟩ h1 (s1.free h2)
    · have e' := s2 b o e
      rw [upd_upd, upd_ne (ne_of_none e' nx), upd_ne (ne_of_none e' ndx)]
      exact e'
    · rw [upd_upd, upd_ne (ne_of_none e1 nx), upd_ne (ne_of_none e1 ndx)]; exact e1
    · rw [upd_upd, upd_ne (ne_of_none e2 nx), upd_ne (ne_of_none e2 ndx)]; exact e2
theorem at_get {f : Fm} {s : Kgi2.St} (wf : Wf f s) {k : Nat} (hk : k < cells f) : s[k]? = some (at_ s k) := by
  have hk' : k < s.length := by rw [wf.len]; exact hk
  rw [List.getElem?_eq_getElem hk', Sq.at_lt hk']
theorem cell_lt {f : Fm} (R : Rt f) {s : Kgi2.St} (wf : Wf f s) {k h : Nat} (hh : ∀ v, h.testBit v = true → (at_ s k).testBit v = true) : h < 2 ^ 100 :=
  Nat.lt_of_lt_of_le (Sq.bits_1024 R fun v hv => (wf.bit k v (hh v hv)).2) (by decide)
theorem scStrike : FnScope ["self", "k", "numbers", "hit", "v"] ["self", "k", "numbers"] (defScope sStrike) := ⟨rfl, rfl, rfl, by decide +kernel, rfl, by decide +kernel, by decide +kernel⟩
theorem ok_strike {f : Addr} {fd : FuncData} (F : Fun K "strike" "Board.strike" sStrike f fd) (T : Txt K c) (GM : GF P w K mg base 2 "members" ["bits"] spMembers) : FnOk P w K mg base CX0 3 f fd ["self", "k", "numbers"] (spStrike c) := by
  refine F.ok scStrike (fun vs H Q E h => ?_) (fun cdv A outer s H vs Q E hr h => ?_)
  · obtain ⟨B, fr, st, k, z, rfl, _⟩ := h; rfl
  · obtain ⟨B, fr, st, k, z, rfl, b, R, wf, hk, q⟩ := h
    have hk' : k < st.length := by rw [wf.len]; exact hk
    have hh : ∀ v, (andZ (at_ st k) z).testBit v = true → (at_ st k).testBit v = true := fun v => andZ_bit
    generalize hd : andZ (at_ st k) z = h at *
    refine ⟨_, pss_cons (ps_set (i := 3) scStrike.nd rfl (Or.inl rfl) (pe_op on_andZ (pe_ix ix_list (pe_fld (pv 0) rfl) (pv 1) (fun _ _ => rfl)) (pv 2)))
      (pss_cons (ps_if (pt_nat (pv 3) (fun _ => rfl)) (pss_cons (ps_augS (pe_fld (pv 0) rfl) (pv 1) get_list (pv 3) in_xor set_list)
        (pss_one (ps_for PassesOwn.never rfl (pi_list (pe_callG GM hr rfl (pa_cons (pv 3) pa_nil))) (pg_name (i := 4) scStrike.nd rfl (Or.inl rfl))
          (pss_one (ps_augS (pe_fld (pv 0) rfl) (pv 4) get_list (pe_op on_shl (pe_nat 1) (pv 1)) in_xor set_list))))) pss_nil) (pss_one (ps_ret (pv 3)))), ?_⟩
    refine ⟨_, rfl, _, c.B, _, _, _, rfl, b.ob, T.clB, T.bCells, fsB_cells _ _, _, rfl, B.cl, _, _, _, rfl, rfl, SqL.of b.cl, ints_at (at_get wf hk), _, rfl, _, _, rfl, rfl, ?_⟩
    rw [hd]
    refine ⟨_, rfl, h, rfl, iteB (fun cc => ?_) (fun cc => ?_)⟩
    · -- self.cells[k] ^= hit
      refine ⟨_, rfl, _, c.B, _, _, _, rfl, b.ob, T.clB, T.bCells, fsB_cells _ _, _, rfl, B.cl, _, _, _, rfl, rfl, SqL.of b.cl, ints_at (at_get wf hk), _, rfl, _, _, rfl, rfl, B.cl, _, _, k, rfl, rfl, b.cl, ixN_nat (by rw [ints_len]; exact hk'), ?_⟩
      rw [xor_hit hh, ints_set]
      -- for v in members(hit)
      refine ⟨_, rfl, h, rfl, cell_lt R wf hh, fun p hp => ⟨p, rfl, ⟨_, SqL.of upd_same⟩, ?_⟩⟩
      have ecl : ∀ {o}, H B.cl = some o → True := fun _ => trivial
      have hcp : B.cl ≠ p := fun e => by rw [← e, upd_same] at hp; cases hp
      have hp0 : H p = none := by rw [upd_ne (Ne.symm hcp)] at hp; exact hp
      have hpp : B.pl ≠ p := ne_of_none b.pl hp0
      have hop : B.p ≠ p := ne_of_none b.ob hp0
      have hoc : B.p ≠ B.cl := ne_of b.ob b.cl (by intro e; cases e)
      have hopl : B.p ≠ B.pl := ne_of b.ob b.pl (by intro e; cases e)
      refine for_list (K := K) (a := p) (xs := nIs (Sq.bitsOf h)) (fun i σ H' => (∃ v4, σ = [some (.ref B.p), some (nI k), some (.int z), some (nI h), v4]) ∧
        H' = upd (upd (upd H B.cl (.lst (nIs (st.set k (sub (at_ st k) h))))) p (.lst (nIs (Sq.bitsOf h)))) B.pl (.lst (nIs ((List.range (fr.n + 1)).map (Sq.plX st k h i))))) ⟨⟨_, rfl⟩, ?_⟩ ?_ ?_ ?_
      · rw [Sq.plX_zero]
        funext a
        by_cases e : a = B.pl
        · subst e
          rw [upd_same, upd_ne hpp, upd_ne b.ne.symm]; exact b.pl
        · rw [upd_ne e]
      · rintro i σ H' _ ⟨_, rfl⟩
        exact SqL.of (by rw [upd_ne hpp.symm]; exact upd_same)
      · rintro i y σ H' hy ⟨⟨v4, rfl⟩, rfl⟩
        obtain ⟨v, hv, rfl⟩ := of_ints hy
        have hvn := wf.bit k v (hh v (Sq.mem_bitsOf.mp (List.mem_of_getElem? hv)))
        have hvl : v < fr.n + 1 := by omega
        refine ⟨_, rfl, _, c.B, _, _, _, rfl, (by rw [upd_ne hopl, upd_ne hop, upd_ne hoc]; exact b.ob), T.clB, T.bPlaces, fsB_places _ _, _, rfl, B.pl, _, _, _, rfl, rfl, SqL.of upd_same, ints_at (Sq.tab_at hvl),
          _, rfl, _, _, rfl, rfl, ⟨by decide, ?_⟩, _, _, rfl, rfl, B.pl, _, _, v, rfl, rfl, upd_same, ixN_nat (by rw [ints_len]; simpa using hvl), ?_⟩
        · have := R.hi
          have : cells fr ≤ 9 * 9 := Nat.mul_le_mul this this
          omega
        · refine ⟨⟨_, rfl⟩, ?_⟩
          rw [Nat.one_mul, ints_set, Sq.plX_succ hv hvl, upd_upd]
      · rintro σ H' ⟨⟨v4, rfl⟩, rfl⟩
        refine ⟨_, rfl, q _ ?_ ?_⟩
        · refine Kp.trans (Kp.put b.cl (by simp)) (Kp.trans (Kp.new hp) (Kp.put (xs := nIs (plT fr st)) ?_ (by simp)))
          rw [upd_ne hpp, upd_ne b.ne.symm]; exact b.pl
        · have e : (List.range (fr.n + 1)).map (Sq.plX st k h (nIs (Sq.bitsOf h)).length) = plT fr (st.set k (sub (at_ st k) h)) := by
            rw [ints_len]; exact Sq.plX_end hk' hh
          refine ⟨by rw [upd_ne hopl, upd_ne hop, upd_ne hoc]; exact b.ob, by rw [upd_ne b.ne, upd_ne hcp]; exact upd_same, by rw [e]; exact upd_same, b.ne⟩
    · have h0 : h = 0 := by simpa using cc
      subst h0
      refine ⟨_, rfl, q H (Kp.refl _ _) ?_⟩
      rw [Sq.set_same wf]; exact b
end
end Py
namespace Py
open PySem PySem.Spec PyProof.Rows L2
open Kgi1 (cells)
open Kgi2 (at_ has unit)
open Sq (Wf Rt sub nU mask masks plT)
structure FAd where
  p : Addr
  dx : Addr
  g : Addr
  u : Addr
  sg : Addr
  pr : Addr
  tr : Addr
  uo : Addr
  pe : Addr
  sa : Addr
  sgs : List Addr
  uos : List Addr
  sas : List Addr
def fsF (A : FAd) (n : Nat) : List (Str × V) := [("n", nI n), ("given", .ref A.g), ("units", .ref A.u), ("signs", .ref A.sg), ("pairs", .ref A.pr), ("triples", .ref A.tr), ("units_of", .ref A.uo), ("peers", .ref A.pe), ("signs_at", .ref A.sa)]
theorem fsF_n (A : FAd) (n : Nat) : (fsF A n).lookup ("n" : Str) = some (nI n) := by rfl
theorem fsF_given (A : FAd) (n : Nat) : (fsF A n).lookup ("given" : Str) = some (.ref A.g) := by rfl
theorem fsF_units (A : FAd) (n : Nat) : (fsF A n).lookup ("units" : Str) = some (.ref A.u) := by rfl
theorem fsF_signs (A : FAd) (n : Nat) : (fsF A n).lookup ("signs" : Str) = some (.ref A.sg) := by rfl
theorem fsF_pairs (A : FAd) (n : Nat) : (fsF A n).lookup ("pairs" : Str) = some (.ref A.pr) := by rfl
theorem fsF_triples (A : FAd) (n : Nat) : (fsF A n).lookup ("triples" : Str) = some (.ref A.tr) := by rfl
theorem fsF_units_of (A : FAd) (n : Nat) : (fsF A n).lookup ("units_of" : Str) = some (.ref A.uo) := by rfl
theorem fsF_peers (A : FAd) (n : Nat) : (fsF A n).lookup ("peers" : Str) = some (.ref A.pe) := by rfl
theorem fsF_signs_at (A : FAd) (n : Nat) : (fsF A n).lookup ("signs_at" : Str) = some (.ref A.sa) := by rfl
theorem fsF_cells_of (A : FAd) (n : Nat) : (fsF A n).lookup ("cells_of" : Str) = none := by rfl
def sgT (g : Sq.Sgn) : List V := [nI g.k, nI g.d, nI g.a, nI g.b]
abbrev Sgs (S : Hp) : List Addr → List Sq.Sgn → Prop := Ats fun a g => S a = some (.tup (sgT g))
structure FrAt (c : Cs) (S : Hp) (A : FAd) (f : Fm) : Prop where
  ob : S A.p = some (.ins c.F A.dx (fsF A f.n))
  gv : S A.g = some (.lst (nIs f.given))
  un : S A.u = some (.lst (nIs (masks f)))
  sg : S A.sg = some (.lst (A.sgs.map V.ref))
  sgs : Sgs S A.sgs (Sq.signs f)
  pr : S A.pr = some (.lst (nIs (Kgi2.sets f 2)))
  tr : S A.tr = some (.lst (nIs (Kgi2.sets f 3)))
  uo : S A.uo = some (.lst (A.uos.map V.ref))
  uos : Ats (fun a k => S a = some (.lst (nIs (Sq.unitsOf f k)))) A.uos (List.range (cells f))
  pe : S A.pe = some (.lst (nIs ((List.range (cells f)).map (Sq.peers f))))
  sa : S A.sa = some (.lst (A.sas.map V.ref))
  sas : Ats (fun a k => ∃ bs, S a = some (.lst (bs.map V.ref)) ∧ Sgs S bs (Sq.signsAt f k)) A.sas (List.range (cells f))
def spStrikesOf (c : Cs) (K : PySem.W.Frag) : Sp := fun vs H Q _ => ∃ (B : Bd) (f : Fm) (s : Kgi2.St) (a : Addr) (ks : List Nat) (z : Int), vs = [.ref B.p, .ref a, .int z] ∧ BdAt c H B f s ∧ Wf f s ∧ H a = some (.lst (nIs ks)) ∧ (∀ k ∈ ks, k < cells f) ∧ ks.length ≤ 1000 ∧
  ∀ (p : Addr) (as : List Addr) (H' : Hp), Same H H' → H p = none → H' p = some (.lst (as.map V.ref)) → Tups H' as (Sq.strikesW ks fun k => andZ (at_ s k) z) → Q (.ref p) H'
abbrev nI_int (x : Nat) : Int := (x : Int)
theorem strikesW_snoc {g : Nat → Nat} {l : List Nat} {k : Nat} : Sq.strikesW (l ++ [k]) g = if g k = 0 then Sq.strikesW l g else Sq.strikesW l g ++ [(k, g k)] := by
  unfold Sq.strikesW
  rw [List.filter_append, List.map_append]
  by_cases h : g k = 0
  · rw [if_pos h]; simp [h]
  · rw [if_neg h]; simp [h]
theorem strikesW_len (l : List Nat) (g : Nat → Nat) : (Sq.strikesW l g).length ≤ l.length := by
  unfold Sq.strikesW
  rw [List.length_map]; exact List.length_filter_le _ _
section
variable {P : Program} {w : World} {K : PySem.W.Frag} {mg : Str → Option Value} {base : Heap} {c : Cs}
theorem scStrikesOf : FnScope ["board", "cells", "numbers", "k"] ["board", "cells", "numbers"] (defScope sStrikesOf) := ⟨rfl, rfl, rfl, by decide +kernel, rfl, by decide +kernel, by decide +kernel⟩
theorem ok_strikesOf {f : Addr} {fd : FuncData} (F : Fun K "strikes_of" "strikes_of" sStrikesOf f fd) (T : Txt K c) : FnOk P w K mg base CX0 1 f fd ["board", "cells", "numbers"] (spStrikesOf c K) := by
  refine F.ok scStrikesOf (fun vs H Q E h => ?_) (fun cdv A outer s H vs Q E hr h => ?_)
  · obtain ⟨B, fr, st, a, ks, z, rfl, _⟩ := h; rfl
  · obtain ⟨B, fr, st, a, ks, z, rfl, b, wf, ha, hks, hlen, k⟩ := h
    refine ⟨_, pss_one (ps_ret (pe_lc (own := [("k", 3)]) rfl scStrikesOf.nd (pi_list (pv 1)) (blkOk_by (N := ["board", "cells", "numbers", "k"]) (sc := defScope sStrikesOf) (by decide +kernel)) (fun _ _ _ _ _ => pg_name (i := 3) scStrikesOf.nd rfl (Or.inl rfl))
      (fun _ _ _ _ _ => pts_one (pt_nat (pe_op on_andZ (pe_ix (ix_listB K) (pe_fldB K (pv 0) rfl) (pv 3) (fun _ _ => rfl)) (pv 2)) (fun _ => rfl)))
      (fun _ _ _ _ _ => pe_tup (pa_cons (pv 3) (pa_cons (pe_op on_andZ (pe_ix (ix_listB K) (pe_fldB K (pv 0) rfl) (pv 3) (fun _ _ => rfl)) (pv 2)) pa_nil))))), ?_⟩
    refine ⟨_, rfl, a, rfl, ⟨_, SqL.of ha⟩, fun D hD => ?_⟩
    refine lc_list (K := K) (a := a) (xs := nIs ks) (fun i H' => ∃ as, Same H H' ∧ H' D = some (.lst (as.map V.ref)) ∧ Tups H' as (Sq.strikesW (ks.take i) fun k => andZ (at_ st k) z)) ⟨[], same_new hD, upd_same, trivial⟩
      (fun i H' _ ⟨as, sm, _⟩ => SqL.of (sm _ _ ha)) ?_ ?_
    · rintro i y H' hy ⟨as, sm, hD', tu⟩
      obtain ⟨j, hj, rfl⟩ := of_ints hy
      have hjl := hks j (List.mem_of_getElem? hj)
      have b' := b.same sm
      refine ⟨rfl, _, rfl, _, c.B, _, _, _, rfl, b'.ob, T.clB, T.bCells, fsB_cells _ _, _, rfl, B.cl, _, _, _, rfl, rfl, SqL.of b'.cl, ints_at (at_get wf hjl), _, rfl, _, _, rfl, rfl, _, rfl, iteB (fun cc => ?_) (fun cc => ?_)⟩
      · refine ⟨_, rfl, _, rfl, _, c.B, _, _, _, rfl, b'.ob, T.clB, T.bCells, fsB_cells _ _, _, rfl, B.cl, _, _, _, rfl, rfl, SqL.of b'.cl, ints_at (at_get wf hjl), _, rfl, _, _, rfl, rfl, (by show 2 ≤ sizeLine; decide), fun t ht => ?_⟩
        have hDt : D ≠ t := ne_of_none hD' ht
        refine ⟨as.map V.ref, by rw [upd_ne hDt]; exact hD', ?_, as ++ [t], ?_, ?_, ?_⟩
        · rw [List.length_map, tu.len]
          have := strikesW_len (ks.take i) fun k => andZ (at_ st k) z
          have : (ks.take i).length ≤ ks.length := by simp; omega
          exact small1000 (by omega)
        · intro q o e
          rw [upd_ne (ne_of_none e hD), upd_ne (ne_of_none (sm _ _ e) ht)]
          exact sm _ _ e
        · rw [upd_same, List.map_append]; rfl
        · rw [Sq.take_snoc hj, strikesW_snoc]
          have h0 : ¬ andZ (at_ st j) z = 0 := by simpa using cc
          rw [if_neg h0]
          refine Tups.snoc ?_ ?_
          · refine Ats.imp (fun q x e => ?_) tu
            rw [upd_ne (ne_of e hD' (by intro z; cases z)), upd_ne (ne_of_none e ht)]; exact e
          · rw [upd_ne hDt.symm, upd_same]
      · refine ⟨as, sm, hD', ?_⟩
        rw [Sq.take_snoc hj, strikesW_snoc]
        have h0 : andZ (at_ st j) z = 0 := by simpa using cc
        rw [if_pos h0]; exact tu
    · rintro H' ⟨as, sm, hD', tu⟩
      rw [ints_len, List.take_length] at tu
      exact k D as H' sm hD hD' tu
theorem scBySign : FnScope ["board", "sign", "less", "more", "up_to_least", "below_greatest"] ["board", "sign"] (defScope sBySign) := ⟨rfl, rfl, rfl, by decide +kernel, rfl, by decide +kernel, by decide +kernel⟩
def spBySign (c : Cs) : Sp := fun vs H Q _ => ∃ (B : Bd) (f : Fm) (s : Kgi2.St) (t : Addr) (g : Sq.Sgn), vs = [.ref B.p, .ref t] ∧ BdAt c H B f s ∧ Rt f ∧ Wf f s ∧ H t = some (.tup (sgT g)) ∧ g.a < cells f ∧ g.b < cells f ∧
  ∀ (p : Addr) (as : List Addr) (H' : Hp), Same H H' → H p = none → H' p = some (.lst (as.map V.ref)) → Tups H' as (Sq.strikesBySign s g.a g.b) → Q (.ref p) H'
theorem sgT_at2 (g : Sq.Sgn) : atI (sgT g) 2 = some (nI g.a) := rfl
theorem sgT_at3 (g : Sq.Sgn) : atI (sgT g) 3 = some (nI g.b) := rfl
theorem sgT_at0 (g : Sq.Sgn) : atI (sgT g) 0 = some (nI g.k) := rfl
theorem sgT_at1 (g : Sq.Sgn) : atI (sgT g) 1 = some (nI g.d) := rfl
theorem strikesW_congr {l : List Nat} {g h : Nat → Nat} (e : ∀ k ∈ l, g k = h k) : Sq.strikesW l g = Sq.strikesW l h := by
  unfold Sq.strikesW
  rw [List.filter_congr (q := fun k => h k != 0) fun k hk => by rw [e k hk]]
  exact List.map_congr_left fun k hk => by rw [e k (List.mem_filter.mp hk).1]
theorem small_low {f : Fm} (R : Rt f) {s : Kgi2.St} (wf : Wf f s) {k : Nat} (h : at_ s k ≠ 0) : Sq.low (at_ s k) < 1000000 ∧ (at_ s k).log2 < 1000000 := by
  have h1 := wf.bit k _ (Sq.low_bit h)
  have h2 := wf.bit k _ (Sq.log2_bit h)
  have := R.hi
  omega
theorem ok_bySign {f : Addr} {fd : FuncData} (F : Fun K "strikes_by_sign" "strikes_by_sign" sBySign f fd) (T : Txt K c) (GL : GF P w K mg base 1 "least" ["bits"] spLeast) (GG : GF P w K mg base 1 "greatest" ["bits"] spGreatest)
    (GS : GF P w K mg base 1 "strikes_of" ["board", "cells", "numbers"] (spStrikesOf c K)) : FnOk P w K mg base CX0 2 f fd ["board", "sign"] (spBySign c) := by
  refine F.ok scBySign (fun vs H Q E h => ?_) (fun cdv A outer s H vs Q E hr h => ?_)
  · obtain ⟨B, fr, st, t, g, rfl, _⟩ := h; rfl
  · obtain ⟨B, fr, st, t, g, rfl, b, R, wf, ht, hga, hgb, k⟩ := h
    refine ⟨_, pss_cons (ps_set (i := 2) scBySign.nd rfl (Or.inl rfl) (pe_ix ix_list (pe_fld (pv 0) rfl) (pe_ix ix_tup (pv 1) pe_int (fun _ _ => rfl)) (fun _ _ => rfl)))
      (pss_cons (ps_set (i := 3) scBySign.nd rfl (Or.inl rfl) (pe_ix ix_list (pe_fld (pv 0) rfl) (pe_ix ix_tup (pv 1) pe_int (fun _ _ => rfl)) (fun _ _ => rfl)))
      (pss_cons (ps_if (PW.pt (pw_or (pt_cmpR on_eq (pv 2) (pe_nat 0) (nomark _)) (pw_or1 (pt_cmpR on_eq (pv 3) (pe_nat 0) (nomark _))))) (pss_one (ps_ret (pe_lst pa_nil))) pss_nil)
      (pss_cons (ps_set (i := 4) scBySign.nd rfl (Or.inl rfl) (pe_op on_sub (pe_op on_shl (pe_nat 2) (pe_callG GL hr rfl (pa_cons (pv 2) pa_nil))) (pe_nat 1)))
      (pss_cons (ps_set (i := 5) scBySign.nd rfl (Or.inl rfl) (pe_op on_sub (pe_op on_shl (pe_nat 1) (pe_callG GG hr rfl (pa_cons (pv 3) pa_nil))) (pe_nat 1)))
      (pss_one (ps_ret (pe_op op_cat (pe_callG GS hr rfl (pa_cons (pv 0) (pa_cons (pe_lst (pa_cons (pe_ix ix_tup (pv 1) pe_int (fun _ _ => rfl)) pa_nil)) (pa_cons (pe_op on_andNot (pv 2) (pe_un un_inv (pv 5))) pa_nil))))
        (pe_callG GS hr rfl (pa_cons (pv 0) (pa_cons (pe_lst (pa_cons (pe_ix ix_tup (pv 1) pe_int (fun _ _ => rfl)) pa_nil)) (pa_cons (pv 4) pa_nil))))))))))), ?_⟩
    refine ⟨_, rfl, _, c.B, _, _, _, rfl, b.ob, T.clB, T.bCells, fsB_cells _ _, _, rfl, t, _, _, _, rfl, rfl, SqT.of ht, sgT_at2 g, B.cl, _, _, _, rfl, rfl, SqL.of b.cl, ints_at (at_get wf hga), ?_⟩
    refine ⟨_, rfl, _, c.B, _, _, _, rfl, b.ob, T.clB, T.bCells, fsB_cells _ _, _, rfl, t, _, _, _, rfl, rfl, SqT.of ht, sgT_at3 g, B.cl, _, _, _, rfl, rfl, SqL.of b.cl, ints_at (at_get wf hgb), ?_⟩
    have zero : (at_ st g.a = 0 ∨ at_ st g.b = 0) → ∀ p, H p = none → Q (.ref p) (upd H p (.lst [])) := fun z p hp => k p [] _ (same_new hp) hp upd_same (by
      have : Sq.strikesBySign st g.a g.b = [] := by unfold Sq.strikesBySign; rw [if_pos z]
      rw [this]; trivial)
    refine ⟨_, rfl, _, _, rfl, rfl, _, rfl, iteB (fun ca => iteT ⟨Nat.zero_le _, fun p hp => zero (.inl (of_decide_eq_true ca)) p hp⟩) (fun ca => ⟨_, rfl, _, _, rfl, rfl, _, rfl, iteB (fun cb => ⟨Nat.zero_le _, fun p hp => zero (.inr (of_decide_eq_true cb)) p hp⟩) (fun cb => ?_)⟩)⟩
    have ha : at_ st g.a ≠ 0 := of_decide_eq_false ca
    have hb : at_ st g.b ≠ 0 := of_decide_eq_false cb
    refine ⟨_, rfl, _, rfl, ha, _, _, rfl, rfl, ⟨by decide, (small_low R wf ha).1⟩, _, _, rfl, rfl, ?_, ?_⟩
    · have := Nat.two_pow_pos (Sq.low (at_ st g.a)); omega
    refine ⟨_, rfl, _, rfl, hb, _, _, rfl, rfl, ⟨by decide, (small_low R wf hb).2⟩, _, _, rfl, rfl, ?_, ?_⟩
    · have := Nat.two_pow_pos (at_ st g.b).log2; omega
    -- the two rows of strikes
    refine ⟨_, rfl, _, rfl, t, _, _, _, rfl, rfl, SqT.of ht, sgT_at2 g, (by show 1 ≤ sizeLine; decide), fun l1 h1 => ?_⟩
    have s1 : Same H (upd H l1 (.lst [nI g.a])) := same_new h1
    refine ⟨_, rfl, _, rfl, _, rfl, _, _, rfl, rfl, B, fr, st, l1, [g.a], _, rfl, b.same s1, wf, upd_same, (by intro x hx; rw [List.mem_singleton.mp hx]; exact hga), (by show 1 ≤ 1000; decide), fun p1 as1 H1 sm1 hp1 e1 t1 => ?_⟩
    have s2 := s1.trans sm1
    refine ⟨_, rfl, _, rfl, t, _, _, _, rfl, rfl, SqT.of (s2 _ _ ht), sgT_at3 g, (by show 1 ≤ sizeLine; decide), fun l2 h2 => ?_⟩
    have s3 : Same H1 (upd H1 l2 (.lst [nI g.b])) := same_new h2
    refine ⟨_, rfl, B, fr, st, l2, [g.b], _, rfl, b.same (s2.trans s3), wf, upd_same, (by intro x hx; rw [List.mem_singleton.mp hx]; exact hgb), (by show 1 ≤ 1000; decide), fun p2 as2 H2 sm2 hp2 e2 t2 => ?_⟩
    have s4 := s3.trans sm2
    refine ⟨p1, p2, _, _, rfl, rfl, s4 _ _ e1, e2, ?_, fun p hp => ?_⟩
    · rw [List.length_map, List.length_map, t1.len, t2.len]
      have h1 := strikesW_len [g.a] fun k => andZ (at_ st k) (nI_int (Sq.sub (at_ st g.a) (1 * 2 ^ (at_ st g.b).log2 - 1)))
      have h2 := strikesW_len [g.b] fun k => andZ (at_ st k) (nI_int (2 * 2 ^ Sq.low (at_ st g.a) - 1))
      exact Nat.le_trans (Nat.add_le_add h1 h2) (by show 1 + 1 ≤ sizeLine; decide)
    · rw [← List.map_append]
      refine k p (as1 ++ as2) _ ((s2.trans s4).trans (same_new hp)) ((s2.trans s4).free hp) upd_same ?_
      have s5 : Same H2 (upd H2 p (.lst ((as1 ++ as2).map V.ref))) := same_new hp
      have e : Sq.strikesBySign st g.a g.b = (Sq.strikesW [g.a] fun k => andZ (at_ st k) (nI_int (Sq.sub (at_ st g.a) (1 * 2 ^ (at_ st g.b).log2 - 1)))) ++ Sq.strikesW [g.b] fun k => andZ (at_ st k) (nI_int (2 * 2 ^ Sq.low (at_ st g.a) - 1)) := by
        unfold Sq.strikesBySign nI_int
        rw [if_neg (fun z => z.elim ha hb), Sq.strikesW_of, Sq.strikesW_of]
        congr 1
        exact strikesW_congr fun k _ => by rw [andZ_nat, Nat.one_mul]
      rw [e]
      exact Tups.app ((t1.same s4).same s5) (t2.same s5)
end
end Py
namespace Py
open PySem PySem.Spec PyProof.Rows L2
open Kgi1 (cells)
open Kgi2 (at_ has unit)
open Sq (Wf Rt sub nU mask masks plT)
def spBroken (c : Cs) : Sp := fun vs H Q _ => ∃ (S : Hp) (A : FAd) (B : Bd) (f : Fm) (s : Kgi2.St), vs = [.ref A.p, .ref B.p] ∧ FrAt c S A f ∧ Same S H ∧ BdAt c H B f s ∧ Rt f ∧ Wf f s ∧ Q (.bl (Kgi2.broken f s)) H
theorem inV_zero (l : List Nat) : inV (V.int 0) (nIs l) = decide (0 ∈ l) := by
  unfold inV nIs
  rw [List.any_map, Bool.eq_iff_iff, List.any_eq_true, decide_eq_true_iff]
  constructor
  · rintro ⟨x, hx, e⟩
    have e : ((x : Int) == 0) = true := e
    have : x = 0 := by have := eq_of_beq e; omega
    rw [← this]; exact hx
  · intro h
    exact ⟨0, h, rfl⟩
theorem mem_zero {f : Fm} {s : Kgi2.St} (wf : Wf f s) : 0 ∈ s ↔ ∃ k, k < cells f ∧ at_ s k = 0 := by
  constructor
  · intro h
    obtain ⟨i, hi, e⟩ := List.mem_iff_getElem.mp h
    exact ⟨i, by rw [← wf.len]; exact hi, by rw [Sq.at_lt hi]; exact e⟩
  · rintro ⟨k, hk, e⟩
    have := at_get wf hk
    rw [e] at this
    exact List.mem_of_getElem? this
theorem there_zero {f : Fm} {s : Kgi2.St} {u v : Nat} : Sq.pl s v &&& mask f u = 0 ↔ ∀ k, k ∈ unit f u → has s k v = false := by
  rw [Sq.and_zero_iff]
  constructor
  · intro h k hk
    cases e : has s k v with
    | false => rfl
    | true => exact (h k (by rw [Sq.tb_pl]; exact e) (Sq.tb_mask.mpr hk)).elim
  · intro h k h1 h2
    rw [Sq.tb_pl, h k (Sq.tb_mask.mp h2)] at h1
    cases h1
section
variable {P : Program} {w : World} {K : PySem.W.Frag} {mg : Str → Option Value} {base : Heap} {c : Cs}
theorem scBroken : FnScope ["frame", "board", "unit", "v"] ["frame", "board"] (defScope sBroken) := ⟨rfl, rfl, rfl, by decide +kernel, rfl, by decide +kernel, by decide +kernel⟩
theorem ok_broken {f : Addr} {fd : FuncData} (F : Fun K "is_broken" "is_broken" sBroken f fd) (T : Txt K c) (nr : mg "range" = none) : FnOk P w K mg base CX0 1 f fd ["frame", "board"] (spBroken c) := by
  refine F.ok scBroken (fun vs H Q E h => ?_) (fun cdv A outer s H vs Q E hr h => ?_)
  · obtain ⟨S, A, B, fr, st, rfl, _⟩ := h; rfl
  · obtain ⟨S, A, B, fr, st, rfl, a, sm, b, R, wf, q⟩ := h
    refine ⟨_, pss_cons (ps_if (pt_cmpR op_in_seq pe_int (pe_fld (pv 1) rfl) (by with_unfolding_all rfl)) (pss_one (ps_ret pe_bl)) pss_nil)
      (pss_cons (ps_for PassesOwn.never rfl (pi_list (pe_fld (pv 0) rfl)) (pg_name (i := 2) scBroken.nd rfl (Or.inl rfl))
        (pss_one (ps_for PassesOwn.never rfl (pi_range2 rfl nr (pa_cons pe_int (pa_cons (pe_op on_add (pe_fld (pv 0) rfl) (pe_nat 1)) pa_nil))) (pg_name (i := 3) scBroken.nd rfl (Or.inl rfl))
          (pss_one (ps_if (pt_cmpR on_eq (pe_op on_and (pe_ix ix_list (pe_fld (pv 1) rfl) (pv 3) (fun _ _ => rfl)) (pv 2)) (pe_nat 0) (nomark _)) (pss_one (ps_ret pe_bl)) pss_nil))))) (pss_one (ps_ret pe_bl))), ?_⟩
    refine ⟨_, rfl, _, c.B, _, _, _, rfl, b.ob, T.clB, T.bCells, fsB_cells _ _, B.cl, _, rfl, .inl (SqL.of b.cl), rfl, ints_flat _, _, rfl, iteB (fun cc => ?_) (fun cc => ?_)⟩
    · have hb : Kgi2.broken fr st = true := Sq.broken_iff.mpr (.inl ((mem_zero wf).mp (by rw [if_neg (by decide), inV_zero] at cc; exact of_decide_eq_true cc)))
      show Q (.bl true) H
      rw [← hb]; exact q
    · have n0 : ¬ ∃ k, k < cells fr ∧ at_ st k = 0 := fun z => by
        rw [if_neg (by decide), inV_zero] at cc
        exact of_decide_eq_false cc ((mem_zero wf).mpr z)
      refine ⟨_, rfl, _, c.F, _, _, _, rfl, sm _ _ a.ob, T.clF, T.fUnits, fsF_units _ _, A.u, rfl, ⟨_, SqL.of (sm _ _ a.un)⟩, ?_⟩
      refine for_list (K := K) (a := A.u) (xs := nIs (masks fr)) (fun i σ H' => (∃ v2 v3, σ = [some (.ref A.p), some (.ref B.p), v2, v3]) ∧ H = H' ∧ ∀ u v, u < i → 1 ≤ v → v ≤ fr.n → Sq.pl st v &&& mask fr u ≠ 0) ⟨⟨none, none, rfl⟩, rfl, fun u v h => absurd h (Nat.not_lt_zero _)⟩
        (fun i σ H' _ ⟨_, e, _⟩ => by rw [← e]; exact SqL.of (sm _ _ a.un)) ?_ ?_
      · rintro i y σ H' hy ⟨⟨v2, v3, rfl⟩, rfl, no⟩
        obtain ⟨m, hm, rfl⟩ := of_ints hy
        have hi : i < nU fr := by have := (List.getElem?_eq_some_iff.mp hm).1; rw [Sq.masks_len] at this; exact this
        rw [Sq.masks_at hi] at hm
        cases hm
        refine ⟨_, rfl, _, c.F, _, _, _, rfl, sm _ _ a.ob, T.clF, T.fN, fsF_n _ _, _, 1, rfl, rfl, 1, _, rfl, ?_, ?_⟩
        · have := R.hi; refine ⟨by omega, by omega, by omega, by omega⟩
        have en : ((((fr.n + 1 : Nat) : Int)) - 1).toNat = fr.n := by omega
        rw [en]
        refine for_range (fun j σ H' => (∃ v3, σ = [some (.ref A.p), some (.ref B.p), some (nI (mask fr i)), v3]) ∧ H = H' ∧ ∀ v, v < j → Sq.pl st (v + 1) &&& mask fr i ≠ 0) ⟨⟨v3, rfl⟩, rfl, fun v h => absurd h (Nat.not_lt_zero _)⟩ ?_ ?_
        · rintro j σ H' hj ⟨⟨v3, rfl⟩, rfl, nj⟩
          have ej : V.int (1 + (j : Int)) = nI (j + 1) := by congr 1; push_cast; omega
          rw [ej]
          refine ⟨_, rfl, _, c.B, _, _, _, rfl, b.ob, T.clB, T.bPlaces, fsB_places _ _, _, rfl, B.pl, _, _, _, rfl, rfl, SqL.of b.pl, ints_at (Sq.plT_at (by omega)), _, rfl, _, _, rfl, rfl, _, _, rfl, rfl, _, rfl, iteB (fun cz => ?_) (fun cz => ?_)⟩
          · have hz := of_decide_eq_true cz
            have hb : Kgi2.broken fr st = true := Sq.broken_iff.mpr (.inr ⟨i, j + 1, hi, ⟨by omega, by omega⟩, there_zero.mp hz⟩)
            show Q (.bl true) H
            rw [← hb]; exact q
          · refine ⟨⟨_, rfl⟩, rfl, fun v hv => ?_⟩
            by_cases e : v = j
            · rw [e]; exact of_decide_eq_false cz
            · exact nj v (by omega)
        · rintro σ H' ⟨⟨v3, rfl⟩, rfl, nj⟩
          refine ⟨⟨_, _, rfl⟩, rfl, fun u v hu h1 h2 => ?_⟩
          by_cases e : u = i
          · have := nj (v - 1) (by omega)
            rw [show v - 1 + 1 = v by omega] at this
            rw [e]; exact this
          · exact no u v (by omega) h1 h2
      · rintro σ H' ⟨⟨v2, v3, rfl⟩, rfl, no⟩
        have hb : Kgi2.broken fr st = false := by
          cases e : Kgi2.broken fr st with
          | false => rfl
          | true =>
            rcases Sq.broken_iff.mp e with z | ⟨u, v, hu, hv, z⟩
            · exact (n0 z).elim
            · exact (no u v (by rw [ints_len, Sq.masks_len]; exact hu) hv.1 hv.2 (there_zero.mpr z)).elim
        show Q (.bl false) H
        rw [← hb]; exact q
def spFirst (c : Cs) : Sp := fun vs H Q _ => ∃ (S : Hp) (A : FAd) (f : Fm), vs = [.ref A.p] ∧ FrAt c S A f ∧ Same S H ∧ Rt f ∧ Sq.Lens f ∧
  ∀ (B : Bd) (H' : Hp), Same H H' → BdAt c H' B f (Kgi2.start f) → H B.cl = none → H B.pl = none → H B.p = none → Q (.ref B.p) H'
theorem rep_zero (k : Nat) : (List.replicate k [V.int 0]).flatten = nIs (List.replicate k 0) := by
  induction k with
  | zero => rfl
  | succ k ih =>
    rw [List.replicate_succ, List.replicate_succ, List.flatten_cons, ih]
    rfl
theorem rep_map (k : Nat) : List.replicate k 0 = (List.range k).map fun _ => 0 := by
  refine List.ext_getElem (by simp) fun i h1 h2 => ?_
  rw [List.getElem_replicate, List.getElem_map]
theorem scFirst : FnScope ["frame", "anything", "v", "cells", "places", "k", "numbers"] ["frame"] (defScope sFirst) := ⟨rfl, rfl, rfl, by decide +kernel, rfl, by decide +kernel, by decide +kernel⟩
theorem ok_first {f : Addr} {fd : FuncData} (F : Fun K "board_at_first" "board_at_first" sFirst f fd) (T : Txt K c) (GM : GF P w K mg base 2 "members" ["bits"] spMembers) (GB : CF P w K mg base 1 c.B "Board" ["self", "cells", "places"] (spBoard0 c)) (ne : mg "enumerate" = none) :
    FnOk P w K mg base CX0 3 f fd ["frame"] (spFirst c) := by
  refine F.ok scFirst (fun vs H Q E h => ?_) (fun cdv A outer s H vs Q E hr h => ?_)
  · obtain ⟨S, A, fr, rfl, _⟩ := h; rfl
  · obtain ⟨S, A, fr, rfl, a, sm, R, L, k⟩ := h
    have wf := Sq.start_wf R
    have hlo := R.lo
    have hhi := R.hi
    refine ⟨_, pss_cons (ps_set (i := 1) scFirst.nd rfl (Or.inr rfl) (pe_op on_sub (pe_op on_shl (pe_nat 1) (pe_op on_add (pe_fld (pv 0) rfl) (pe_nat 1))) (pe_nat 2)))
      (pss_cons (ps_setLc (i := 3) (own := [("v", 2)]) rfl scFirst.nd rfl rfl (sw_true rfl rfl rfl rfl) (pi_list (pe_fld (pv 0) rfl)) (blkOk_by (N := ["frame", "anything", "v", "cells", "places", "k", "numbers"]) (sc := defScope sFirst) (by decide +kernel))
          (fun _ _ _ _ _ => pg_name (i := 2) scFirst.nd rfl (Or.inl rfl)) (fun _ _ _ _ _ => pts_nil) (fun _ _ _ _ _ => pe_ifExp (pt_nat (pv 2) (fun _ => rfl)) (pe_op on_shl (pe_nat 1) (pv 2)) (pv 1)))
      (pss_cons (ps_set (i := 4) scFirst.nd rfl (Or.inl rfl) (pe_op op_rep (pe_lst (pa_cons pe_int pa_nil)) (pe_op on_add (pe_fld (pv 0) rfl) (pe_nat 1))))
      (pss_cons (ps_for PassesOwn.never rfl (pi_enum rfl ne (pa_cons (pv 3) pa_nil)) (pg_tup rfl (pgs_cons (pg_name (i := 5) scFirst.nd rfl (Or.inl rfl)) (pgs_cons (pg_name (i := 6) scFirst.nd rfl (Or.inl rfl)) pgs_nil)))
        (pss_one (ps_for PassesOwn.never rfl (pi_list (pe_callG GM hr rfl (pa_cons (pv 6) pa_nil))) (pg_name (i := 2) scFirst.nd rfl (Or.inl rfl))
          (pss_one (ps_augS (pv 4) (pv 2) get_list (pe_op on_shl (pe_nat 1) (pv 5)) in_or set_list)))))
      (pss_one (ps_ret (pe_makeG GB hr rfl (pa_cons (pv 3) (pa_cons (pv 4) pa_nil)))))))), ?_⟩
    have e2 : 1 * 2 ^ (fr.n + 1) - 2 = 2 * 2 ^ fr.n - 2 := by rw [Nat.one_mul, Nat.pow_succ, Nat.mul_comm]
    refine ⟨_, rfl, _, c.F, _, _, _, rfl, sm _ _ a.ob, T.clF, T.fN, fsF_n _ _, _, 1, rfl, rfl, 1, _, rfl, rfl, ⟨by decide, by omega⟩, _, 2, rfl, rfl, ?_, ?_⟩
    · have := Nat.two_pow_pos fr.n; rw [Nat.pow_succ]; omega
    rw [e2]
    refine ⟨_, rfl, _, c.F, _, _, _, rfl, sm _ _ a.ob, T.clF, T.fGiven, fsF_given _ _, A.g, rfl, ⟨_, SqL.of (sm _ _ a.gv)⟩, fun D hD => ?_⟩
    refine lc_list (K := K) (a := A.g) (xs := nIs fr.given) (fun i H' => Same H H' ∧ H' D = some (.lst (nIs ((fr.given.take i).map (Sq.at0 fr))))) ⟨same_new hD, upd_same⟩ (fun i H' _ ⟨s1, _⟩ => SqL.of (s1 _ _ (sm _ _ a.gv))) ?_ ?_
    · rintro i y H' hy ⟨s1, hD'⟩
      obtain ⟨v, hv, rfl⟩ := of_ints hy
      have hi : i < cells fr := by rw [← L.gv]; exact (List.getElem?_eq_some_iff.mp hv).1
      have hvn : v ≤ fr.n := by
        have := R.giv i hi
        rw [List.getD_eq_getElem?_getD, hv] at this; exact this
      have next : ∀ x, x = Sq.at0 fr v → ∃ acc, H' D = some (.lst acc) ∧ acc.length < sizeLine ∧ (Same H (upd H' D (.lst (acc ++ [nI x]))) ∧ (upd H' D (.lst (acc ++ [nI x]))) D = some (.lst (nIs ((fr.given.take (i + 1)).map (Sq.at0 fr))))) := fun x e => by
        refine ⟨_, hD', ?_, fun b o z => ?_, ?_⟩
        · rw [ints_len, List.length_map]
          have : (fr.given.take i).length ≤ fr.given.length := by simp; omega
          have h9 : cells fr ≤ 9 * 9 := Nat.mul_le_mul hhi hhi
          rw [L.gv] at this
          exact small1000 (by omega)
        · rw [upd_ne (ne_of_none z hD)]; exact s1 _ _ z
        · rw [upd_same, ints_snoc, e, Sq.take_snoc hv, List.map_append]; rfl
      refine ⟨rfl, _, rfl, v, rfl, iteB (fun cc => ?_) (fun cc => ?_)⟩
      · refine ⟨_, rfl, 1, _, rfl, rfl, ⟨by decide, by omega⟩, next _ ?_⟩
        have : ¬ v = 0 := of_decide_eq_true cc
        unfold Sq.at0
        rw [if_neg this, Nat.one_mul]
      · refine ⟨_, rfl, next _ ?_⟩
        have : v = 0 := by simpa using cc
        unfold Sq.at0
        rw [if_pos this]
    · rintro H1 ⟨s1, hD1⟩
      rw [ints_len, List.take_length, ← Sq.start_eq L] at hD1
      generalize hst : Kgi2.start fr = st at *
      -- places = [0] * (frame.n + 1)
      refine ⟨(by show 1 ≤ sizeLine; decide), fun l0 hl0 => ?_⟩
      have s2 : Same H1 (upd H1 l0 (.lst [V.int 0])) := same_new hl0
      refine ⟨_, rfl, _, c.F, _, _, _, rfl, s2 _ _ (s1 _ _ (sm _ _ a.ob)), T.clF, T.fN, fsF_n _ _, _, 1, rfl, rfl, l0, _, _, rfl, rfl, upd_same, (by omega), (by omega), ?_, fun q hq => ?_⟩
      · rw [Int.toNat_natCast]; show 1 * (fr.n + 1) ≤ sizeLine; exact Nat.le_trans (show 1 * (fr.n + 1) ≤ 100 by omega) (by decide)
      rw [Int.toNat_natCast, rep_zero, rep_map]
      generalize hH2 : upd (upd H1 l0 (.lst [V.int 0])) q (.lst (nIs ((List.range (fr.n + 1)).map fun _ => 0))) = H2
      have s3 : Same H1 H2 := s2.trans (by rw [← hH2]; exact same_new hq)
      have hq2 : H2 q = some (.lst (nIs ((List.range (fr.n + 1)).map fun _ => 0))) := by rw [← hH2]; exact upd_same
      have hDq : D ≠ q := fun e => by
        have := s2 _ _ hD1
        rw [e, hq] at this; cases this
      have hq0 : H q = none := s1.free (s2.free hq)
      -- for k, numbers in enumerate(cells)
      refine ⟨_, rfl, D, _, rfl, SqL.of (s3 _ _ hD1), ?_⟩
      refine for_enum (K := K) (a := D) (xs := nIs st) (fun i σ H' => (∃ v2 v5 v6, σ = [some (.ref A.p), some (nI (2 * 2 ^ fr.n - 2)), v2, some (.ref D), some (.ref q), v5, v6]) ∧ Same H H' ∧ H' D = some (.lst (nIs st)) ∧ H' q = some (.lst (nIs ((List.range (fr.n + 1)).map (Sq.plUp st i)))))
        ⟨⟨_, _, _, rfl⟩, s1.trans s3, s3 _ _ hD1, by rw [Sq.plUp_zero]; exact hq2⟩ (fun i σ H' _ ⟨_, _, h, _⟩ => SqL.of h) ?_ ?_
      · rintro i y σ H' t hy ⟨⟨v2, v5, v6, rfl⟩, s4, hD4, hq4⟩ ht
        obtain ⟨m, hm, rfl⟩ := of_ints hy
        have hi : i < cells fr := by rw [← wf.len]; exact (List.getElem?_eq_some_iff.mp hm).1
        have em : m = at_ st i := by
          rw [at_get wf hi] at hm
          exact (Option.some.inj hm).symm
        subst em
        refine ⟨_, rfl, _, rfl, cell_lt R wf (k := i) (fun v h => h), fun p hp => ⟨p, rfl, ⟨_, SqL.of upd_same⟩, ?_⟩⟩
        have s5 : Same H' (upd (upd H' t (.tup [nI i, nI (at_ st i)])) p (.lst (nIs (Sq.bitsOf (at_ st i))))) := (same_new ht).trans (same_new hp)
        have hqp : q ≠ p := fun e => by have := (same_new (o := .tup [nI i, nI (at_ st i)]) ht) _ _ hq4; rw [e, hp] at this; cases this
        have hDp : D ≠ p := fun e => by have := (same_new (o := .tup [nI i, nI (at_ st i)]) ht) _ _ hD4; rw [e, hp] at this; cases this
        refine for_list (K := K) (a := p) (xs := nIs (Sq.bitsOf (at_ st i))) (fun j σ H'' => (∃ v2, σ = [some (.ref A.p), some (nI (2 * 2 ^ fr.n - 2)), v2, some (.ref D), some (.ref q), some (nI i), some (nI (at_ st i))]) ∧ Same H H'' ∧ H'' D = some (.lst (nIs st)) ∧ H'' q = some (.lst (nIs ((List.range (fr.n + 1)).map (Sq.plIn st i j)))) ∧ H'' p = some (.lst (nIs (Sq.bitsOf (at_ st i)))))
          ⟨⟨_, rfl⟩, s4.trans s5, s5 _ _ hD4, by rw [Sq.plIn_zero]; exact s5 _ _ hq4, upd_same⟩ (fun j σ H'' _ ⟨_, _, _, _, h⟩ => SqL.of h) ?_ ?_
        · rintro j y σ H'' hy ⟨⟨v2, rfl⟩, s6, hD6, hq6, hp6⟩
          obtain ⟨v, hv, rfl⟩ := of_ints hy
          have hvn := wf.bit i v (Sq.mem_bitsOf.mp (List.mem_of_getElem? hv))
          have hvl : v < fr.n + 1 := by omega
          refine ⟨_, rfl, _, rfl, q, _, _, _, rfl, rfl, SqL.of hq6, ints_at (Sq.tab_at hvl), _, rfl, 1, _, rfl, rfl, ⟨by decide, ?_⟩, _, _, rfl, rfl, q, _, _, v, rfl, rfl, hq6, ixN_nat (by rw [ints_len]; simpa using hvl), ?_⟩
          · have : cells fr ≤ 9 * 9 := Nat.mul_le_mul hhi hhi
            omega
          · refine ⟨⟨_, rfl⟩, fun b o e => ?_, by rw [upd_ne hDq]; exact hD6, ?_, by rw [upd_ne hqp.symm]; exact hp6⟩
            · rw [upd_ne (ne_of_none e hq0)]; exact s6 _ _ e
            · rw [upd_same, Nat.one_mul, ints_set, Sq.plIn_succ hv hvl]
        · rintro σ H'' ⟨⟨v2, rfl⟩, s6, hD6, hq6, hp6⟩
          refine ⟨⟨_, _, _, rfl⟩, s6, hD6, ?_⟩
          rw [ints_len, Sq.plIn_end] at hq6
          exact hq6
      · rintro σ H' ⟨⟨v2, v5, v6, rfl⟩, s4, hD4, hq4⟩
        refine ⟨_, rfl, _, rfl, fun x dx nx ndx nex => ⟨x, dx, D, q, rfl, upd_same, rfl, ?_⟩⟩
        have hq5 : H' q = some (.lst (nIs (plT fr st))) := by
          rw [hq4, ints_len]; rfl
        refine k ⟨x, dx, D, q⟩ _ (fun b o e => ?_) ⟨upd_same, ?_, ?_, hDq⟩ hD hq0 (s4.free nx)
        · have e' := s4 _ _ e
          rw [upd_upd, upd_ne (ne_of_none e' nx), upd_ne (ne_of_none e' ndx)]; exact e'
        · rw [upd_upd, upd_ne (ne_of_none hD4 nx), upd_ne (ne_of_none hD4 ndx)]; exact hD4
        · rw [upd_upd, upd_ne (ne_of_none hq5 nx), upd_ne (ne_of_none hq5 ndx)]; exact hq5
end
end Py
namespace Py
open PySem PySem.Spec PyProof.Rows L2
open Kgi1 (cells)
open Kgi2 (at_ has unit)
open Sq (Wf Rt sub nU mask masks plT)
abbrev sRefusal : Stmt := top 21
abbrev sRegionsFit : Stmt := top 22
abbrev sSignsFit : Stmt := top 23
def spRegionsFit (c : Cs) : Sp := fun vs H Q _ => ∃ (f : Fm) (rg : Addr), vs = [nI f.n, .ref rg] ∧ H rg = some (.lst (nIs f.region)) ∧ Sq.Lens f ∧ f.n ≤ 9 ∧ ∀ H', Same H H' → Q (.bl (Kgi1.regionsOk f)) H'
def spSignsFit (c : Cs) : Sp := fun vs H Q _ => ∃ (f : Fm) (rt dn : Addr), vs = [nI f.n, .ref rt, .ref dn] ∧ H rt = some (.lst (nIs f.right)) ∧ H dn = some (.lst (nIs f.down)) ∧ Sq.Lens f ∧ 2 ≤ f.n ∧ f.n ≤ 9 ∧ Q (.bl (Kgi1.signsOk f)) H
def spRefusal (c : Cs) : Sp := fun vs H Q _ => ∃ (f : Fm) (rg rt dn gv : Addr), vs = [nI f.n, .ref rg, .ref rt, .ref dn, .ref gv] ∧ H rg = some (.lst (nIs f.region)) ∧ H rt = some (.lst (nIs f.right)) ∧ H dn = some (.lst (nIs f.down)) ∧ H gv = some (.lst (nIs f.given)) ∧
  (2 ≤ f.n ∧ f.n ≤ 9 → Sq.Lens f) ∧ ∀ H', Same H H' → Q (.int (Kgi1.reads f)) H'
theorem count_ints (l : List Nat) (g : Nat) : (nIs l).countP (fun z => eqV z (nI g)) = l.count g := by
  unfold nIs
  rw [List.countP_map, List.count]
  refine List.countP_congr fun x _ => ?_
  show ((x : Int) == (g : Int)) = true ↔ (x == g) = true
  rw [beq_iff_eq, beq_iff_eq]; omega
theorem nIs_ints (l : List Nat) : nIs l = (Sq.natI l).map V.int := by
  unfold nIs Sq.natI
  rw [List.map_map]; rfl
theorem cells81 {f : Fm} (h : f.n ≤ 9) : cells f ≤ 81 := Nat.mul_le_mul h h
section
variable {P : Program} {w : World} {K : PySem.W.Frag} {mg : Str → Option Value} {base : Heap} {c : Cs}
theorem scRegionsFit : FnScope ["n", "regions", "region"] ["n", "regions"] (defScope sRegionsFit) := ⟨rfl, rfl, rfl, by decide +kernel, rfl, by decide +kernel, by decide +kernel⟩
theorem ok_regionsFit {f : Addr} {fd : FuncData} (F : Fun K "regions_fit" "regions_fit" sRegionsFit f fd) (cN : CI mg "NO_REGION" 255) (nr : mg "range" = none) (na : mg "all" = none) : FnOk P w K mg base CX0 1 f fd ["n", "regions"] (spRegionsFit c) := by
  refine F.ok scRegionsFit (fun vs H Q E h => ?_) (fun cdv A outer s H vs Q E hr h => ?_)
  · obtain ⟨fr, rg, rfl, _⟩ := h; rfl
  · obtain ⟨fr, rg, rfl, hrg, L, hn, k⟩ := h
    have h255 : List.countP (fun z => eqV z (V.int 255)) (nIs fr.region) = fr.region.count 255 := count_ints fr.region 255
    refine ⟨_, pss_cons (ps_if (pt_cmpR on_eq (pe_countB K (pv 1) (pa_cons (pe_num cN rfl) pa_nil)) (pe_op on_mul (pv 0) (pv 0)) (nomark _)) (pss_one (ps_ret pe_bl)) pss_nil)
      (pss_one (ps_ret (pe_callB (cr_all rfl) (by rfl) na PyProof.Rows.boot_all (pa_cons (pe_lc (own := [("region", 2)]) rfl scRegionsFit.nd (pi_range1 rfl nr (pa_cons (pv 0) pa_nil)) (blkOk_by (N := ["n", "regions", "region"]) (sc := defScope sRegionsFit) (by decide +kernel))
        (fun _ _ _ _ _ => pg_name (i := 2) scRegionsFit.nd rfl (Or.inl rfl)) (fun _ _ _ _ _ => pts_nil) (fun _ _ _ _ _ => pe_cmpR on_eq (pe_countB K (pv 1) (pa_cons (pv 2) pa_nil)) (pv 0) (nomark _))) pa_nil)))), ?_⟩
    refine ⟨_, rfl, .inl ⟨rfl, _, SqL.of hrg⟩, rg, _, _, rfl, rfl, SqL.of hrg, rfl, ints_flat _, _, rfl, _, rfl, _, _, rfl, rfl, (by omega), _, _, rfl, rfl, _, rfl, iteB (fun cc => ?_) (fun cc => ?_)⟩
    · have e : fr.region.count 255 = cells fr := by
        have := of_decide_eq_true cc
        rw [h255] at this; exact this
      have hb : Kgi1.regionsOk fr = true := by rw [Sq.regionsOk_eq L, decide_eq_true e, Bool.true_or]
      show Q (.bl true) H
      rw [← hb]; exact k H (Same.refl H)
    · have e : ¬ fr.region.count 255 = cells fr := fun z => by
        have := of_decide_eq_false cc
        rw [h255] at this; exact this z
      refine ⟨_, rfl, (fr.n : Int), rfl, by omega, by omega, fun D hD => ?_⟩
      rw [Int.toNat_natCast]
      refine lc_range (fun i H' => Same H H' ∧ H' D = some (.lst (((List.range i).map fun g => decide (fr.region.count g = fr.n)).map V.bl))) ⟨same_new hD, upd_same⟩ ?_ ?_
      · rintro i H' hi ⟨s1, hD'⟩
        have ei : V.int (0 + (i : Int)) = nI i := by congr 1; omega
        rw [ei]
        refine ⟨rfl, _, rfl, .inl ⟨rfl, _, SqL.of (s1 _ _ hrg)⟩, _, rfl, rg, _, _, rfl, rfl, SqL.of (s1 _ _ hrg), rfl, ints_flat _, _, rfl, _, _, rfl, rfl, _, hD', ?_, fun b o z => ?_, ?_⟩
        · rw [List.length_map, List.length_map, List.length_range]; exact small1000 (by omega)
        · rw [upd_ne (ne_of_none z hD)]; exact s1 _ _ z
        · rw [upd_same, count_ints, List.range_succ, List.map_append, List.map_append]; rfl
      · rintro H' ⟨s1, hD'⟩
        refine ⟨D, _, rfl, SqL.of hD', ?_⟩
        have hb : ((List.range fr.n).map fun g => decide (fr.region.count g = fr.n)).all id = Kgi1.regionsOk fr := by
          rw [Sq.regionsOk_eq L, decide_eq_false e, Bool.false_or, List.all_map]; rfl
        rw [hb]; exact k H' s1
theorem scSignsFit : FnScope ["n", "right", "down", "k"] ["n", "right", "down"] (defScope sSignsFit) := ⟨rfl, rfl, rfl, by decide +kernel, rfl, by decide +kernel, by decide +kernel⟩
theorem getD_get {l : List Nat} {n k : Nat} (h : l.length = n) (hk : k < n) : l[k]? = some (l.getD k 0) := by
  rw [List.getD_eq_getElem?_getD, List.getElem?_eq_getElem (by omega)]; rfl
theorem ok_signsFit {f : Addr} {fd : FuncData} (F : Fun K "signs_fit" "signs_fit" sSignsFit f fd) (nr : mg "range" = none) : FnOk P w K mg base CX0 1 f fd ["n", "right", "down"] (spSignsFit c) := by
  refine F.ok scSignsFit (fun vs H Q E h => ?_) (fun cdv A outer s H vs Q E hr h => ?_)
  · obtain ⟨fr, rt, dn, rfl, _⟩ := h; rfl
  · obtain ⟨fr, rt, dn, rfl, hrt, hdn, L, h2, h9, q⟩ := h
    have h81 := cells81 h9
    refine ⟨_, pss_cons (ps_for PassesOwn.never rfl (pi_range1 rfl nr (pa_cons (pe_op on_mul (pv 0) (pv 0)) pa_nil)) (pg_name (i := 3) scSignsFit.nd rfl (Or.inl rfl))
      (pss_cons (ps_if (PW.pt (pw_or (pt_cmpR on_gt (pe_ix ix_list (pv 1) (pv 3) (fun _ _ => rfl)) (pe_nat 2) (nomark _)) (pw_or1 (pt_cmpR on_gt (pe_ix ix_list (pv 2) (pv 3) (fun _ _ => rfl)) (pe_nat 2) (nomark _))))) (pss_one (ps_ret pe_bl)) pss_nil)
      (pss_cons (ps_if (PW.pt (pw_and (pt_cmpR on_eq (pe_op on_mod (pv 3) (pv 0)) (pe_op on_sub (pv 0) (pe_nat 1)) (nomark _)) (pw_and1 (pt_cmpR on_ne (pe_ix ix_list (pv 1) (pv 3) (fun _ _ => rfl)) (pe_nat 0) (nomark _))))) (pss_one (ps_ret pe_bl)) pss_nil)
      (pss_one (ps_if (PW.pt (pw_and (pt_cmpR on_eq (pe_op on_div (pv 3) (pv 0)) (pe_op on_sub (pv 0) (pe_nat 1)) (nomark _)) (pw_and1 (pt_cmpR on_ne (pe_ix ix_list (pv 2) (pv 3) (fun _ _ => rfl)) (pe_nat 0) (nomark _))))) (pss_one (ps_ret pe_bl)) pss_nil)))))
      (pss_one (ps_ret pe_bl)), ?_⟩
    refine ⟨_, rfl, _, rfl, _, _, rfl, rfl, by omega, ((fr.n * fr.n : Nat) : Int), rfl, by omega, ?_, ?_⟩
    · have : fr.n * fr.n ≤ 81 := h81
      omega
    rw [Int.toNat_natCast]
    refine for_range (n := fr.n * fr.n) (fun i σ H' => (∃ v3, σ = [some (nI fr.n), some (.ref rt), some (.ref dn), v3]) ∧ H = H' ∧ ∀ j, j < i → Sq.okSign fr j = true) ⟨⟨none, rfl⟩, rfl, fun j h => absurd h (Nat.not_lt_zero _)⟩ ?_ ?_
    · rintro i σ H' hi ⟨⟨v3, rfl⟩, rfl, no⟩
      have ei : V.int (0 + (i : Int)) = nI i := by congr 1; omega
      rw [ei]
      have gr := ints_at (getD_get L.rt hi)
      have gd := ints_at (getD_get L.dn hi)
      have bad : Sq.okSign fr i = false → Q (.bl false) H := fun z => by
        have hb : Kgi1.signsOk fr = false := by
          rw [Sq.signsOk_eq h2]
          exact List.all_eq_false.mpr ⟨i, List.mem_range.mpr hi, by rw [z]; simp⟩
        rw [← hb]; exact q
      refine ⟨_, rfl, _, rfl, rt, _, _, _, rfl, rfl, SqL.of hrt, gr, _, 2, rfl, rfl, _, rfl, iteB (fun c1 => iteT (bad ?_)) (fun c1 => ⟨_, rfl, _, rfl, dn, _, _, _, rfl, rfl, SqL.of hdn, gd, _, 2, rfl, rfl, _, rfl, iteB (fun c2 => bad ?_) (fun c2 => ?_)⟩)⟩
      · unfold Sq.okSign; rw [c1]; rfl
      · unfold Sq.okSign; rw [c2, Bool.or_true]; rfl
      have e12 : (decide (2 < fr.right.getD i 0) || decide (2 < fr.down.getD i 0)) = false := by rw [c1, c2]; rfl
      have third : (decide (i % fr.n = fr.n - 1) && !decide (fr.right.getD i 0 = 0)) = false → tIfS (tAnd (tTest (tOp rEqN (tOp rDivN (tVar 3) (tVar 0)) (tOp rSubN (tVar 0) (tC (nI 1))))) (tTest (tOp rNeN (tOp (rIxL K) (tVar 2) (tVar 3)) (tC (nI 0))))) (tRet (tC (.bl false))) tNext
          { nx := fun σ H' => (∃ v3, σ = [some (nI fr.n), some (.ref rt), some (.ref dn), v3]) ∧ H = H' ∧ ∀ j, j < i + 1 → Sq.okSign fr j = true, rt := Q } [some (nI fr.n), some (.ref rt), some (.ref dn), some (nI i)] H := fun c34 => by
        have fin : (decide (i / fr.n = fr.n - 1) && !decide (fr.down.getD i 0 = 0)) = false → ∀ j, j < i + 1 → Sq.okSign fr j = true := fun c56 j hj => by
          by_cases e : j = i
          · rw [e]
            unfold Sq.okSign
            have d1 : decide (fr.right.getD i 0 ≠ 0) = !decide (fr.right.getD i 0 = 0) := by rw [Bool.eq_iff_iff]; simp
            have d2 : decide (fr.down.getD i 0 ≠ 0) = !decide (fr.down.getD i 0 = 0) := by rw [Bool.eq_iff_iff]; simp
            rw [e12, d1, d2, c34, c56]; rfl
          · exact no j (by omega)
        refine ⟨_, rfl, _, rfl, _, _, rfl, rfl, ⟨by omega, by omega⟩, _, rfl, _, 1, rfl, rfl, by omega, _, _, rfl, rfl, _, rfl, iteB (fun c5 => ⟨_, rfl, _, rfl, dn, _, _, _, rfl, rfl, SqL.of hdn, gd, _, 0, rfl, rfl, _, rfl, iteB (fun c6 => bad ?_) (fun c6 => ⟨⟨_, rfl⟩, rfl, fin ?_⟩)⟩) (fun c5 => iteF ⟨⟨_, rfl⟩, rfl, fin ?_⟩)⟩
        · unfold Sq.okSign
          have d2 : decide (fr.down.getD i 0 ≠ 0) = !decide (fr.down.getD i 0 = 0) := by rw [Bool.eq_iff_iff]; simp
          rw [d2, c5, c6]; simp
        · rw [c5, c6]; rfl
        · rw [c5]; rfl
      refine ⟨_, rfl, _, rfl, _, _, rfl, rfl, by omega, _, rfl, _, 1, rfl, rfl, by omega, _, _, rfl, rfl, _, rfl, iteB (fun c3 => ⟨_, rfl, _, rfl, rt, _, _, _, rfl, rfl, SqL.of hrt, gr, _, 0, rfl, rfl, _, rfl, iteB (fun c4 => bad ?_) (fun c4 => third ?_)⟩) (fun c3 => iteF (third ?_))⟩
      · unfold Sq.okSign
        have d1 : decide (fr.right.getD i 0 ≠ 0) = !decide (fr.right.getD i 0 = 0) := by rw [Bool.eq_iff_iff]; simp
        rw [d1, c3, c4]; simp
      · rw [c3, c4]; rfl
      · rw [c3]; rfl
    · rintro σ H' ⟨⟨v3, rfl⟩, rfl, no⟩
      have hb : Kgi1.signsOk fr = true := by
        rw [Sq.signsOk_eq h2, List.all_eq_true]
        exact fun j hj => no j (List.mem_range.mp hj)
      show Q (.bl true) H
      rw [← hb]; exact q
theorem scRefusal : FnScope ["n", "regions", "right", "down", "given"] ["n", "regions", "right", "down", "given"] (defScope sRefusal) := ⟨rfl, rfl, rfl, by decide +kernel, rfl, by decide +kernel, by decide +kernel⟩
theorem ok_refusal {f : Addr} {fd : FuncData} (F : Fun K "refusal" "refusal" sRefusal f fd) (GR : GF P w K mg base 1 "regions_fit" ["n", "regions"] (spRegionsFit c)) (GS : GF P w K mg base 1 "signs_fit" ["n", "right", "down"] (spSignsFit c))
    (c1 : CI mg "WRONG_NUMBER" (-22)) (c2 : CI mg "WRONG_REGIONS" (-71)) (c3 : CI mg "WRONG_SIGN" (-72)) (c4 : CI mg "WRONG_GIVEN" (-73)) (nm : mg "max" = none) : FnOk P w K mg base CX0 2 f fd ["n", "regions", "right", "down", "given"] (spRefusal c) := by
  refine F.ok scRefusal (fun vs H Q E h => ?_) (fun cdv A outer s H vs Q E hr h => ?_)
  · obtain ⟨fr, rg, rt, dn, gv, rfl, _⟩ := h; rfl
  · obtain ⟨fr, rg, rt, dn, gv, rfl, hrg, hrt, hdn, hgv, hL, q⟩ := h
    refine ⟨_, pss_cons (ps_if (PW.pt (pw_or (pt_cmpR on_lt (pv 0) (pe_nat 2) (nomark _)) (pw_or1 (pt_cmpR on_gt (pv 0) (pe_nat 9) (nomark _))))) (pss_one (ps_ret (pe_num c1 rfl))) pss_nil)
      (pss_cons (ps_if (pt_not (pt_val (pe_callG GR hr rfl (pa_cons (pv 0) (pa_cons (pv 1) pa_nil))))) (pss_one (ps_ret (pe_num c2 rfl))) pss_nil)
      (pss_cons (ps_if (pt_not (pt_val (pe_callG GS hr rfl (pa_cons (pv 0) (pa_cons (pv 2) (pa_cons (pv 3) pa_nil)))))) (pss_one (ps_ret (pe_num c3 rfl))) pss_nil)
      (pss_cons (ps_if (pt_cmpR on_gt (pe_callB (cr_max rfl) (by rfl) nm PyProof.Rows.boot_max (pa_cons (pv 4) pa_nil)) (pv 0) (nomark _)) (pss_one (ps_ret (pe_num c4 rfl))) pss_nil)
      (pss_one (ps_ret pe_int))))), ?_⟩
    have e22 : (fr.n < 2 ∨ 9 < fr.n) → Q (.int (-22)) H := fun z => by
      have : Kgi1.reads fr = -22 := by unfold Kgi1.reads; rw [if_pos z]
      rw [← this]; exact q H (Same.refl H)
    refine ⟨_, rfl, _, 2, rfl, rfl, _, rfl, iteB (fun d1 => iteT (e22 (.inl (of_decide_eq_true d1)))) (fun d1 => ⟨_, rfl, _, 9, rfl, rfl, _, rfl, iteB (fun d2 => e22 (.inr (of_decide_eq_true d2))) (fun d2 => ?_)⟩)⟩
    have h2 : ¬ fr.n < 2 := of_decide_eq_false d1
    have h9 : ¬ 9 < fr.n := of_decide_eq_false d2
    have hn : ¬ (fr.n < 2 ∨ 9 < fr.n) := fun z => z.elim h2 h9
    have L := hL ⟨by omega, by omega⟩
    refine ⟨_, rfl, _, rfl, fr, rg, rfl, hrg, L, by omega, fun H1 s1 => ⟨_, rfl, iteB (fun d3 => ?_) (fun d3 => ?_)⟩⟩
    · have : Kgi1.reads fr = -71 := by unfold Kgi1.reads; rw [if_neg hn, if_pos (by simpa using d3)]
      show Q (.int (-71)) H1
      rw [← this]; exact q H1 s1
    have r1 : ¬ Kgi1.regionsOk fr = false := by simpa using d3
    refine ⟨_, rfl, _, rfl, _, rfl, fr, rt, dn, rfl, s1 _ _ hrt, s1 _ _ hdn, L, by omega, by omega, _, rfl, iteB (fun d4 => ?_) (fun d4 => ?_)⟩
    · have : Kgi1.reads fr = -72 := by unfold Kgi1.reads; rw [if_neg hn, if_neg r1, if_pos (by simpa using d4)]
      show Q (.int (-72)) H1
      rw [← this]; exact q H1 s1
    have r2 : ¬ Kgi1.signsOk fr = false := by simpa using d4
    have hpos : 0 < fr.given.length := by
      rw [L.gv]
      exact Nat.mul_pos (by omega) (by omega)
    refine ⟨_, rfl, gv, Sq.natI fr.given, rfl, SqL.of (by rw [← nIs_ints]; exact s1 _ _ hgv), by unfold Sq.natI; rw [List.length_map]; exact hpos, fun m hm hmax => ?_⟩
    obtain ⟨x, hx, rfl⟩ := List.mem_map.mp hm
    have hg : Kgi1.givenOk fr = decide (x ≤ fr.n) := Sq.givenOk_eq L hx fun y hy => by
      have := hmax (y : Int) (List.mem_map.mpr ⟨y, hy, rfl⟩)
      omega
    refine ⟨_, rfl, x, _, rfl, rfl, _, rfl, iteB (fun d5 => ?_) (fun d5 => ?_)⟩
    · have d5 := of_decide_eq_true d5
      have : Kgi1.reads fr = -73 := by unfold Kgi1.reads; rw [if_neg hn, if_neg r1, if_neg r2, if_pos (by rw [hg]; exact decide_eq_false (by omega))]
      show Q (.int (-73)) H1
      rw [← this]; exact q H1 s1
    · have d5 := of_decide_eq_false d5
      have : Kgi1.reads fr = 0 := by unfold Kgi1.reads; rw [if_neg hn, if_neg r1, if_neg r2, if_neg (by rw [hg, decide_eq_true (by omega)]; simp)]
      show Q (.int 0) H1
      rw [← this]; exact q H1 s1
end
end Py
namespace Py
open PySem PySem.Spec PyProof.Rows L2
open Kgi1 (cells)
open Kgi2 (at_ has unit)
open Sq (Wf Rt sub nU mask masks plT)
abbrev sUnits : Stmt := top 24
abbrev sSigns : Stmt := top 25
abbrev sOne : Stmt := top 26
def spUnits (c : Cs) : Sp := fun vs H Q _ => ∃ (f : Fm) (rg : Addr), vs = [nI f.n, .ref rg] ∧ H rg = some (.lst (nIs f.region)) ∧ Rt f ∧ Sq.Lens f ∧
  ∀ p H', Same H H' → H p = none → H' p = some (.lst (nIs (masks f))) → Q (.ref p) H'
def spOne : Sp := fun vs H Q _ => ∃ (f : Fm) (k d : Nat), vs = [nI k, nI d, nI (Sq.sg f k d), nI (Sq.sj f k d)] ∧ ∀ p, H p = none → Q (.ref p) (upd H p (.tup (sgT (Sq.sgnOf f k d))))
def spSigns : Sp := fun vs H Q _ => ∃ (f : Fm) (rt dn : Addr), vs = [nI f.n, .ref rt, .ref dn] ∧ H rt = some (.lst (nIs f.right)) ∧ H dn = some (.lst (nIs f.down)) ∧ Sq.Lens f ∧ f.n ≤ 9 ∧
  ∀ p as H', Same H H' → H p = none → H' p = some (.lst (as.map V.ref)) → Sgs H' as (Sq.signs f) → (∀ a ∈ as, H a = none) → Q (.ref p) H'
section
variable {P : Program} {w : World} {K : PySem.W.Frag} {mg : Str → Option Value} {base : Heap} {c : Cs}
theorem reg_get {f : Fm} (L : Sq.Lens f) {k : Nat} (h : k < cells f) : f.region[k]? = some (Kgi1.regionOf f k) := by
  unfold Kgi1.regionOf
  have hk : k < f.region.length := by rw [L.reg]; exact h
  rw [List.getD_eq_getElem?_getD, List.getElem?_eq_getElem hk]; rfl
theorem reg_has {f : Fm} {k : Nat} (h : k < cells f) (e : Kgi1.regionOf f k ≠ 255) : Kgi1.hasRegions f = true := by
  unfold Kgi1.hasRegions
  exact List.any_eq_true.mpr ⟨k, List.mem_range.mpr h, by simpa using e⟩
theorem rep_tabs (n : Nat) (p : Nat → Nat) (c : Nat → Bool) : (List.replicate n [V.int 0]).flatten = nIs (Sq.tabs n p c 0) := by rw [rep_zero, Sq.tabs_zero]
theorem scUnits : FnScope ["n", "regions", "rows", "columns", "areas", "k"] ["n", "regions"] (defScope sUnits) := ⟨rfl, rfl, rfl, by decide +kernel, rfl, by decide +kernel, by decide +kernel⟩
theorem ok_units {f : Addr} {fd : FuncData} (F : Fun K "units_of_frame" "units_of_frame" sUnits f fd) (cN : CI mg "NO_REGION" 255) (nr : mg "range" = none) : FnOk P w K mg base CX0 1 f fd ["n", "regions"] (spUnits c) := by
  refine F.ok scUnits (fun vs H Q E h => ?_) (fun cdv A outer s H vs Q E hr h => ?_)
  · obtain ⟨fr, rg, rfl, _⟩ := h; rfl
  · obtain ⟨fr, rg, rfl, hrg, R, L, q⟩ := h
    have hlo := R.lo
    have hhi := R.hi
    have h81 := cells81 hhi
    have zero : ∀ (i : Nat) (e : Expr) , True := fun _ _ => trivial
    refine ⟨_, pss_cons (ps_set (i := 2) scUnits.nd rfl (Or.inl rfl) (pe_op op_rep (pe_lst (pa_cons pe_int pa_nil)) (pv 0))) (pss_cons (ps_set (i := 3) scUnits.nd rfl (Or.inl rfl) (pe_op op_rep (pe_lst (pa_cons pe_int pa_nil)) (pv 0)))
      (pss_cons (ps_set (i := 4) scUnits.nd rfl (Or.inl rfl) (pe_op op_rep (pe_lst (pa_cons pe_int pa_nil)) (pv 0)))
      (pss_cons (ps_for PassesOwn.never rfl (pi_range1 rfl nr (pa_cons (pe_op on_mul (pv 0) (pv 0)) pa_nil)) (pg_name (i := 5) scUnits.nd rfl (Or.inl rfl))
        (pss_cons (ps_augS (pv 2) (pe_op on_div (pv 5) (pv 0)) get_list (pe_op on_shl (pe_nat 1) (pv 5)) in_or set_list)
        (pss_cons (ps_augS (pv 3) (pe_op on_mod (pv 5) (pv 0)) get_list (pe_op on_shl (pe_nat 1) (pv 5)) in_or set_list)
        (pss_one (ps_if (pt_cmpR on_ne (pe_ix ix_list (pv 1) (pv 5) (fun _ _ => rfl)) (pe_num cN rfl) (nomark _)) (pss_one (ps_augS (pv 4) (pe_ix ix_list (pv 1) (pv 5) (fun _ _ => rfl)) get_list (pe_op on_shl (pe_nat 1) (pv 5)) in_or set_list)) pss_nil)))))
      (pss_cons (ps_if (pt_cmpR on_eq (pe_ix ix_list (pv 4) pe_int (fun _ _ => rfl)) (pe_nat 0) (nomark _)) (pss_one (ps_ret (pe_op op_cat (pv 2) (pv 3)))) pss_nil)
      (pss_one (ps_ret (pe_op op_cat (pe_op op_cat (pv 2) (pv 3)) (pv 4)))))))), ?_⟩
    have small : [V.int 0].length * ((fr.n : Int)).toNat ≤ sizeLine := by rw [Int.toNat_natCast]; exact Nat.le_trans (show 1 * fr.n ≤ 100 by omega) (by decide)
    -- the three tables
    refine ⟨(by show 1 ≤ sizeLine; decide), fun l1 hl1 => ⟨_, rfl, l1, _, _, rfl, rfl, upd_same, by omega, by omega, small, fun r hr0 => ?_⟩⟩
    rw [Int.toNat_natCast, rep_tabs fr.n (· / fr.n) Sq.yes]
    refine ⟨(by show 1 ≤ sizeLine; decide), fun l2 hl2 => ⟨_, rfl, l2, _, _, rfl, rfl, upd_same, by omega, by omega, small, fun cl hcl => ?_⟩⟩
    rw [Int.toNat_natCast, rep_tabs fr.n (· % fr.n) Sq.yes]
    refine ⟨(by show 1 ≤ sizeLine; decide), fun l3 hl3 => ⟨_, rfl, l3, _, _, rfl, rfl, upd_same, by omega, by omega, small, fun ar har => ?_⟩⟩
    rw [Int.toNat_natCast, rep_tabs fr.n (Kgi1.regionOf fr) (Sq.isReg fr)]
    generalize hH1 : upd (upd H l1 (.lst [V.int 0])) r (.lst (nIs (Sq.tabs fr.n (· / fr.n) Sq.yes 0))) = H1 at *
    have sa1 : Same H H1 := by rw [← hH1]; exact (same_new hl1).trans (same_new hr0)
    have er1 : H1 r = some (.lst (nIs (Sq.tabs fr.n (· / fr.n) Sq.yes 0))) := by rw [← hH1]; exact upd_same
    have hrH : H r = none := (same_new (o := .lst [V.int 0]) hl1).free hr0
    generalize hH2 : upd (upd H1 l2 (.lst [V.int 0])) cl (.lst (nIs (Sq.tabs fr.n (· % fr.n) Sq.yes 0))) = H2 at *
    have sa2 : Same H1 H2 := by rw [← hH2]; exact (same_new hl2).trans (same_new hcl)
    have ec2 : H2 cl = some (.lst (nIs (Sq.tabs fr.n (· % fr.n) Sq.yes 0))) := by rw [← hH2]; exact upd_same
    have hcH1 : H1 cl = none := (same_new (o := .lst [V.int 0]) hl2).free hcl
    generalize hH3 : upd (upd H2 l3 (.lst [V.int 0])) ar (.lst (nIs (Sq.tabs fr.n (Kgi1.regionOf fr) (Sq.isReg fr) 0))) = H3 at *
    have sa3 : Same H2 H3 := by rw [← hH3]; exact (same_new hl3).trans (same_new har)
    have ea3 : H3 ar = some (.lst (nIs (Sq.tabs fr.n (Kgi1.regionOf fr) (Sq.isReg fr) 0))) := by rw [← hH3]; exact upd_same
    have haH2 : H2 ar = none := (same_new (o := .lst [V.int 0]) hl3).free har
    have nrc : r ≠ cl := ne_of_none er1 hcH1
    have nra : r ≠ ar := ne_of_none (sa2 _ _ er1) haH2
    have nca : cl ≠ ar := ne_of_none ec2 haH2
    have hcH : H cl = none := sa1.free hcH1
    have haH : H ar = none := sa1.free (sa2.free haH2)
    refine ⟨_, rfl, _, rfl, _, _, rfl, rfl, by omega, ((fr.n * fr.n : Nat) : Int), rfl, by omega, ?_, ?_⟩
    · have : fr.n * fr.n ≤ 81 := h81
      omega
    rw [Int.toNat_natCast]
    refine for_range (n := fr.n * fr.n) (fun i σ H' => (∃ v5, σ = [some (nI fr.n), some (.ref rg), some (.ref r), some (.ref cl), some (.ref ar), v5]) ∧ Same H H' ∧ H' r = some (.lst (nIs (Sq.tabs fr.n (· / fr.n) Sq.yes i))) ∧ H' cl = some (.lst (nIs (Sq.tabs fr.n (· % fr.n) Sq.yes i))) ∧
      H' ar = some (.lst (nIs (Sq.tabs fr.n (Kgi1.regionOf fr) (Sq.isReg fr) i)))) ⟨⟨none, rfl⟩, (sa1.trans sa2).trans sa3, sa3 _ _ (sa2 _ _ er1), sa3 _ _ ec2, ea3⟩ ?_ ?_
    · rintro i σ H' hi ⟨⟨v5, rfl⟩, sm, e1, e2, e3⟩
      have ei : V.int (0 + (i : Int)) = nI i := by congr 1; omega
      rw [ei]
      have hi' : i < cells fr := hi
      have hi6 : i < 1000000 := by omega
      have hd : i / fr.n < fr.n := Nat.div_lt_of_lt_mul hi
      have hm : i % fr.n < fr.n := Nat.mod_lt _ (by omega)
      refine ⟨_, rfl, _, rfl, _, rfl, _, _, rfl, rfl, ⟨by omega, by omega⟩, r, _, _, _, rfl, rfl, SqL.of e1, ints_at (Sq.tabs_at hd), _, rfl, 1, _, rfl, rfl, ⟨by decide, hi6⟩, _, _, rfl, rfl, r, _, _, i / fr.n, rfl, rfl, e1, ixN_nat (by rw [ints_len, Sq.tabs_len]; exact hd), ?_⟩
      rw [ints_set, Nat.one_mul, Sq.tabs_yes (p := (· / fr.n)) (c := Sq.yes) hd rfl]
      refine ⟨_, rfl, _, rfl, _, rfl, _, _, rfl, rfl, by omega, cl, _, _, _, rfl, rfl, SqL.of (by rw [upd_ne nrc.symm]; exact e2), ints_at (Sq.tabs_at hm), _, rfl, 1, _, rfl, rfl, ⟨by decide, hi6⟩, _, _, rfl, rfl, cl, _, _, i % fr.n, rfl, rfl, (by rw [upd_ne nrc.symm]; exact e2), ixN_nat (by rw [ints_len, Sq.tabs_len]; exact hm), ?_⟩
      rw [ints_set, Nat.one_mul, Sq.tabs_yes (p := (· % fr.n)) (c := Sq.yes) hm rfl]
      have nrg : ∀ {x}, H x = none → rg ≠ x := fun h => ne_of_none hrg h
      have erg : ∀ y1 y2, (upd (upd H' r y1) cl y2) rg = some (.lst (nIs fr.region)) := fun y1 y2 => by rw [upd_ne (nrg hcH), upd_ne (nrg hrH)]; exact sm _ _ hrg
      have smH : ∀ y1 y2, Same H (upd (upd H' r y1) cl y2) := fun y1 y2 b o e => by rw [upd_ne (ne_of_none e hcH), upd_ne (ne_of_none e hrH)]; exact sm _ _ e
      refine ⟨_, rfl, _, rfl, rg, _, _, _, rfl, rfl, SqL.of (erg _ _), ints_at (reg_get L hi'), _, 255, rfl, rfl, _, rfl, iteB (fun cc => ?_) (fun cc => ?_)⟩
      · have hne : Kgi1.regionOf fr i ≠ 255 := by simpa using cc
        have hlt := R.reg (reg_has hi' hne) i hi'
        have hyes : Sq.isReg fr i = true := by unfold Sq.isReg; simpa using hne
        refine ⟨_, rfl, _, rfl, _, rfl, rg, _, _, _, rfl, rfl, SqL.of (erg _ _), ints_at (reg_get L hi'), ar, _, _, _, rfl, rfl, SqL.of (by rw [upd_ne nca.symm, upd_ne nra.symm]; exact e3), ints_at (Sq.tabs_at hlt), _, rfl, 1, _, rfl, rfl, ⟨by decide, hi6⟩, _, _, rfl, rfl, ar, _, _, Kgi1.regionOf fr i, rfl, rfl,
          (by rw [upd_ne nca.symm, upd_ne nra.symm]; exact e3), ixN_nat (by rw [ints_len, Sq.tabs_len]; exact hlt), ?_⟩
        rw [ints_set, Nat.one_mul, Sq.tabs_yes (p := Kgi1.regionOf fr) (c := Sq.isReg fr) hlt hyes]
        refine ⟨⟨_, rfl⟩, fun b o e => ?_, ?_, ?_, upd_same⟩
        · rw [upd_ne (ne_of_none e haH)]; exact smH _ _ _ _ e
        · rw [upd_ne nra, upd_ne nrc]; exact upd_same
        · rw [upd_ne nca]; exact upd_same
      · have hno : Sq.isReg fr i = false := by
          have : Kgi1.regionOf fr i = 255 := by simpa using cc
          unfold Sq.isReg; rw [this]; rfl
        refine ⟨⟨_, rfl⟩, smH _ _, ?_, ?_, ?_⟩
        · rw [upd_ne nrc]; exact upd_same
        · exact upd_same
        · rw [upd_ne nca.symm, upd_ne nra.symm, Sq.tabs_no hno]; exact e3
    · rintro σ H' ⟨⟨v5, rfl⟩, sm, e1, e2, e3⟩
      have e1 : H' r = some (.lst (nIs (Sq.tabs fr.n (· / fr.n) Sq.yes (cells fr)))) := e1
      have e2 : H' cl = some (.lst (nIs (Sq.tabs fr.n (· % fr.n) Sq.yes (cells fr)))) := e2
      have e3 : H' ar = some (.lst (nIs (Sq.tabs fr.n (Kgi1.regionOf fr) (Sq.isReg fr) (cells fr)))) := e3
      have len : ∀ (p : Nat → Nat) (c : Nat → Bool), (nIs (Sq.tabs fr.n p c (cells fr))).length = fr.n := fun p c => by rw [ints_len, Sq.tabs_len]
      have hz : (0 : Nat) < fr.n := by omega
      refine ⟨_, rfl, ar, _, _, _, rfl, rfl, SqL.of e3, ints_at (i := 0) (Sq.tabs_at hz), _, 0, rfl, rfl, _, rfl, iteB (fun cc => ?_) (fun cc => ?_)⟩
      · have hno := (Sq.areas_zero R).mp (of_decide_eq_true cc)
        refine ⟨_, rfl, _, rfl, r, cl, _, _, rfl, rfl, e1, e2, ?_, fun p hp => ?_⟩
        · rw [len, len]; exact Nat.le_trans (show fr.n + fr.n ≤ 100 by omega) (by decide)
        rw [ints_app, Sq.masks_no hno]
        exact q p _ (sm.trans (same_new hp)) (sm.free hp) upd_same
      · have hyes : Kgi1.hasRegions fr = true := by
          cases hh : Kgi1.hasRegions fr with
          | true => rfl
          | false => exact (of_decide_eq_false cc ((Sq.areas_zero R).mpr hh)).elim
        refine ⟨_, rfl, _, rfl, r, cl, _, _, rfl, rfl, e1, e2, ?_, fun p hp => ?_⟩
        · rw [len, len]; exact Nat.le_trans (show fr.n + fr.n ≤ 100 by omega) (by decide)
        have nap : ar ≠ p := ne_of_none e3 hp
        refine ⟨_, rfl, p, ar, _, _, rfl, rfl, upd_same, (by rw [upd_ne nap]; exact e3), ?_, fun p2 hp2 => ?_⟩
        · rw [List.length_append, len, len, len]; exact Nat.le_trans (show fr.n + fr.n + fr.n ≤ 100 by omega) (by decide)
        rw [ints_app, ints_app, Sq.masks_yes R hyes]
        have s5 : Same H' (upd H' p (.lst (nIs (Sq.tabs fr.n (· / fr.n) Sq.yes (cells fr) ++ Sq.tabs fr.n (· % fr.n) Sq.yes (cells fr))))) := same_new hp
        rw [ints_app] at hp2
        exact q p2 _ ((sm.trans s5).trans (same_new hp2)) (sm.free (s5.free hp2)) upd_same
end
end Py
namespace Py
open PySem PySem.Spec PyProof.Rows L2
open Kgi1 (cells)
open Kgi2 (at_ has unit)
open Sq (Wf Rt sub nU mask masks plT)
abbrev sUnitsWith : Stmt := inClass (top 27) 1
abbrev sPeersOf : Stmt := inClass (top 27) 2
abbrev sSignsWith : Stmt := inClass (top 27) 3
abbrev sCellsOf : Stmt := inClass (top 27) 4
theorem pg_tupB {X : Cx} (K : PySem.W.Frag) {pos : Pos} {es : List Expr} {k : Nat} {t : TGs} {n : Nat} (hc : X.calm = true) (h : PGs X es t) (hK : X.K = K := by rfl)
    (hn : (assignEach es X.env).length = n := by rfl) (hst : (assignEach es X.env).findIdx? (·.1) = none := by rfl) : PG X (.Tuple es k pos) (gTup K n t) := by subst hK; exact pg_tup hc h hn hst
theorem Sgs.same {H H' : Hp} (s : Same H H') {as : List Addr} {l : List Sq.Sgn} (h : Sgs H as l) : Sgs H' as l := Ats.imp (fun a g e => s a _ e) h
section
variable {P : Program} {w : World} {K : PySem.W.Frag} {mg : Str → Option Value} {base : Heap} {c : Cs}
theorem scOne : FnScope ["k", "direction", "sign", "neighbour"] ["k", "direction", "sign", "neighbour"] (defScope sOne) := ⟨rfl, rfl, rfl, by decide +kernel, rfl, by decide +kernel, by decide +kernel⟩
theorem ok_one {f : Addr} {fd : FuncData} (F : Fun K "one_sign" "one_sign" sOne f fd) (cL : CI mg "LESS" 1) : FnOk P w K mg base CX0 1 f fd ["k", "direction", "sign", "neighbour"] spOne := by
  refine F.ok scOne (fun vs H Q E h => ?_) (fun cdv A outer s H vs Q E hr h => ?_)
  · obtain ⟨fr, k, d, rfl, _⟩ := h; rfl
  · obtain ⟨fr, k, d, rfl, q⟩ := h
    refine ⟨_, pss_cons (ps_if (pt_cmpR on_eq (pv 2) (pe_num cL rfl) (nomark _)) (pss_one (ps_ret (pe_tup (pa_cons (pv 0) (pa_cons (pv 1) (pa_cons (pv 0) (pa_cons (pv 3) pa_nil))))))) pss_nil)
      (pss_one (ps_ret (pe_tup (pa_cons (pv 0) (pa_cons (pv 1) (pa_cons (pv 3) (pa_cons (pv 0) pa_nil))))))), ?_⟩
    refine ⟨_, rfl, _, 1, rfl, rfl, _, rfl, iteB (fun cc => ?_) (fun cc => ?_)⟩
    · have h1 := of_decide_eq_true cc
      refine ⟨_, rfl, _, rfl, _, rfl, _, rfl, (by show 4 ≤ sizeLine; decide), fun p hp => ?_⟩
      have e : sgT (Sq.sgnOf fr k d) = [nI k, nI d, nI k, nI (Sq.sj fr k d)] := by
        unfold sgT Sq.sgnOf Sq.sa Sq.sb
        rw [if_pos h1, if_pos h1]
      have := q p hp
      rw [e] at this; exact this
    · have h1 := of_decide_eq_false cc
      refine ⟨_, rfl, _, rfl, _, rfl, _, rfl, (by show 4 ≤ sizeLine; decide), fun p hp => ?_⟩
      have e : sgT (Sq.sgnOf fr k d) = [nI k, nI d, nI (Sq.sj fr k d), nI k] := by
        unfold sgT Sq.sgnOf Sq.sa Sq.sb
        rw [if_neg h1, if_neg h1]
      have := q p hp
      rw [e] at this; exact this
theorem scSigns : FnScope ["n", "right", "down", "signs", "k"] ["n", "right", "down"] (defScope sSigns) := ⟨rfl, rfl, rfl, by decide +kernel, rfl, by decide +kernel, by decide +kernel⟩
theorem ok_signs {f : Addr} {fd : FuncData} (F : Fun K "signs_of_frame" "signs_of_frame" sSigns f fd) (GO : GF P w K mg base 1 "one_sign" ["k", "direction", "sign", "neighbour"] spOne) (cR : CI mg "RIGHT" 0) (cD : CI mg "DOWN" 1) (nr : mg "range" = none) :
    FnOk P w K mg base CX0 2 f fd ["n", "right", "down"] spSigns := by
  refine F.ok scSigns (fun vs H Q E h => ?_) (fun cdv A outer s H vs Q E hr h => ?_)
  · obtain ⟨fr, rt, dn, rfl, _⟩ := h; rfl
  · obtain ⟨fr, rt, dn, rfl, hrt, hdn, L, h9, q⟩ := h
    have h81 := cells81 h9
    refine ⟨_, pss_cons (ps_set (i := 3) scSigns.nd rfl (Or.inl rfl) (pe_lst pa_nil))
      (pss_cons (ps_for PassesOwn.never rfl (pi_range1 rfl nr (pa_cons (pe_op on_mul (pv 0) (pv 0)) pa_nil)) (pg_name (i := 4) scSigns.nd rfl (Or.inl rfl))
        (pss_cons (ps_if (pt_cmpR on_ne (pe_ix ix_list (pv 1) (pv 4) (fun _ _ => rfl)) (pe_nat 0) (nomark _)) (pss_one (ps_expr (pe_bm PySem.F.plainAttrs_list PySem.F.slot_list_append PySem.F.type_list_append mt_append (pv 3)
            (pa_cons (pe_callG GO hr rfl (pa_cons (pv 4) (pa_cons (pe_num cR rfl) (pa_cons (pe_ix ix_list (pv 1) (pv 4) (fun _ _ => rfl)) (pa_cons (pe_op on_add (pv 4) (pe_nat 1)) pa_nil))))) pa_nil)))) pss_nil)
        (pss_one (ps_if (pt_cmpR on_ne (pe_ix ix_list (pv 2) (pv 4) (fun _ _ => rfl)) (pe_nat 0) (nomark _)) (pss_one (ps_expr (pe_bm PySem.F.plainAttrs_list PySem.F.slot_list_append PySem.F.type_list_append mt_append (pv 3)
            (pa_cons (pe_callG GO hr rfl (pa_cons (pv 4) (pa_cons (pe_num cD rfl) (pa_cons (pe_ix ix_list (pv 2) (pv 4) (fun _ _ => rfl)) (pa_cons (pe_op on_add (pv 4) (pv 0)) pa_nil))))) pa_nil)))) pss_nil))))
      (pss_one (ps_ret (pv 3)))), ?_⟩
    refine ⟨Nat.zero_le _, fun D hD => ?_⟩
    refine ⟨_, rfl, _, rfl, _, _, rfl, rfl, by omega, ((fr.n * fr.n : Nat) : Int), rfl, by omega, ?_, ?_⟩
    · have : fr.n * fr.n ≤ 81 := h81
      omega
    rw [Int.toNat_natCast]
    refine for_range (n := fr.n * fr.n) (fun i σ H' => (∃ v4, σ = [some (nI fr.n), some (.ref rt), some (.ref dn), some (.ref D), v4]) ∧ Same H H' ∧ ∃ as, H' D = some (.lst (as.map V.ref)) ∧ Sgs H' as (Sq.signsUp fr i) ∧ ∀ a ∈ as, H a = none) ⟨⟨none, rfl⟩, same_new hD, [], upd_same, trivial, by simp⟩ ?_ ?_
    · rintro i σ H' hi ⟨⟨v4, rfl⟩, sm, as, hD', tu, nw⟩
      have ei : V.int (0 + (i : Int)) = nI i := by congr 1; omega
      rw [ei]
      have gr := ints_at (getD_get L.rt hi)
      have gd := ints_at (getD_get L.dn hi)
      have hi81 : i < 81 := Nat.lt_of_lt_of_le hi h81
      -- the second half: down
      have half : ∀ (H2 : Hp) (bs : List Addr), Same H H2 → H2 D = some (.lst (bs.map V.ref)) → Sgs H2 bs (Sq.signsUp fr i ++ Sq.sgR fr i) → (∀ a ∈ bs, H a = none) →
          tIfS (tTest (tOp rNeN (tOp (rIxL K) (tVar 2) (tVar 4)) (tC (nI 0)))) (tDrop (tBM K "list" rAppend (tVar 3) (tCons (tCall spOne [] E0 (tCons (tVar 4) (tCons (tC (.int 1)) (tCons (tOp (rIxL K) (tVar 2) (tVar 4)) (tCons (tOp rAddN (tVar 4) (tVar 0)) tNil))))) tNil))) tNext
            { nx := fun σ H' => (∃ v4, σ = [some (nI fr.n), some (.ref rt), some (.ref dn), some (.ref D), v4]) ∧ Same H H' ∧ ∃ as, H' D = some (.lst (as.map V.ref)) ∧ Sgs H' as (Sq.signsUp fr (i + 1)) ∧ ∀ a ∈ as, H a = none, rt := Q }
            [some (nI fr.n), some (.ref rt), some (.ref dn), some (.ref D), some (nI i)] H2 := fun H2 bs s2 e2 t2 w2 => by
        refine ⟨_, rfl, _, rfl, dn, _, _, _, rfl, rfl, SqL.of (s2 _ _ hdn), gd, _, 0, rfl, rfl, _, rfl, iteB (fun cc => ?_) (fun cc => ?_)⟩
        · have hne : fr.down.getD i 0 ≠ 0 := by simpa using cc
          have e' : Sq.sgD fr i = [Sq.sgnOf fr i 1] := by unfold Sq.sgD; rw [if_neg hne]
          refine ⟨_, rfl, .inl ⟨rfl, _, SqL.of e2⟩, _, rfl, _, rfl, _, rfl, dn, _, _, _, rfl, rfl, SqL.of (s2 _ _ hdn), gd, _, rfl, _, rfl, _, _, rfl, rfl, fr, i, 1, rfl, fun p hp => ?_⟩
          have nDp : D ≠ p := ne_of_none e2 hp
          refine ⟨D, _, _, rfl, rfl, by rw [upd_ne nDp]; exact e2, ?_, ⟨_, rfl⟩, fun b o e => ?_, bs ++ [p], ?_, ?_, ?_⟩
          · rw [List.length_map, Ats.len t2, List.length_append]
            have h1 := Sq.signsUp_len fr i
            have h2 : (Sq.sgR fr i).length ≤ 1 := by unfold Sq.sgR; split <;> simp
            exact small1000 (by omega)
          · rw [upd_ne (ne_of_none e hD), upd_ne (ne_of_none (s2 _ _ e) hp)]; exact s2 _ _ e
          · rw [upd_same, List.map_append]; rfl
          · rw [Sq.signsUp_succ, e']
            refine Ats.snoc (Ats.imp (fun x g e => ?_) t2) ?_
            · rw [upd_ne (ne_of e e2 (by intro z; cases z)), upd_ne (ne_of_none e hp)]; exact e
            · rw [upd_ne nDp.symm]; exact upd_same
          · intro a ha
            rcases List.mem_append.mp ha with z | z
            · exact w2 a z
            · rw [List.mem_singleton.mp z]; exact s2.free hp
        · have hz : fr.down.getD i 0 = 0 := by simpa using cc
          have e' : Sq.sgD fr i = [] := by unfold Sq.sgD; rw [if_pos hz]
          refine ⟨⟨_, rfl⟩, s2, bs, e2, ?_, w2⟩
          rw [Sq.signsUp_succ, e', List.append_nil]; exact t2
      refine ⟨_, rfl, _, rfl, rt, _, _, _, rfl, rfl, SqL.of (sm _ _ hrt), gr, _, 0, rfl, rfl, _, rfl, iteB (fun cc => ?_) (fun cc => ?_)⟩
      · have hne : fr.right.getD i 0 ≠ 0 := by simpa using cc
        have e' : Sq.sgR fr i = [Sq.sgnOf fr i 0] := by unfold Sq.sgR; rw [if_neg hne]
        refine ⟨_, rfl, .inl ⟨rfl, _, SqL.of hD'⟩, _, rfl, _, rfl, _, rfl, rt, _, _, _, rfl, rfl, SqL.of (sm _ _ hrt), gr, _, rfl, _, 1, rfl, rfl, fr, i, 0, rfl, fun p hp => ?_⟩
        have nDp : D ≠ p := ne_of_none hD' hp
        refine ⟨D, _, _, rfl, rfl, by rw [upd_ne nDp]; exact hD', ?_, half _ (as ++ [p]) (fun b o e => ?_) ?_ ?_ ?_⟩
        · rw [List.length_map, Ats.len tu]
          have h1 := Sq.signsUp_len fr i
          exact small1000 (by omega)
        · rw [upd_ne (ne_of_none e hD), upd_ne (ne_of_none (sm _ _ e) hp)]; exact sm _ _ e
        · rw [upd_same, List.map_append]; rfl
        · rw [e']
          refine Ats.snoc (Ats.imp (fun x g e => ?_) tu) ?_
          · rw [upd_ne (ne_of e hD' (by intro z; cases z)), upd_ne (ne_of_none e hp)]; exact e
          · rw [upd_ne nDp.symm]; exact upd_same
        · intro a ha
          rcases List.mem_append.mp ha with z | z
          · exact nw a z
          · rw [List.mem_singleton.mp z]; exact sm.free hp
      · have hz : fr.right.getD i 0 = 0 := by simpa using cc
        have e' : Sq.sgR fr i = [] := by unfold Sq.sgR; rw [if_pos hz]
        exact half H' as sm hD' (by rw [e', List.append_nil]; exact tu) nw
    · rintro σ H' ⟨⟨v4, rfl⟩, sm, as, hD', tu, nw⟩
      exact ⟨_, rfl, q D as H' sm hD hD' tu nw⟩
def spUnitsWith (c : Cs) : Sp := fun vs H Q _ => ∃ (p dx u : Addr) (fs : List (Str × V)) (f : Fm) (k : Nat), vs = [.ref p, nI k] ∧ H p = some (.ins c.F dx fs) ∧ fs.lookup ("units" : Str) = some (V.ref u) ∧ H u = some (.lst (nIs (masks f))) ∧ f.n ≤ 9 ∧
  ∀ q H', H q = none → Same H H' → H' q = some (.lst (nIs (Sq.unitsOf f k))) → Q (.ref q) H'
theorem bit_at (m k : Nat) : decide (m / 2 ^ k &&& 1 ≠ 0) = m.testBit k := by
  rw [Nat.and_one_is_mod, Nat.testBit_eq_decide_div_mod_eq, Bool.eq_iff_iff, decide_eq_true_iff, decide_eq_true_iff]
  omega
theorem nU27 {f : Fm} (h : f.n ≤ 9) : nU f ≤ 27 := by rw [Sq.nU_eq]; split <;> omega
theorem scUnitsWith : FnScope ["self", "k", "u", "unit"] ["self", "k"] (defScope sUnitsWith) := ⟨rfl, rfl, rfl, by decide +kernel, rfl, by decide +kernel, by decide +kernel⟩
theorem ok_unitsWith {f : Addr} {fd : FuncData} (F : Fun K "units_with" "Frame.units_with" sUnitsWith f fd) (T : Txt K c) (ne : mg "enumerate" = none) : FnOk P w K mg base CX0 1 f fd ["self", "k"] (spUnitsWith c) := by
  refine F.ok scUnitsWith (fun vs H Q E h => ?_) (fun cdv A outer s H vs Q E hr h => ?_)
  · obtain ⟨p, dx, u, fs, fr, k, rfl, _⟩ := h; rfl
  · obtain ⟨p, dx, u, fs, fr, k, rfl, hp, lk, hu, h9, q⟩ := h
    have h27 := nU27 h9
    refine ⟨_, pss_one (ps_ret (pe_lc (own := [("u", 2), ("unit", 3)]) rfl scUnitsWith.nd (pi_enum rfl ne (pa_cons (pe_fld (pv 0) rfl) pa_nil)) (blkOk_by (N := ["self", "k", "u", "unit"]) (sc := defScope sUnitsWith) (by decide +kernel))
      (fun _ _ _ _ _ => pg_tupB (n := 2) K rfl (pgs_cons (pg_name (i := 2) scUnitsWith.nd rfl (Or.inl rfl)) (pgs_cons (pg_name (i := 3) scUnitsWith.nd rfl (Or.inl rfl)) pgs_nil)))
      (fun _ _ _ _ _ => pts_one (pt_nat (pe_op on_and (pe_op on_shr (pv 3) (pv 1)) (pe_nat 1)) (fun _ => rfl))) (fun _ _ _ _ _ => pv 2))), ?_⟩
    refine ⟨_, rfl, p, c.F, dx, fs, _, rfl, hp, T.clF, T.fUnits, lk, u, _, rfl, SqL.of hu, fun D hD => ?_⟩
    refine lc_enum (K := K) (a := u) (xs := nIs (masks fr)) (fun i H' => Same H H' ∧ H' D = some (.lst (nIs ((List.range i).filter fun x => (mask fr x).testBit k)))) ⟨same_new hD, upd_same⟩ (fun i H' _ ⟨sm, _⟩ => SqL.of (sm _ _ hu)) (fun i x => rfl) ?_ ?_
    · rintro i y H' t hy ⟨sm, hD'⟩ ht
      obtain ⟨m, hm, rfl⟩ := of_ints hy
      have hi : i < nU fr := by have := (List.getElem?_eq_some_iff.mp hm).1; rw [Sq.masks_len] at this; exact this
      rw [Sq.masks_at hi] at hm
      cases hm
      have s2 := sm.trans (same_new (o := .tup [nI i, nI (mask fr i)]) ht)
      have hD2 : (upd H' t (.tup [nI i, nI (mask fr i)])) D = some (.lst (nIs ((List.range i).filter fun x => (mask fr x).testBit k))) := by rw [upd_ne (ne_of_none hD' ht)]; exact hD'
      refine ⟨_, rfl, _, rfl, _, _, rfl, rfl, _, 1, rfl, rfl, _, rfl, iteB (fun cc => ?_) (fun cc => ?_)⟩
      · rw [bit_at] at cc
        refine ⟨_, rfl, _, hD2, ?_, fun b o e => ?_, ?_⟩
        · rw [ints_len]
          have : ((List.range i).filter fun x => (mask fr x).testBit k).length ≤ i := Nat.le_trans (List.length_filter_le _ _) (by simp)
          exact small1000 (by omega)
        · rw [upd_ne (ne_of_none e hD)]; exact s2 _ _ e
        · rw [upd_same, ints_snoc, List.range_succ, List.filter_append]
          simp [cc]
      · rw [bit_at] at cc
        refine ⟨s2, ?_⟩
        rw [hD2, List.range_succ, List.filter_append]
        simp [cc]
    · rintro H' ⟨sm, hD'⟩
      rw [ints_len, Sq.masks_len] at hD'
      exact q D H' hD sm hD'
def spPeers (c : Cs) : Sp := fun vs H Q _ => ∃ (p dx u uo a : Addr) (uos : List Addr) (fs : List (Str × V)) (f : Fm) (k : Nat), vs = [.ref p, nI k] ∧ H p = some (.ins c.F dx fs) ∧ fs.lookup ("units" : Str) = some (V.ref u) ∧ fs.lookup ("units_of" : Str) = some (V.ref uo) ∧ H u = some (.lst (nIs (masks f))) ∧
  H uo = some (.lst (uos.map V.ref)) ∧ uos[k]? = some a ∧ H a = some (.lst (nIs (Sq.unitsOf f k))) ∧ k < 1000 ∧ Q (nI (Sq.peers f k)) H
theorem scPeers : FnScope ["self", "k", "found", "u"] ["self", "k"] (defScope sPeersOf) := ⟨rfl, rfl, rfl, by decide +kernel, rfl, by decide +kernel, by decide +kernel⟩
theorem ok_peers {f : Addr} {fd : FuncData} (F : Fun K "peers_of" "Frame.peers_of" sPeersOf f fd) (T : Txt K c) : FnOk P w K mg base CX0 1 f fd ["self", "k"] (spPeers c) := by
  refine F.ok scPeers (fun vs H Q E h => ?_) (fun cdv A outer s H vs Q E hr h => ?_)
  · obtain ⟨p, dx, u, uo, a, uos, fs, fr, k, rfl, _⟩ := h; rfl
  · obtain ⟨p, dx, u, uo, a, uos, fs, fr, k, rfl, hp, l1, l2, hu, huo, hk, ha, hk9, q⟩ := h
    refine ⟨_, pss_cons (ps_set (i := 2) scPeers.nd rfl (Or.inl rfl) (pe_nat 0)) (pss_cons (ps_for PassesOwn.never rfl (pi_list (pe_ix ix_list (pe_fld (pv 0) rfl) (pv 1) (fun _ _ => rfl))) (pg_name (i := 3) scPeers.nd rfl (Or.inl rfl))
        (pss_one (ps_aug (i := 2) scPeers.nd rfl (Or.inl rfl) (pe_ix ix_list (pe_fld (pv 0) rfl) (pv 3) (fun _ _ => rfl)) in_or)))
      (pss_one (ps_ret (pe_op on_andNot (pv 2) (pe_un un_inv (pe_op on_shl (pe_nat 1) (pv 1))))))), ?_⟩
    refine ⟨_, rfl, p, c.F, dx, fs, _, rfl, hp, T.clF, T.fUnitsOf, l2, _, rfl, uo, _, _, _, rfl, rfl, SqL.of huo, atI_nat (refs_get hk), a, rfl, ⟨_, SqL.of ha⟩, ?_⟩
    refine for_list (K := K) (a := a) (xs := nIs (Sq.unitsOf fr k)) (fun i σ H' => (∃ v3, σ = [some (.ref p), some (nI k), some (nI (((Sq.unitsOf fr k).take i).foldl (fun m u => m ||| mask fr u) 0)), v3]) ∧ H = H') ⟨⟨none, rfl⟩, rfl⟩ (fun i σ H' _ ⟨_, e⟩ => by rw [← e]; exact SqL.of ha) ?_ ?_
    · rintro i y σ H' hy ⟨⟨v3, rfl⟩, rfl⟩
      obtain ⟨x, hx, rfl⟩ := of_ints hy
      have hxu := (Sq.mem_unitsOf.mp (List.mem_of_getElem? hx)).1
      refine ⟨_, rfl, _, rfl, p, c.F, dx, fs, _, rfl, hp, T.clF, T.fUnits, l1, _, rfl, u, _, _, _, rfl, rfl, SqL.of hu, ints_at (Sq.masks_at hxu), _, _, rfl, rfl, ⟨some (nI x), ?_⟩, rfl⟩
      rw [Sq.take_snoc hx, List.foldl_append]; rfl
    · rintro σ H' ⟨⟨v3, rfl⟩, rfl⟩
      refine ⟨_, rfl, _, rfl, 1, _, rfl, rfl, ⟨by decide, by omega⟩, _, rfl, _, _, rfl, rfl, ?_⟩
      rw [ints_len, List.take_length, Nat.one_mul]
      exact q
def spSignsWith (c : Cs) : Sp := fun vs H Q _ => ∃ (p dx sg : Addr) (sgs : List Addr) (fs : List (Str × V)) (f : Fm) (k : Nat), vs = [.ref p, nI k] ∧ H p = some (.ins c.F dx fs) ∧ fs.lookup ("signs" : Str) = some (V.ref sg) ∧ H sg = some (.lst (sgs.map V.ref)) ∧ Sgs H sgs (Sq.signs f) ∧ f.n ≤ 9 ∧
  ∀ q bs H', H q = none → Same H H' → H' q = some (.lst (bs.map V.ref)) → Sgs H' bs (Sq.signsAt f k) → (∀ b ∈ bs, b ∈ sgs) → Q (.ref q) H'
theorem signs_len {f : Fm} (h : f.n ≤ 9) : (Sq.signs f).length ≤ 162 := by
  have := Sq.signsUp_len f (cells f)
  rw [Sq.signsUp_all] at this
  have := cells81 h
  omega
theorem scSignsWith : FnScope ["self", "k", "sign"] ["self", "k"] (defScope sSignsWith) := ⟨rfl, rfl, rfl, by decide +kernel, rfl, by decide +kernel, by decide +kernel⟩
theorem inV_two (k a b : Nat) : inV (nI k) [nI a, nI b] = (k == a || k == b) := by
  show (((a : Int) == (k : Int)) || (((b : Int) == (k : Int)) || false)) = _
  rw [Bool.or_false, Bool.eq_iff_iff]
  simp only [Bool.or_eq_true, beq_iff_eq]
  omega
theorem ok_signsWith {f : Addr} {fd : FuncData} (F : Fun K "signs_with" "Frame.signs_with" sSignsWith f fd) (T : Txt K c) : FnOk P w K mg base CX0 1 f fd ["self", "k"] (spSignsWith c) := by
  refine F.ok scSignsWith (fun vs H Q E h => ?_) (fun cdv A outer s H vs Q E hr h => ?_)
  · obtain ⟨p, dx, sg, sgs, fs, fr, k, rfl, _⟩ := h; rfl
  · obtain ⟨p, dx, sg, sgs, fs, fr, k, rfl, hp, lk, hsg, tu, h9, q⟩ := h
    refine ⟨_, pss_one (ps_ret (pe_lc (own := [("sign", 2)]) rfl scSignsWith.nd (pi_list (pe_fld (pv 0) rfl)) (blkOk_by (N := ["self", "k", "sign"]) (sc := defScope sSignsWith) (by decide +kernel))
      (fun _ _ _ _ _ => pg_name (i := 2) scSignsWith.nd rfl (Or.inl rfl))
      (fun _ _ _ _ _ => pts_one (pt_cmpR (op_inB K) (pv 1) (pe_tup (pa_cons (pe_ix (ix_tupB K) (pv 2) pe_int (fun _ _ => rfl)) (pa_cons (pe_ix (ix_tupB K) (pv 2) pe_int (fun _ _ => rfl)) pa_nil))) (by with_unfolding_all rfl))) (fun _ _ _ _ _ => pv 2))), ?_⟩
    refine ⟨_, rfl, p, c.F, dx, fs, _, rfl, hp, T.clF, T.fSigns, lk, sg, rfl, ⟨_, SqL.of hsg⟩, fun D hD => ?_⟩
    refine lc_list (K := K) (a := sg) (xs := sgs.map V.ref) (fun i H' => Same H H' ∧ ∃ bs, H' D = some (.lst (bs.map V.ref)) ∧ Sgs H' bs (((Sq.signs fr).take i).filter fun g => k == g.a || k == g.b) ∧ ∀ b ∈ bs, b ∈ sgs) ⟨same_new hD, [], upd_same, trivial, by simp⟩ (fun i H' _ ⟨sm, _⟩ => SqL.of (sm _ _ hsg)) ?_ ?_
    · rintro i y H' hy ⟨sm, bs, hD', t2, w2⟩
      obtain ⟨a, ha, rfl⟩ := of_refs hy
      obtain ⟨g, hg, e⟩ := Ats.get tu ha
      have e' := sm _ _ e
      refine ⟨rfl, _, rfl, _, rfl, a, _, _, _, rfl, rfl, SqT.of e', sgT_at2 g, _, rfl, a, _, _, _, rfl, rfl, SqT.of e', sgT_at3 g, (by show 2 ≤ sizeLine; decide), fun t ht => ?_⟩
      have s2 := sm.trans (same_new (o := .tup [nI g.a, nI g.b]) ht)
      have hD2 : (upd H' t (.tup [nI g.a, nI g.b])) D = some (.lst (bs.map V.ref)) := by rw [upd_ne (ne_of_none hD' ht)]; exact hD'
      have t3 : Sgs (upd H' t (.tup [nI g.a, nI g.b])) bs (((Sq.signs fr).take i).filter fun g => k == g.a || k == g.b) := Sgs.same (same_new ht) t2
      refine ⟨t, _, rfl, .inr (SqT.of upd_same), rfl, rfl, _, rfl, iteB (fun cc => ?_) (fun cc => ?_)⟩
      · rw [if_neg (by decide), inV_two] at cc
        refine ⟨_, rfl, _, hD2, ?_, fun b o z => ?_, bs ++ [a], ?_, ?_, ?_⟩
        · rw [List.length_map, Ats.len t3]
          have h1 := signs_len h9
          have h2 : (((Sq.signs fr).take i).filter fun g => k == g.a || k == g.b).length ≤ (Sq.signs fr).length := Nat.le_trans (List.length_filter_le _ _) (by simp; omega)
          exact small1000 (by omega)
        · rw [upd_ne (ne_of_none z hD)]; exact s2 _ _ z
        · rw [upd_same, List.map_append]; rfl
        · rw [Sq.take_snoc hg, List.filter_append]
          have : [g].filter (fun g => k == g.a || k == g.b) = [g] := by rw [List.filter_cons, if_pos cc]; rfl
          rw [this]
          refine Ats.snoc (Ats.imp (fun x g z => ?_) t3) ?_
          · rw [upd_ne (ne_of z hD2 (by intro z; cases z))]; exact z
          · rw [upd_ne (ne_of (s2 _ _ e) hD2 (by intro z; cases z))]; exact s2 _ _ e
        · intro b hb
          rcases List.mem_append.mp hb with z | z
          · exact w2 b z
          · rw [List.mem_singleton.mp z]; exact List.mem_of_getElem? ha
      · rw [if_neg (by decide), inV_two] at cc
        refine ⟨s2, bs, hD2, ?_, w2⟩
        rw [Sq.take_snoc hg, List.filter_append]
        have : [g].filter (fun g => k == g.a || k == g.b) = [] := by rw [List.filter_cons, if_neg (by rw [cc]; simp)]; rfl
        rw [this, List.append_nil]; exact t3
    · rintro H' ⟨sm, bs, hD', t2, w2⟩
      rw [List.length_map, Ats.len tu, List.take_length] at t2
      exact q D bs H' hD sm hD' t2 w2
def spCellsOf (c : Cs) : Sp := fun vs H Q _ => ∃ (p dx u : Addr) (fs : List (Str × V)) (f : Fm) (x : Nat), vs = [.ref p, nI x] ∧ H p = some (.ins c.F dx fs) ∧ fs.lookup ("units" : Str) = some (V.ref u) ∧ H u = some (.lst (nIs (masks f))) ∧ Rt f ∧ x < nU f ∧
  ∀ q, H q = none → Q (.ref q) (upd H q (.lst (nIs (unit f x))))
theorem mask_lt {f : Fm} (R : Rt f) {u : Nat} (hu : u < nU f) : mask f u < 2 ^ 100 :=
  Nat.lt_of_lt_of_le (Sq.lt_pow_of (n := 81) fun i hi => by
    cases e : (mask f u).testBit i with
    | false => rfl
    | true =>
      have := Sq.unit_lt hu (Sq.tb_mask.mp e)
      have := cells81 R.hi
      omega) (by decide)
theorem scCellsOf : FnScope ["self", "u"] ["self", "u"] (defScope sCellsOf) := ⟨rfl, rfl, rfl, by decide +kernel, rfl, by decide +kernel, by decide +kernel⟩
theorem ok_cellsOf {f : Addr} {fd : FuncData} (F : Fun K "cells_of" "Frame.cells_of" sCellsOf f fd) (T : Txt K c) (GM : GF P w K mg base 2 "members" ["bits"] spMembers) : FnOk P w K mg base CX0 3 f fd ["self", "u"] (spCellsOf c) := by
  refine F.ok scCellsOf (fun vs H Q E h => ?_) (fun cdv A outer s H vs Q E hr h => ?_)
  · obtain ⟨p, dx, u, fs, fr, x, rfl, _⟩ := h; rfl
  · obtain ⟨p, dx, u, fs, fr, x, rfl, hp, lk, hu, R, hx, q⟩ := h
    refine ⟨_, pss_one (ps_ret (pe_callG GM hr rfl (pa_cons (pe_ix ix_list (pe_fld (pv 0) rfl) (pv 1) (fun _ _ => rfl)) pa_nil))), ?_⟩
    refine ⟨_, rfl, p, c.F, dx, fs, _, rfl, hp, T.clF, T.fUnits, lk, _, rfl, u, _, _, _, rfl, rfl, SqL.of hu, ints_at (Sq.masks_at hx), _, rfl, mask_lt R hx, fun r hr0 => ?_⟩
    rw [Sq.bits_mask R hx]
    exact q r hr0
end
end Py
namespace Py
open PySem PySem.Spec PyProof.Rows L2
open Kgi1 (cells)
open Kgi2 (at_ has unit)
open Sq (Wf Rt sub nU mask masks plT)
abbrev sFrame0 : Stmt := inClass (top 27) 0
def Nw (p : Addr) (H H' : Hp) : Prop := ∀ b o, H b = some o → b ≠ p → H' b = some o
theorem Nw.trans {p : Addr} {H H1 H2 : Hp} (a : Nw p H H1) (b : Nw p H1 H2) : Nw p H H2 := fun c o h n => b c o (a c o h n) n
theorem Nw.of {p : Addr} {H H1 : Hp} (s : Same H H1) (o : HO) : Nw p H (upd H1 p o) := fun c u h n => by rw [upd_ne n]; exact s c u h
theorem Nw.lst {p : Addr} {H H' : Hp} (n : Nw p H H') {C dx : Addr} {fs : List (Str × V)} (hp : H p = some (.ins C dx fs)) {a : Addr} {xs : List V} (h : H a = some (.lst xs)) : H' a = some (.lst xs) := n a _ h (ne_of h hp (by intro z; cases z))
theorem Nw.tup {p : Addr} {H H' : Hp} (n : Nw p H H') {C dx : Addr} {fs : List (Str × V)} (hp : H p = some (.ins C dx fs)) {a : Addr} {xs : List V} (h : H a = some (.tup xs)) : H' a = some (.tup xs) := n a _ h (ne_of h hp (by intro z; cases z))
def spFrame0 (c : Cs) : Sp := fun vs H Q _ => ∃ (p dx rg rt dn gv : Addr) (f : Fm), vs = [.ref p, nI f.n, .ref rg, .ref rt, .ref dn, .ref gv] ∧ H p = some (.ins c.F dx []) ∧ H rg = some (.lst (nIs f.region)) ∧ H rt = some (.lst (nIs f.right)) ∧ H dn = some (.lst (nIs f.down)) ∧ H gv = some (.lst (nIs f.given)) ∧ Rt f ∧ Sq.Lens f ∧
  ∀ (A : FAd) (S H' : Hp), A.p = p → FrAt c S A f → Same S H' → (∀ b o, S b = some o → b = p ∨ H b = none) → Nw p H H' → Q .non H'
section
variable {P : Program} {w : World} {K : PySem.W.Frag} {mg : Str → Option Value} {base : Heap} {c : Cs}
theorem scFrame0 : FnScope ["self", "n", "regions", "right", "down", "given", "k"] ["self", "n", "regions", "right", "down", "given"] (defScope sFrame0) := ⟨rfl, rfl, rfl, by decide +kernel, rfl, by decide +kernel, by decide +kernel⟩
theorem ok_frame0 {f : Addr} {fd : FuncData} (F : Fun K "__init__" "Frame.__init__" sFrame0 f fd) (T : Txt K c) (GU : GF P w K mg base 1 "units_of_frame" ["n", "regions"] (spUnits c)) (GS : GF P w K mg base 2 "signs_of_frame" ["n", "right", "down"] spSigns)
    (GT : GF P w K mg base 3 "sets_of" ["m", "n"] spSets) (M1 : MF P w K mg base 1 c.F "units_with" ["self", "k"] (spUnitsWith c)) (M2 : MF P w K mg base 1 c.F "peers_of" ["self", "k"] (spPeers c)) (M3 : MF P w K mg base 1 c.F "signs_with" ["self", "k"] (spSignsWith c))
    (nr : mg "range" = none) (nl : mg "list" = none) : FnOk P w K mg base CX0 4 f fd ["self", "n", "regions", "right", "down", "given"] (spFrame0 c) := by
  refine F.ok scFrame0 (fun vs H Q E h => ?_) (fun cdv A outer s H vs Q E hr h => ?_)
  · obtain ⟨p, dx, rg, rt, dn, gv, fr, rfl, _⟩ := h; rfl
  · obtain ⟨p, dx, rg, rt, dn, gv, fr, rfl, hp, hrg, hrt, hdn, hgv, R, L, q⟩ := h
    have hlo := R.lo
    have hhi := R.hi
    have h81 := cells81 hhi
    refine ⟨_, pss_cons (ps_fld (pv 0) (pv 1) rfl)
      (pss_cons (ps_fld (pv 0) (pe_callTy call_list_of rfl nl PyProof.Rows.boot_list (pa_cons (pv 5) pa_nil)) rfl)
      (pss_cons (ps_fld (pv 0) (pe_callG GU hr rfl (pa_cons (pv 1) (pa_cons (pv 2) pa_nil))) rfl)
      (pss_cons (ps_fld (pv 0) (pe_callG GS hr rfl (pa_cons (pv 1) (pa_cons (pv 3) (pa_cons (pv 4) pa_nil)))) rfl)
      (pss_cons (ps_fld (pv 0) (pe_callG GT hr rfl (pa_cons (pe_nat 2) (pa_cons (pv 1) pa_nil))) rfl)
      (pss_cons (ps_fld (pv 0) (pe_callG GT hr rfl (pa_cons (pe_nat 3) (pa_cons (pv 1) pa_nil))) rfl)
      (pss_cons (ps_fld (pv 0) (pe_lc (own := [("k", 6)]) rfl scFrame0.nd (pi_range1 rfl nr (pa_cons (pe_op on_mul (pv 1) (pv 1)) pa_nil)) (blkOk_by (N := ["self", "n", "regions", "right", "down", "given", "k"]) (sc := defScope sFrame0) (by decide +kernel))
          (fun _ _ _ _ _ => pg_name (i := 6) scFrame0.nd rfl (Or.inl rfl)) (fun _ _ _ _ _ => pts_nil) (fun _ _ _ _ _ => pe_methG (pv 0) T.clF M1 hr (pa_cons (pv 6) pa_nil))) rfl)
      (pss_cons (ps_fld (pv 0) (pe_lc (own := [("k", 6)]) rfl scFrame0.nd (pi_range1 rfl nr (pa_cons (pe_op on_mul (pv 1) (pv 1)) pa_nil)) (blkOk_by (N := ["self", "n", "regions", "right", "down", "given", "k"]) (sc := defScope sFrame0) (by decide +kernel))
          (fun _ _ _ _ _ => pg_name (i := 6) scFrame0.nd rfl (Or.inl rfl)) (fun _ _ _ _ _ => pts_nil) (fun _ _ _ _ _ => pe_methG (pv 0) T.clF M2 hr (pa_cons (pv 6) pa_nil))) rfl)
      (pss_one (ps_fld (pv 0) (pe_lc (own := [("k", 6)]) rfl scFrame0.nd (pi_range1 rfl nr (pa_cons (pe_op on_mul (pv 1) (pv 1)) pa_nil)) (blkOk_by (N := ["self", "n", "regions", "right", "down", "given", "k"]) (sc := defScope sFrame0) (by decide +kernel))
          (fun _ _ _ _ _ => pg_name (i := 6) scFrame0.nd rfl (Or.inl rfl)) (fun _ _ _ _ _ => pts_nil) (fun _ _ _ _ _ => pe_methG (pv 0) T.clF M3 hr (pa_cons (pv 6) pa_nil))) rfl))))))))), ?_⟩
    have nn81 : fr.n * fr.n ≤ 81 := h81
    -- self.n = n
    refine ⟨_, rfl, _, rfl, p, c.F, dx, _, rfl, hp, T.clF, T.fN, (by show 0 < 1000; decide), ?_⟩
    have n1 : Nw p H (upd H p (.ins c.F dx (putF "n" (nI fr.n) []))) := Nw.of (Same.refl H) _
    generalize hH1 : upd H p (.ins c.F dx (putF "n" (nI fr.n) [])) = H1 at n1 ⊢
    have p1 : H1 p = some (.ins c.F dx (putF "n" (nI fr.n) [])) := by rw [← hH1]; exact upd_same
    -- self.given = list(given)
    refine ⟨_, rfl, gv, _, rfl, .inl (SqL.of (n1.lst hp hgv)), fun g hg => ⟨_, rfl, p, c.F, dx, _, rfl, (by rw [upd_ne (ne_of_none p1 hg)]; exact p1), T.clF, T.fGiven, (by show 1 < 1000; decide), ?_⟩⟩
    have n2 := Nw.of (p := p) (same_new (o := .lst (nIs fr.given)) hg) (.ins c.F dx (putF "given" (.ref g) (putF "n" (nI fr.n) [])))
    have gp : g ≠ p := Ne.symm (ne_of_none p1 hg)
    generalize hH2 : upd (upd H1 g (.lst (nIs fr.given))) p (.ins c.F dx (putF "given" (.ref g) (putF "n" (nI fr.n) []))) = H2 at n2 ⊢
    have p2 : H2 p = some (.ins c.F dx (putF "given" (.ref g) (putF "n" (nI fr.n) []))) := by rw [← hH2]; exact upd_same
    have eg2 : H2 g = some (.lst (nIs fr.given)) := by rw [← hH2, upd_ne gp]; exact upd_same
    have n02 := n1.trans n2
    have fg : H g = none := by
      cases e : H g with
      | none => rfl
      | some o => have := n1 g o e gp; rw [hg] at this; cases this
    -- self.units = units_of_frame(n, regions)
    refine ⟨_, rfl, _, rfl, fr, rg, rfl, n02.lst hp hrg, R, L, fun u H2' s3 hu eu => ⟨_, rfl, p, c.F, dx, _, rfl, s3 _ _ p2, T.clF, T.fUnits, (by show 2 < 1000; decide), ?_⟩⟩
    have n3 := Nw.of (p := p) s3 (.ins c.F dx (putF "units" (.ref u) (putF "given" (.ref g) (putF "n" (nI fr.n) []))))
    have up : u ≠ p := Ne.symm (ne_of_none p2 hu)
    generalize hH3 : upd H2' p (.ins c.F dx (putF "units" (.ref u) (putF "given" (.ref g) (putF "n" (nI fr.n) [])))) = H3 at n3 ⊢
    have p3 : H3 p = some (.ins c.F dx (putF "units" (.ref u) (putF "given" (.ref g) (putF "n" (nI fr.n) [])))) := by rw [← hH3]; exact upd_same
    have eu3 : H3 u = some (.lst (nIs (masks fr))) := by rw [← hH3, upd_ne up]; exact eu
    have n03 := n02.trans n3
    have free : ∀ {Hx : Hp} {a : Addr}, Nw p H Hx → a ≠ p → Hx a = none → H a = none := fun {Hx a} n ap h => by
      cases e : H a with
      | none => rfl
      | some o => have := n a o e ap; rw [h] at this; cases this
    have fu : H u = none := free n02 up hu
    -- self.signs = signs_of_frame(n, right, down)
    refine ⟨_, rfl, _, rfl, _, rfl, fr, rt, dn, rfl, n03.lst hp hrt, n03.lst hp hdn, L, hhi, fun sg sgs H3' s4 hsg esg tsg wsg => ⟨_, rfl, p, c.F, dx, _, rfl, s4 _ _ p3, T.clF, T.fSigns, (by show 3 < 1000; decide), ?_⟩⟩
    have n4 := Nw.of (p := p) s4 (.ins c.F dx (putF "signs" (.ref sg) (putF "units" (.ref u) (putF "given" (.ref g) (putF "n" (nI fr.n) [])))))
    have sgp : sg ≠ p := Ne.symm (ne_of_none p3 hsg)
    have hp3' := s4 _ _ p3
    generalize hH4 : upd H3' p (.ins c.F dx (putF "signs" (.ref sg) (putF "units" (.ref u) (putF "given" (.ref g) (putF "n" (nI fr.n) []))))) = H4 at n4 ⊢
    have p4 : H4 p = some (.ins c.F dx (putF "signs" (.ref sg) (putF "units" (.ref u) (putF "given" (.ref g) (putF "n" (nI fr.n) []))))) := by rw [← hH4]; exact upd_same
    have esg4 : H4 sg = some (.lst (sgs.map V.ref)) := by rw [← hH4, upd_ne sgp]; exact esg
    have tsg4 : Sgs H4 sgs (Sq.signs fr) := Ats.imp (fun a g e => by rw [← hH4, upd_ne (ne_of e hp3' (by intro z; cases z))]; exact e) tsg
    have n04 := n03.trans n4
    have fsg : H sg = none := free n03 sgp hsg
    -- self.pairs, self.triples
    refine ⟨_, rfl, 2, fr.n, rfl, hhi, fun pr H4' hpr s5 epr => ⟨_, rfl, p, c.F, dx, _, rfl, s5 _ _ p4, T.clF, T.fPairs, (by show 4 < 1000; decide), ?_⟩⟩
    have n5 := Nw.of (p := p) s5 (.ins c.F dx (putF "pairs" (.ref pr) (putF "signs" (.ref sg) (putF "units" (.ref u) (putF "given" (.ref g) (putF "n" (nI fr.n) []))))))
    have prp : pr ≠ p := Ne.symm (ne_of_none p4 hpr)
    generalize hH5 : upd H4' p (.ins c.F dx (putF "pairs" (.ref pr) (putF "signs" (.ref sg) (putF "units" (.ref u) (putF "given" (.ref g) (putF "n" (nI fr.n) [])))))) = H5 at n5 ⊢
    have p5 : H5 p = some (.ins c.F dx (putF "pairs" (.ref pr) (putF "signs" (.ref sg) (putF "units" (.ref u) (putF "given" (.ref g) (putF "n" (nI fr.n) [])))))) := by rw [← hH5]; exact upd_same
    have epr5 : H5 pr = some (.lst (nIs (Kgi2.sets fr 2))) := by rw [← hH5, upd_ne prp, Sq.sets_eq]; exact epr
    have n05 := n04.trans n5
    have fpr : H pr = none := free n04 prp hpr
    refine ⟨_, rfl, 3, fr.n, rfl, hhi, fun tr H5' htr s6 etr => ⟨_, rfl, p, c.F, dx, _, rfl, s6 _ _ p5, T.clF, T.fTriples, (by show 5 < 1000; decide), ?_⟩⟩
    have n6 := Nw.of (p := p) s6 (.ins c.F dx (putF "triples" (.ref tr) (putF "pairs" (.ref pr) (putF "signs" (.ref sg) (putF "units" (.ref u) (putF "given" (.ref g) (putF "n" (nI fr.n) [])))))))
    have trp : tr ≠ p := Ne.symm (ne_of_none p5 htr)
    generalize hH6 : upd H5' p (.ins c.F dx (putF "triples" (.ref tr) (putF "pairs" (.ref pr) (putF "signs" (.ref sg) (putF "units" (.ref u) (putF "given" (.ref g) (putF "n" (nI fr.n) []))))))) = H6 at n6 ⊢
    have p6 : H6 p = some (.ins c.F dx (putF "triples" (.ref tr) (putF "pairs" (.ref pr) (putF "signs" (.ref sg) (putF "units" (.ref u) (putF "given" (.ref g) (putF "n" (nI fr.n) []))))))) := by rw [← hH6]; exact upd_same
    have etr6 : H6 tr = some (.lst (nIs (Kgi2.sets fr 3))) := by rw [← hH6, upd_ne trp, Sq.sets_eq]; exact etr
    have n06 := n05.trans n6
    have ftr : H tr = none := free n05 trp htr
    have eu6 : H6 u = some (.lst (nIs (masks fr))) := ((n4.trans n5).trans n6).lst p3 eu3
    -- self.units_of
    refine ⟨_, rfl, _, rfl, _, _, rfl, rfl, by omega, ((fr.n * fr.n : Nat) : Int), rfl, by omega, by omega, fun uo huo => ?_⟩
    rw [Int.toNat_natCast]
    refine lc_range (n := fr.n * fr.n) (fun i H' => Same H6 H' ∧ ∃ uos, H' uo = some (.lst (uos.map V.ref)) ∧ Ats (fun a k => H6 a = none ∧ a ≠ uo ∧ H' a = some (.lst (nIs (Sq.unitsOf fr k)))) uos (List.range i)) ⟨same_new huo, [], upd_same, trivial⟩ ?_ ?_
    · rintro i H' hi ⟨sm, uos, e, at'⟩
      have ei : V.int (0 + (i : Int)) = nI i := by congr 1; omega
      rw [ei]
      refine ⟨rfl, _, rfl, p, dx, _, rfl, sm _ _ p6, rfl, _, rfl, p, dx, u, _, fr, i, rfl, sm _ _ p6, rfl, sm _ _ eu6, hhi, fun a H'' ha s2 ea => ⟨uos.map V.ref, s2 _ _ e, ?_, fun b o z => ?_, uos ++ [a], ?_, ?_⟩⟩
      · rw [List.length_map, Ats.len at', List.length_range]; exact small1000 (by omega)
      · rw [upd_ne (ne_of_none z huo)]; exact s2 _ _ (sm _ _ z)
      · rw [upd_same, List.map_append]; rfl
      · have nau : a ≠ uo := Ne.symm (ne_of_none e ha)
        rw [List.range_succ]
        exact Ats.snoc (Ats.imp (fun x k ⟨z1, z2, z3⟩ => ⟨z1, z2, by rw [upd_ne z2]; exact s2 _ _ z3⟩) at') ⟨sm.free ha, nau, by rw [upd_ne nau]; exact ea⟩
    rintro H6' ⟨s7, uos, euo, auo⟩
    refine ⟨_, rfl, p, c.F, dx, _, rfl, s7 _ _ p6, T.clF, T.fUnitsOf, (by show 6 < 1000; decide), ?_⟩
    have n7 := Nw.of (p := p) s7 (.ins c.F dx (putF "units_of" (.ref uo) (putF "triples" (.ref tr) (putF "pairs" (.ref pr) (putF "signs" (.ref sg) (putF "units" (.ref u) (putF "given" (.ref g) (putF "n" (nI fr.n) []))))))))
    have uop : uo ≠ p := Ne.symm (ne_of_none p6 huo)
    have hp6' := s7 _ _ p6
    generalize hH7 : upd H6' p (.ins c.F dx (putF "units_of" (.ref uo) (putF "triples" (.ref tr) (putF "pairs" (.ref pr) (putF "signs" (.ref sg) (putF "units" (.ref u) (putF "given" (.ref g) (putF "n" (nI fr.n) [])))))))) = H7 at n7 ⊢
    have p7 : H7 p = some (.ins c.F dx (putF "units_of" (.ref uo) (putF "triples" (.ref tr) (putF "pairs" (.ref pr) (putF "signs" (.ref sg) (putF "units" (.ref u) (putF "given" (.ref g) (putF "n" (nI fr.n) [])))))))) := by rw [← hH7]; exact upd_same
    have euo7 : H7 uo = some (.lst (uos.map V.ref)) := by rw [← hH7, upd_ne uop]; exact euo
    have auo7 : Ats (fun a k => (H a = none ∧ a ≠ p) ∧ H7 a = some (.lst (nIs (Sq.unitsOf fr k)))) uos (List.range (cells fr)) := Ats.imp (fun a k ⟨z1, z2, z3⟩ => by
      have ap : a ≠ p := ne_of z3 hp6' (by intro z; cases z)
      exact ⟨⟨free n06 ap z1, ap⟩, by rw [← hH7, upd_ne ap]; exact z3⟩) auo
    have n07 := n06.trans n7
    have fuo : H uo = none := free n06 uop huo
    have eu7 : H7 u = some (.lst (nIs (masks fr))) := n7.lst p6 eu6
    -- self.peers
    refine ⟨_, rfl, _, rfl, _, _, rfl, rfl, by omega, ((fr.n * fr.n : Nat) : Int), rfl, by omega, by omega, fun pe hpe => ?_⟩
    rw [Int.toNat_natCast]
    refine lc_range (n := fr.n * fr.n) (fun i H' => Same H7 H' ∧ H' pe = some (.lst (nIs ((List.range i).map (Sq.peers fr))))) ⟨same_new hpe, upd_same⟩ ?_ ?_
    · rintro i H' hi ⟨sm, e⟩
      have ei : V.int (0 + (i : Int)) = nI i := by congr 1; omega
      rw [ei]
      obtain ⟨a, ha, _, ea⟩ := Ats.at auo7 (List.getElem?_range hi)
      refine ⟨rfl, _, rfl, p, dx, _, rfl, sm _ _ p7, rfl, _, rfl, p, dx, u, uo, a, uos, _, fr, i, rfl, sm _ _ p7, rfl, rfl, sm _ _ eu7, sm _ _ euo7, ha, sm _ _ ea, by omega, _, e, ?_, fun b o z => ?_, ?_⟩
      · rw [ints_len, List.length_map, List.length_range]; exact small1000 (by omega)
      · rw [upd_ne (ne_of_none z hpe)]; exact sm _ _ z
      · rw [upd_same, ints_snoc, List.range_succ, List.map_append]; rfl
    rintro H7' ⟨s8, epe⟩
    refine ⟨_, rfl, p, c.F, dx, _, rfl, s8 _ _ p7, T.clF, T.fPeers, (by show 7 < 1000; decide), ?_⟩
    have n8 := Nw.of (p := p) s8 (.ins c.F dx (putF "peers" (.ref pe) (putF "units_of" (.ref uo) (putF "triples" (.ref tr) (putF "pairs" (.ref pr) (putF "signs" (.ref sg) (putF "units" (.ref u) (putF "given" (.ref g) (putF "n" (nI fr.n) [])))))))))
    have pep : pe ≠ p := Ne.symm (ne_of_none p7 hpe)
    generalize hH8 : upd H7' p (.ins c.F dx (putF "peers" (.ref pe) (putF "units_of" (.ref uo) (putF "triples" (.ref tr) (putF "pairs" (.ref pr) (putF "signs" (.ref sg) (putF "units" (.ref u) (putF "given" (.ref g) (putF "n" (nI fr.n) []))))))))) = H8 at n8 ⊢
    have p8 : H8 p = some (.ins c.F dx (putF "peers" (.ref pe) (putF "units_of" (.ref uo) (putF "triples" (.ref tr) (putF "pairs" (.ref pr) (putF "signs" (.ref sg) (putF "units" (.ref u) (putF "given" (.ref g) (putF "n" (nI fr.n) []))))))))) := by rw [← hH8]; exact upd_same
    have epe8 : H8 pe = some (.lst (nIs ((List.range (cells fr)).map (Sq.peers fr)))) := by rw [← hH8, upd_ne pep]; exact epe
    have n08 := n07.trans n8
    have fpe : H pe = none := free n07 pep hpe
    have n48 := ((n5.trans n6).trans n7).trans n8
    have esg8 : H8 sg = some (.lst (sgs.map V.ref)) := n48.lst p4 esg4
    have tsg8 : Sgs H8 sgs (Sq.signs fr) := Ats.imp (fun a g e => n48.tup p4 e) tsg4
    -- self.signs_at
    refine ⟨_, rfl, _, rfl, _, _, rfl, rfl, by omega, ((fr.n * fr.n : Nat) : Int), rfl, by omega, by omega, fun sa hsa => ?_⟩
    rw [Int.toNat_natCast]
    refine lc_range (n := fr.n * fr.n) (fun i H' => Same H8 H' ∧ ∃ sas, H' sa = some (.lst (sas.map V.ref)) ∧ Ats (fun a k => H8 a = none ∧ a ≠ sa ∧ ∃ bs, H' a = some (.lst (bs.map V.ref)) ∧ Sgs H' bs (Sq.signsAt fr k) ∧ ∀ b ∈ bs, b ∈ sgs) sas (List.range i)) ⟨same_new hsa, [], upd_same, trivial⟩ ?_ ?_
    · rintro i H' hi ⟨sm, sas, e, at'⟩
      have ei : V.int (0 + (i : Int)) = nI i := by congr 1; omega
      rw [ei]
      refine ⟨rfl, _, rfl, p, dx, _, rfl, sm _ _ p8, rfl, _, rfl, p, dx, sg, sgs, _, fr, i, rfl, sm _ _ p8, rfl, sm _ _ esg8, Sgs.same sm tsg8, hhi, fun a bs H'' ha s2 ea ta wb => ⟨sas.map V.ref, s2 _ _ e, ?_, fun b o z => ?_, sas ++ [a], ?_, ?_⟩⟩
      · rw [List.length_map, Ats.len at', List.length_range]; exact small1000 (by omega)
      · rw [upd_ne (ne_of_none z hsa)]; exact s2 _ _ (sm _ _ z)
      · rw [upd_same, List.map_append]; rfl
      · have nau : a ≠ sa := Ne.symm (ne_of_none e ha)
        have e2 := s2 _ _ e
        rw [List.range_succ]
        exact Ats.snoc (Ats.imp (fun x k ⟨z1, z2, bs', z3, z4, z5⟩ => ⟨z1, z2, bs', by rw [upd_ne z2]; exact s2 _ _ z3, Ats.imp (fun y gg z => by rw [upd_ne (ne_of (s2 _ _ z) e2 (by intro z; cases z))]; exact s2 _ _ z) z4, z5⟩) at')
          ⟨sm.free ha, nau, bs, by rw [upd_ne nau]; exact ea, Ats.imp (fun y gg z => by rw [upd_ne (ne_of z e2 (by intro z; cases z))]; exact z) ta, wb⟩
    rintro H8' ⟨s9, sas, esa, asa⟩
    refine ⟨_, rfl, p, c.F, dx, _, rfl, s9 _ _ p8, T.clF, T.fSignsAt, (by show 8 < 1000; decide), ?_⟩
    have sap : sa ≠ p := Ne.symm (ne_of_none p8 hsa)
    have hp8' := s9 _ _ p8
    have fin : putF "signs_at" (V.ref sa) (putF "peers" (.ref pe) (putF "units_of" (.ref uo) (putF "triples" (.ref tr) (putF "pairs" (.ref pr) (putF "signs" (.ref sg) (putF "units" (.ref u) (putF "given" (.ref g) (putF "n" (nI fr.n) [])))))))) = fsF ⟨p, dx, g, u, sg, pr, tr, uo, pe, sa, sgs, uos, sas⟩ fr.n := by rfl
    rw [fin]
    have n9 := Nw.of (p := p) s9 (.ins c.F dx (fsF ⟨p, dx, g, u, sg, pr, tr, uo, pe, sa, sgs, uos, sas⟩ fr.n))
    generalize hH9 : upd H8' p (.ins c.F dx (fsF ⟨p, dx, g, u, sg, pr, tr, uo, pe, sa, sgs, uos, sas⟩ fr.n)) = H9 at n9 ⊢
    have p9 : H9 p = some (.ins c.F dx (fsF ⟨p, dx, g, u, sg, pr, tr, uo, pe, sa, sgs, uos, sas⟩ fr.n)) := by rw [← hH9]; exact upd_same
    have n89 := n9
    have n79 := n8.trans n89
    have n69 := n7.trans n79
    have n59 := n6.trans n69
    have n49 := n5.trans n59
    have n39 := n4.trans n49
    have n29 := n3.trans n39
    have fsa : H sa = none := free n08 sap hsa
    -- what is new, alone
    have mine : ∀ {a : Addr} {o : HO}, (a = p ∨ H a = none) → H9 a = some o → (fun b => if b = p ∨ H b = none then H9 b else none : Hp) a = some o := fun {a o} h e => by
      show (if a = p ∨ H a = none then H9 a else none) = some o
      rw [if_pos h]; exact e
    have fsgs : ∀ a ∈ sgs, a ≠ p ∧ H a = none := fun a ha => by
      obtain ⟨i, hi⟩ := List.getElem?_of_mem ha
      obtain ⟨g, _, e⟩ := Ats.get tsg4 hi
      have ap : a ≠ p := ne_of e p4 (by intro z; cases z)
      exact ⟨ap, free n03 ap (wsg a ha)⟩
    have sgS : ∀ {bs : List Addr} {l : List Sq.Sgn}, Sgs H9 bs l → (∀ b ∈ bs, b ∈ sgs) → Sgs (fun b => if b = p ∨ H b = none then H9 b else none) bs l := fun {bs l} h w => Ats.imp_mem (fun a g ha e => mine (.inr (fsgs a (w a ha)).2) e) h
    refine q ⟨p, dx, g, u, sg, pr, tr, uo, pe, sa, sgs, uos, sas⟩ (fun b => if b = p ∨ H b = none then H9 b else none) H9 rfl
      ⟨mine (.inl rfl) p9, mine (.inr fg) (n29.lst p2 eg2), mine (.inr fu) (n39.lst p3 eu3), mine (.inr fsg) (n49.lst p4 esg4), sgS (Ats.imp (fun a g e => n49.tup p4 e) tsg4) (fun b h => h), mine (.inr fpr) (n59.lst p5 epr5), mine (.inr ftr) (n69.lst p6 etr6), mine (.inr fuo) (n79.lst p7 euo7),
        Ats.imp (fun a k ⟨z1, z2⟩ => mine (.inr z1.1) (n79.lst p7 z2)) auo7, mine (.inr fpe) (n89.lst p8 epe8), mine (.inr fsa) (by rw [← hH9, upd_ne sap]; exact esa),
        Ats.imp (fun a k ⟨z1, z2, bs, z3, z4, z5⟩ => ⟨bs, mine (.inr (free n08 (ne_of z3 hp8' (by intro z; cases z)) z1)) (by rw [← hH9, upd_ne (ne_of z3 hp8' (by intro z; cases z))]; exact z3), sgS (Ats.imp (fun y gg z => by rw [← hH9, upd_ne (ne_of z hp8' (by intro z; cases z))]; exact z) z4) z5⟩) asa⟩ ?_ ?_ (n08.trans n9)
    · intro b o e
      have e : (if b = p ∨ H b = none then H9 b else none) = some o := e
      by_cases h : b = p ∨ H b = none
      · rw [if_pos h] at e; exact e
      · rw [if_neg h] at e; cases e
    · intro b o e
      have e : (if b = p ∨ H b = none then H9 b else none) = some o := e
      by_cases h : b = p ∨ H b = none
      · exact h
      · rw [if_neg h] at e; cases e
end
end Py
namespace Py
open PySem PySem.Spec PyProof.Rows L2
open Kgi1 (cells)
open Kgi2 (at_ has unit)
open Sq (Wf Rt sub nU mask masks plT)
abbrev sStep0 : Stmt := inClass (top 38) 0
abbrev sTold : Stmt := top 39
abbrev sSettled : Stmt := top 40
abbrev sOnly : Stmt := top 41
abbrev sSign : Stmt := top 42
abbrev sLocked : Stmt := top 43
abbrev sBetween : Stmt := top 44
abbrev sFew : Stmt := top 45
abbrev sFewIn : Stmt := top 46
def fsPV (a b d e g : V) : List (Str × V) := [("kind", a), ("place", b), ("other", d), ("numbers", e), ("strikes", g)]
theorem fsP_kind (a b d e g : V) : (fsPV a b d e g).lookup ("kind" : Str) = some a := by rfl
theorem fsP_place (a b d e g : V) : (fsPV a b d e g).lookup ("place" : Str) = some b := by rfl
theorem fsP_other (a b d e g : V) : (fsPV a b d e g).lookup ("other" : Str) = some d := by rfl
theorem fsP_numbers (a b d e g : V) : (fsPV a b d e g).lookup ("numbers" : Str) = some e := by rfl
theorem fsP_strikes (a b d e g : V) : (fsPV a b d e g).lookup ("strikes" : Str) = some g := by rfl
def StAt (c : Cs) (H : Hp) (p : Addr) (kd pl ot nu : Nat) (l : List (Nat × Nat)) : Prop := ∃ (dx sl : Addr) (as : List Addr), H p = some (.ins c.P dx (fsPV (nI kd) (nI pl) (nI ot) (nI nu) (.ref sl))) ∧ H sl = some (.lst (as.map V.ref)) ∧ Tups H as l
theorem StAt.same {c : Cs} {H H' : Hp} (s : Same H H') {p : Addr} {kd pl ot nu : Nat} {l : List (Nat × Nat)} (h : StAt c H p kd pl ot nu l) : StAt c H' p kd pl ot nu l := by
  obtain ⟨dx, sl, as, h1, h2, h3⟩ := h
  exact ⟨dx, sl, as, s _ _ h1, s _ _ h2, h3.same s⟩
def spStep0 (c : Cs) : Sp := fun vs H Q _ => ∃ (p dx : Addr) (a b d e g : V), vs = [.ref p, a, b, d, e, g] ∧ H p = some (.ins c.P dx []) ∧ Q .non (upd H p (.ins c.P dx (fsPV a b d e g)))
theorem same_made {H : Hp} {x dx : Addr} {a b o : HO} (nx : H x = none) (nd : H dx = none) : Same H (upd (upd (upd H dx a) x b) x o) := fun q u e => by
  rw [upd_ne (ne_of_none e nx), upd_ne (ne_of_none e nx), upd_ne (ne_of_none e nd)]; exact e
theorem StAt.made {c : Cs} {H : Hp} {x dx sl : Addr} {a b : HO} {kd pl ot nu : Nat} {as : List Addr} {l : List (Nat × Nat)} (nx : H x = none) (nd : H dx = none) (h : H sl = some (.lst (as.map V.ref))) (t : Tups H as l) :
    StAt c (upd (upd (upd H dx a) x b) x (.ins c.P dx (fsPV (nI kd) (nI pl) (nI ot) (nI nu) (.ref sl)))) x kd pl ot nu l := ⟨dx, sl, as, upd_same, same_made nx nd _ _ h, t.same (same_made nx nd)⟩
def spTold (c : Cs) : Sp := fun vs H Q _ => ∃ (p : Addr) (kd pl ot nu : Nat) (l : List (Nat × Nat)), vs = [.ref p] ∧ StAt c H p kd pl ot nu l ∧ (l.map (·.1)).Nodup ∧ (∀ q ∈ l, q.1 < 81) ∧
  ∀ q H', Same H H' → H q = none → H' q = some (.lst (nIs ([kd, pl, ot, nu] ++ (List.range 81).map (Sq.lk l)))) → Q (.ref q) H'
def fsS (a b d : V) (t : Nat) : List (Str × V) := [("frame", a), ("board", b), ("trials", d), ("quiet", nI t)]
theorem fsS_frame (a b d : V) (t : Nat) : (fsS a b d t).lookup ("frame" : Str) = some a := by rfl
theorem fsS_board (a b d : V) (t : Nat) : (fsS a b d t).lookup ("board" : Str) = some b := by rfl
theorem fsS_trials (a b d : V) (t : Nat) : (fsS a b d t).lookup ("trials" : Str) = some d := by rfl
theorem fsS_quiet (a b d : V) (t : Nat) : (fsS a b d t).lookup ("quiet" : Str) = some (nI t) := by rfl
structure Gh where
  A : FAd
  B : Bd
  S : Hp
  d : Addr
  dx : Addr
structure SqRd (c : Cs) (H : Hp) (q : Addr) (G : Gh) (f : Fm) (s : Kgi2.St) (t : Nat) : Prop where
  ob : H q = some (.ins c.S G.dx (fsS (.ref G.A.p) (.ref G.B.p) (.ref G.d) t))
  fr : FrAt c G.S G.A f
  sub : Same G.S H
  bd : BdAt c H G.B f s
  rt : Rt f
  wf : Wf f s
theorem SqRd.same {c : Cs} {H H' : Hp} {q : Addr} {G : Gh} {f : Fm} {s : Kgi2.St} {t : Nat} (r : SqRd c H q G f s t) (k : Same H H') : SqRd c H' q G f s t := ⟨k _ _ r.ob, r.fr, r.sub.trans k, r.bd.same k, r.rt, r.wf⟩
def spFind (c : Cs) (kd : Nat) (fn : Fm → Kgi2.St → Option (Kgi2.Told × Kgi2.St)) : Sp := fun vs H Q _ => ∃ (q : Addr) (G : Gh) (f : Fm) (s : Kgi2.St) (t : Nat), vs = [.ref q] ∧ SqRd c H q G f s t ∧ (fn f s = none → ∀ H', Same H H' → Q .non H') ∧
  (∀ r, fn f s = some r → ∀ p pl ot nu l H', Same H H' → StAt c H' p kd pl ot nu l → Sq.Stp f s kd pl ot nu l r → Q (.ref p) H')
section
variable {P : Program} {w : World} {K : PySem.W.Frag} {mg : Str → Option Value} {base : Heap} {c : Cs}
theorem scStep0 : FnScope ["self", "kind", "place", "other", "numbers", "strikes"] ["self", "kind", "place", "other", "numbers", "strikes"] (defScope sStep0) := ⟨rfl, rfl, rfl, by decide +kernel, rfl, by decide +kernel, by decide +kernel⟩
theorem ok_step0 {f : Addr} {fd : FuncData} (F : Fun K "__init__" "Step.__init__" sStep0 f fd) (T : Txt K c) : FnOk P w K mg base CX0 1 f fd ["self", "kind", "place", "other", "numbers", "strikes"] (spStep0 c) := by
  refine F.ok scStep0 (fun vs H Q E h => ?_) (fun cdv A outer s H vs Q E hr h => ?_)
  · obtain ⟨p, dx, a, b, d, e, g, rfl, _⟩ := h; rfl
  · obtain ⟨p, dx, a, b, d, e, g, rfl, hp, k⟩ := h
    refine ⟨_, pss_cons (ps_fld (pv 0) (pv 1) rfl) (pss_cons (ps_fld (pv 0) (pv 2) rfl) (pss_cons (ps_fld (pv 0) (pv 3) rfl) (pss_cons (ps_fld (pv 0) (pv 4) rfl) (pss_one (ps_fld (pv 0) (pv 5) rfl))))), ?_⟩
    refine ⟨_, rfl, _, rfl, p, c.P, dx, _, rfl, hp, T.clP, T.pKind, (by show 0 < 1000; decide), _, rfl, _, rfl, p, c.P, dx, _, rfl, upd_same, T.clP, T.pPlace, (by show 1 < 1000; decide), _, rfl, _, rfl, p, c.P, dx, _, rfl, upd_same, T.clP, T.pOther, (by show 2 < 1000; decide),
      _, rfl, _, rfl, p, c.P, dx, _, rfl, upd_same, T.clP, T.pNumbers, (by show 3 < 1000; decide), _, rfl, _, rfl, p, c.P, dx, _, rfl, upd_same, T.clP, T.pStrikes, (by show 4 < 1000; decide), ?_⟩
    rw [upd_upd, upd_upd, upd_upd, upd_upd]
    exact k
theorem scTold : FnScope ["step", "struck", "k", "numbers"] ["step"] (defScope sTold) := ⟨rfl, rfl, rfl, by decide +kernel, rfl, by decide +kernel, by decide +kernel⟩
theorem ok_told {f : Addr} {fd : FuncData} (F : Fun K "told" "told" sTold f fd) (T : Txt K c) (cT : CI mg "CELLS_TOLD" 81) : FnOk P w K mg base CX0 1 f fd ["step"] (spTold c) := by
  refine F.ok scTold (fun vs H Q E h => ?_) (fun cdv A outer s H vs Q E hr h => ?_)
  · obtain ⟨p, kd, pl, ot, nu, l, rfl, _⟩ := h; rfl
  · obtain ⟨p, kd, pl, ot, nu, l, rfl, ⟨dx, sl, as, hp, hsl, tu⟩, nd, hk, q⟩ := h
    refine ⟨_, pss_cons (ps_set (i := 1) scTold.nd rfl (Or.inl rfl) (pe_op op_rep (pe_lst (pa_cons pe_int pa_nil)) (pe_num cT rfl)))
      (pss_cons (ps_for PassesOwn.never rfl (pi_list (pe_fld (pv 0) rfl)) (pg_tup rfl (pgs_cons (pg_name (i := 2) scTold.nd rfl (Or.inl rfl)) (pgs_cons (pg_name (i := 3) scTold.nd rfl (Or.inl rfl)) pgs_nil)))
        (pss_one (ps_asg (pv 3) (pg_sub (pv 1) (pv 2) set_list))))
      (pss_one (ps_ret (pe_op op_cat (pe_lst (pa_cons (pe_fld (pv 0) rfl) (pa_cons (pe_fld (pv 0) rfl) (pa_cons (pe_fld (pv 0) rfl) (pa_cons (pe_fld (pv 0) rfl) pa_nil))))) (pv 1))))), ?_⟩
    refine ⟨(by show 1 ≤ sizeLine; decide), fun l0 hl0 => ⟨l0, 81, _, rfl, rfl, upd_same, by decide, by decide, (by show 1 * 81 ≤ sizeLine; decide), fun st hst => ?_⟩⟩
    rw [show ((81 : Int)).toNat = 81 from rfl, rep_zero, rep_map]
    have s1 : Same H (upd H l0 (.lst [V.int 0])) := same_new hl0
    have s2 := s1.trans (same_new (o := .lst (nIs ((List.range 81).map fun _ => 0))) hst)
    have fst : H st = none := s1.free hst
    generalize hH1 : upd (upd H l0 (.lst [V.int 0])) st (.lst (nIs ((List.range 81).map fun _ => 0))) = H1 at s2 ⊢
    have est : H1 st = some (.lst (nIs ((List.range 81).map fun _ => 0))) := by rw [← hH1]; exact upd_same
    refine ⟨_, rfl, p, c.P, dx, _, _, rfl, s2 _ _ hp, T.clP, T.pStrikes, fsP_strikes _ _ _ _ _, sl, rfl, ⟨_, SqL.of (s2 _ _ hsl)⟩, ?_⟩
    refine for_pairs (K := K) (a := sl) (as := as) (l := l) (fun i σ H' => (∃ v2 v3, σ = [some (.ref p), some (.ref st), v2, v3]) ∧ Same H H' ∧ H' st = some (.lst (nIs ((List.range 81).map (Sq.lk (l.take i)))))) ⟨⟨none, none, rfl⟩, s2, est⟩ (fun i σ H' _ ⟨_, sm, _⟩ => ⟨SqL.of (sm _ _ hsl), tu.same sm⟩) tu.len ?_ ?_
    · rintro i k x σ H' hi ⟨⟨v2, v3, rfl⟩, sm, e⟩
      have hkl := hk _ (List.mem_of_getElem? hi)
      refine ⟨_, rfl, _, rfl, _, rfl, st, _, _, k, rfl, rfl, e, ixN_nat (by rw [ints_len]; simpa using hkl), ⟨_, _, rfl⟩, fun b o z => ?_, ?_⟩
      · rw [upd_ne (ne_of_none z fst)]; exact sm _ _ z
      · rw [upd_same, ints_set, Sq.tab_set hkl, Sq.take_snoc hi]
        congr 3
        refine Sq.tab_congr fun j _ => ?_
        rw [Sq.lk_snoc (Sq.keys_take nd hi)]
    · rintro σ H' ⟨⟨v2, v3, rfl⟩, sm, e⟩
      rw [List.take_length] at e
      have hp' := sm _ _ hp
      refine ⟨_, rfl, p, c.P, dx, _, _, rfl, hp', T.clP, T.pKind, fsP_kind _ _ _ _ _, _, rfl, p, c.P, dx, _, _, rfl, hp', T.clP, T.pPlace, fsP_place _ _ _ _ _, _, rfl, p, c.P, dx, _, _, rfl, hp', T.clP, T.pOther, fsP_other _ _ _ _ _,
        _, rfl, p, c.P, dx, _, _, rfl, hp', T.clP, T.pNumbers, fsP_numbers _ _ _ _ _, (by show 4 ≤ sizeLine; decide), fun l4 hl4 => ⟨_, rfl, l4, st, _, _, rfl, rfl, upd_same, (by rw [upd_ne (ne_of_none e hl4)]; exact e), ?_, fun r hr0 => ?_⟩⟩
      · rw [ints_len, List.length_map, List.length_range]; show 4 + 81 ≤ sizeLine; decide
      · have e4 : [nI kd, nI pl, nI ot, nI nu] = nIs [kd, pl, ot, nu] := rfl
        rw [e4] at hr0 ⊢
        rw [ints_app]
        have s5 : Same H' (upd H' l4 (.lst (nIs [kd, pl, ot, nu]))) := same_new hl4
        exact q r _ ((sm.trans s5).trans (same_new hr0)) (sm.free (s5.free hr0)) upd_same
end
end Py
namespace Py
open PySem PySem.Spec PyProof.Rows L2
open Kgi1 (cells)
open Kgi2 (at_ has unit)
open Sq (Wf Rt sub nU mask masks plT)
section
variable {P : Program} {w : World} {K : PySem.W.Frag} {mg : Str → Option Value} {base : Heap} {c : Cs}
theorem bits_lt100 {f : Fm} (R : Rt f) {m : Nat} (h : ∀ i, m.testBit i = true → i < cells f) : m < 2 ^ 100 :=
  Nat.lt_of_lt_of_le (Sq.lt_pow_of (n := 81) fun i hi => by
    cases e : m.testBit i with
    | false => rfl
    | true => have := h i e; have := cells81 R.hi; omega) (by decide)
theorem bits_len81 {f : Fm} (R : Rt f) {m : Nat} (h : ∀ i, m.testBit i = true → i < cells f) : (Sq.bitsOf m).length ≤ 1000 := by
  have := bits_len (bits_lt100 R h); omega
theorem strikes_eqO (s : Kgi2.St) (l : List Nat) (x : Nat) : (Sq.strikesW l fun k => andZ (at_ s k) ((x : Nat) : Int)) = Sq.strikesOf s l x := by
  rw [Sq.strikesW_of]; exact strikesW_congr fun k _ => andZ_nat _ _
theorem scSettled : FnScope ["square", "board", "k", "numbers", "there"] ["square"] (defScope sSettled) := ⟨rfl, rfl, rfl, by decide +kernel, rfl, by decide +kernel, by decide +kernel⟩
theorem ok_settled {f : Addr} {fd : FuncData} (F : Fun K "first_settled" "first_settled" sSettled f fd) (T : Txt K c) (GI : GF P w K mg base 1 "is_single" ["bits"] spSingle) (GL : GF P w K mg base 1 "least" ["bits"] spLeast) (GM : GF P w K mg base 2 "members" ["bits"] spMembers)
    (GS : GF P w K mg base 1 "strikes_of" ["board", "cells", "numbers"] (spStrikesOf c K)) (GP : CF P w K mg base 1 c.P "Step" ["self", "kind", "place", "other", "numbers", "strikes"] (spStep0 c)) (cK : CI mg "SETTLED" 1) (ne : mg "enumerate" = none) :
    FnOk P w K mg base CX0 3 f fd ["square"] (spFind c 1 Kgi2.settled) := by
  refine F.ok scSettled (fun vs H Q E h => ?_) (fun cdv A outer s H vs Q E hr h => ?_)
  · obtain ⟨q, G, fr, st, t, rfl, _⟩ := h; rfl
  · obtain ⟨q, G, fr, st, t, rfl, r0, no, yes⟩ := h
    refine ⟨_, pss_cons (ps_set (i := 1) scSettled.nd rfl (Or.inl rfl) (pe_fld (pv 0) rfl))
      (pss_cons (ps_for PassesOwn.never rfl (pi_enum rfl ne (pa_cons (pe_fld (pv 1) rfl) pa_nil)) (pg_tup rfl (pgs_cons (pg_name (i := 2) scSettled.nd rfl (Or.inl rfl)) (pgs_cons (pg_name (i := 3) scSettled.nd rfl (Or.inl rfl)) pgs_nil)))
        (pss_one (ps_if (pt_val (pe_callG GI hr rfl (pa_cons (pv 3) pa_nil)))
          (pss_cons (ps_set (i := 4) scSettled.nd rfl (Or.inl rfl) (pe_op on_and (pe_ix ix_list (pe_fld (pv 1) rfl) (pe_callG GL hr rfl (pa_cons (pv 3) pa_nil)) (fun _ _ => rfl)) (pe_ix ix_list (pe_fld (pe_fld (pv 0) rfl) rfl) (pv 2) (fun _ _ => rfl))))
          (pss_one (ps_if (pt_nat (pv 4) (fun _ => rfl)) (pss_one (ps_ret (pe_makeG GP hr rfl (pa_cons (pe_num cK rfl) (pa_cons (pv 2) (pa_cons (pe_nat 0) (pa_cons (pv 3) (pa_cons (pe_callG GS hr rfl (pa_cons (pv 1) (pa_cons (pe_callG GM hr rfl (pa_cons (pv 4) pa_nil)) (pa_cons (pv 3) pa_nil)))) pa_nil)))))))) pss_nil))) pss_nil)))
      (pss_one (ps_ret pe_non))), ?_⟩
    obtain ⟨ob, fr0, sub0, bd, R, wf⟩ := id r0
    refine ⟨_, rfl, q, c.S, _, _, _, rfl, ob, T.clS, T.sBoard, fsS_board _ _ _ _, _, rfl, _, c.B, _, _, _, rfl, bd.ob, T.clB, T.bCells, fsB_cells _ _, _, _, rfl, SqL.of bd.cl, ?_⟩
    refine for_enum (K := K) (a := G.B.cl) (xs := nIs st) (fun i σ H' => (∃ v2 v3 v4, σ = [some (.ref q), some (.ref G.B.p), v2, v3, v4]) ∧ Same H H' ∧ ∀ j, j < i → Kgi2.settledAt fr st j = none) ⟨⟨_, _, _, rfl⟩, Same.refl H, fun j h => absurd h (Nat.not_lt_zero _)⟩ (fun i σ H' _ ⟨_, sm, _⟩ => SqL.of (sm _ _ bd.cl)) ?_ ?_
    · rintro i y σ H' tt hy ⟨⟨v2, v3, v4, rfl⟩, sm0, none⟩ ht
      obtain ⟨m, hm, rfl⟩ := of_ints hy
      have hi : i < cells fr := by rw [← wf.len]; exact (List.getElem?_eq_some_iff.mp hm).1
      have em : m = at_ st i := by
        rw [at_get wf hi] at hm
        exact (Option.some.inj hm).symm
      subst em
      have sm := sm0.trans (same_new (o := .tup [nI i, nI (at_ st i)]) ht)
      generalize upd H' tt (.tup [nI i, nI (at_ st i)]) = H1 at sm ⊢
      obtain ⟨ob, fr1, sub1, bd, _, _⟩ := r0.same sm
      have step : ∀ H2, Same H H2 → Kgi2.settledAt fr st i = Option.none → ∀ v4, (∃ a b d, [some (V.ref q), some (.ref G.B.p), some (nI i), some (nI (at_ st i)), v4] = [some (.ref q), some (.ref G.B.p), a, b, d]) ∧ Same H H2 ∧ ∀ j, j < i + 1 → Kgi2.settledAt fr st j = Option.none := fun H2 s2 z v4 => ⟨⟨_, _, _, rfl⟩, s2, fun j hj => by
        by_cases e : j = i
        · rw [e]; exact z
        · exact none j (by omega)⟩
      refine ⟨_, rfl, _, rfl, _, rfl, iteB (fun cc => ?_) (fun cc => ?_)⟩
      · have h0 : at_ st i ≠ 0 := fun e => by rw [e] at cc; exact absurd cc (by decide)
        have hlow := wf.bit i _ (Sq.low_bit h0)
        refine ⟨_, rfl, _, c.B, _, _, _, rfl, bd.ob, T.clB, T.bPlaces, fsB_places _ _, _, rfl, _, rfl, h0, G.B.pl, _, _, _, rfl, rfl, SqL.of bd.pl, ints_at (Sq.plT_at hlow.2), _, rfl, q, c.S, _, _, _, rfl, ob, T.clS, T.sFrame, fsS_frame _ _ _ _, _, c.F, _, _, _, rfl, sub1 _ _ fr1.ob, T.clF, T.fPeers, fsF_peers _ _, _, rfl,
          G.A.pe, _, _, _, rfl, rfl, SqL.of (sub1 _ _ fr1.pe), ints_at (Sq.tab_at hi), _, _, rfl, rfl, _, rfl, _, rfl, iteB (fun cd => ?_) (fun cd => step H1 sm (Sq.settledAt_zero R wf hi cc (by simpa using cd)) _)⟩
        have hb : ∀ x, (Sq.pl st (Sq.low (at_ st i)) &&& Sq.peers fr i).testBit x = true → x < cells fr := fun x hx => by
          rw [Nat.testBit_and, Bool.and_eq_true] at hx
          exact Sq.peers_lt hx.2
        obtain ⟨r, hr1, hr2⟩ := Sq.settledAt_some R wf hi cc (by simpa using cd)
        have hset : Kgi2.settled fr st = some r := Sq.find_range hi hr1 none
        refine ⟨_, rfl, _, rfl, _, rfl, _, rfl, _, rfl, bits_lt100 R hb, fun p1 hp1 => ⟨_, rfl, G.B, fr, st, p1, _, _, rfl, bd.same (same_new hp1), wf, upd_same, fun k hk => hb k (Sq.mem_bitsOf.mp hk), bits_len81 R hb, fun p2 as H2 s2 hp2 e2 t2 => ?_⟩⟩
        rw [strikes_eqO] at t2
        intro x dx nx ndx nex
        refine ⟨x, dx, _, _, _, _, _, rfl, upd_same, rfl, ?_⟩
        exact yes r hset x i 0 (at_ st i) _ _ ((sm.trans ((same_new hp1).trans s2)).trans (same_made nx ndx)) (StAt.made nx ndx e2 t2) hr2
      · exact step H1 sm (Sq.settledAt_no wf cc) _
    · rintro σ H' ⟨⟨v2, v3, v4, rfl⟩, sm, none⟩
      refine no (Sq.find_range_no fun j hj => none j (by rw [ints_len, wf.len]; exact hj)) H' sm
theorem tru_list {K : PySem.W.Frag} {H : Hp} {p : Addr} {as : List Addr} (h : H p = some (.lst (as.map V.ref))) : TruV K (.ref p) H (decide (as ≠ [])) := .inl ⟨_, SqL.of h, by cases as <;> rfl⟩
theorem tups_nil {H : Hp} {as : List Addr} {l : List (Nat × Nat)} (t : Tups H as l) : as = [] ↔ l = [] := by
  have := t.len
  rw [← List.length_eq_zero_iff, ← List.length_eq_zero_iff, this]
theorem scOnly : FnScope ["square", "board", "u", "unit", "v", "there", "strikes"] ["square"] (defScope sOnly) := ⟨rfl, rfl, rfl, by decide +kernel, rfl, by decide +kernel, by decide +kernel⟩
theorem ok_only {f : Addr} {fd : FuncData} (F : Fun K "first_only_place" "first_only_place" sOnly f fd) (T : Txt K c) (GI : GF P w K mg base 1 "is_single" ["bits"] spSingle) (GM : GF P w K mg base 2 "members" ["bits"] spMembers)
    (GS : GF P w K mg base 1 "strikes_of" ["board", "cells", "numbers"] (spStrikesOf c K)) (GP : CF P w K mg base 1 c.P "Step" ["self", "kind", "place", "other", "numbers", "strikes"] (spStep0 c)) (cK : CI mg "ONLY_PLACE" 2) (ne : mg "enumerate" = none) (nr : mg "range" = none) :
    FnOk P w K mg base CX0 3 f fd ["square"] (spFind c 2 Kgi2.onlyPlace) := by
  refine F.ok scOnly (fun vs H Q E h => ?_) (fun cdv A outer s H vs Q E hr h => ?_)
  · obtain ⟨q, G, fr, st, t, rfl, _⟩ := h; rfl
  · obtain ⟨q, G, fr, st, t, rfl, r0, no, yes⟩ := h
    refine ⟨_, pss_cons (ps_set (i := 1) scOnly.nd rfl (Or.inl rfl) (pe_fld (pv 0) rfl))
      (pss_cons (ps_for PassesOwn.never rfl (pi_enum rfl ne (pa_cons (pe_fld (pe_fld (pv 0) rfl) rfl) pa_nil)) (pg_tup rfl (pgs_cons (pg_name (i := 2) scOnly.nd rfl (Or.inl rfl)) (pgs_cons (pg_name (i := 3) scOnly.nd rfl (Or.inl rfl)) pgs_nil)))
        (pss_one (ps_for PassesOwn.never rfl (pi_range2 rfl nr (pa_cons pe_int (pa_cons (pe_op on_add (pe_fld (pe_fld (pv 0) rfl) rfl) (pe_nat 1)) pa_nil))) (pg_name (i := 4) scOnly.nd rfl (Or.inl rfl))
          (pss_cons (ps_set (i := 5) scOnly.nd rfl (Or.inl rfl) (pe_op on_and (pe_ix ix_list (pe_fld (pv 1) rfl) (pv 4) (fun _ _ => rfl)) (pv 3)))
          (pss_one (ps_if (pt_val (pe_callG GI hr rfl (pa_cons (pv 5) pa_nil)))
            (pss_cons (ps_set (i := 6) scOnly.nd rfl (Or.inl rfl) (pe_callG GS hr rfl (pa_cons (pv 1) (pa_cons (pe_callG GM hr rfl (pa_cons (pv 5) pa_nil)) (pa_cons (pe_un un_inv (pe_op on_shl (pe_nat 1) (pv 4))) pa_nil)))))
            (pss_one (ps_if (pt_truth (pv 6) (fun _ => rfl)) (pss_one (ps_ret (pe_makeG GP hr rfl (pa_cons (pe_num cK rfl) (pa_cons (pv 2) (pa_cons (pe_nat 0) (pa_cons (pe_op on_shl (pe_nat 1) (pv 4)) (pa_cons (pv 6) pa_nil)))))))) pss_nil))) pss_nil))))))
      (pss_one (ps_ret pe_non))), ?_⟩
    obtain ⟨ob, fr0, sub0, bd, R, wf⟩ := id r0
    have hhi := R.hi
    refine ⟨_, rfl, q, c.S, _, _, _, rfl, ob, T.clS, T.sBoard, fsS_board _ _ _ _, _, rfl, q, c.S, _, _, _, rfl, ob, T.clS, T.sFrame, fsS_frame _ _ _ _, _, c.F, _, _, _, rfl, sub0 _ _ fr0.ob, T.clF, T.fUnits, fsF_units _ _, _, _, rfl, SqL.of (sub0 _ _ fr0.un), ?_⟩
    refine for_enum (K := K) (a := G.A.u) (xs := nIs (masks fr)) (fun i σ H' => (∃ v2 v3 v4 v5 v6, σ = [some (.ref q), some (.ref G.B.p), v2, v3, v4, v5, v6]) ∧ Same H H' ∧ ∀ u, u < i → (Kgi1.numbers fr).findSome? (Kgi2.onlyAt fr st u) = none)
      ⟨⟨_, _, _, _, _, rfl⟩, Same.refl H, fun j h => absurd h (Nat.not_lt_zero _)⟩ (fun i σ H' _ ⟨_, sm, _⟩ => SqL.of (sm _ _ (sub0 _ _ fr0.un))) ?_ ?_
    · rintro i y σ H' tt hy ⟨⟨v2, v3, v4, v5, v6, rfl⟩, sm0, none⟩ ht
      obtain ⟨m, hm, rfl⟩ := of_ints hy
      have hi : i < nU fr := by have := (List.getElem?_eq_some_iff.mp hm).1; rw [Sq.masks_len] at this; exact this
      rw [Sq.masks_at hi] at hm
      cases hm
      have sm := sm0.trans (same_new (o := .tup [nI i, nI (mask fr i)]) ht)
      generalize upd H' tt (.tup [nI i, nI (mask fr i)]) = H1 at sm ⊢
      obtain ⟨ob, fr1, sub1, bd, _, _⟩ := r0.same sm
      refine ⟨_, rfl, q, c.S, _, _, _, rfl, ob, T.clS, T.sFrame, fsS_frame _ _ _ _, _, c.F, _, _, _, rfl, sub1 _ _ fr1.ob, T.clF, T.fN, fsF_n _ _, _, 1, rfl, rfl, 1, _, rfl, ⟨by omega, by omega, by omega, by omega⟩, ?_⟩
      have en : ((((fr.n + 1 : Nat) : Int)) - 1).toNat = fr.n := by omega
      rw [en]
      refine for_range (fun j σ H' => (∃ v4 v5 v6, σ = [some (.ref q), some (.ref G.B.p), some (nI i), some (nI (mask fr i)), v4, v5, v6]) ∧ Same H H' ∧ ∀ v, v < j → Kgi2.onlyAt fr st i (v + 1) = Option.none) ⟨⟨_, _, _, rfl⟩, sm, fun v h => absurd h (Nat.not_lt_zero _)⟩ ?_ ?_
      · rintro j σ H2 hj ⟨⟨v4, v5, v6, rfl⟩, sm2, nj⟩
        have ej : V.int (1 + (j : Int)) = nI (j + 1) := by congr 1; push_cast; omega
        rw [ej]
        obtain ⟨ob, fr2, sub2, bd, _, _⟩ := r0.same sm2
        have step : ∀ H3, Same H H3 → Kgi2.onlyAt fr st i (j + 1) = Option.none → ∀ v5 v6, (∃ a b d, [some (V.ref q), some (.ref G.B.p), some (nI i), some (nI (mask fr i)), some (nI (j + 1)), v5, v6] = [some (.ref q), some (.ref G.B.p), some (nI i), some (nI (mask fr i)), a, b, d]) ∧ Same H H3 ∧ ∀ v, v < j + 1 → Kgi2.onlyAt fr st i (v + 1) = Option.none := fun H3 s3 z v5 v6 => ⟨⟨_, _, _, rfl⟩, s3, fun v hv => by
          by_cases e : v = j
          · rw [e]; exact z
          · exact nj v (by omega)⟩
        refine ⟨_, rfl, _, c.B, _, _, _, rfl, bd.ob, T.clB, T.bPlaces, fsB_places _ _, _, rfl, G.B.pl, _, _, _, rfl, rfl, SqL.of bd.pl, ints_at (Sq.plT_at (by omega)), _, rfl, _, _, rfl, rfl, _, rfl, _, rfl, _, rfl, iteB (fun cc => ?_) (fun cc => step H2 sm2 (Sq.onlyAt_many R hi cc) _ _)⟩
        have hb : ∀ x, (Sq.pl st (j + 1) &&& mask fr i).testBit x = true → x < cells fr := fun x hx => Sq.unit_lt hi (Sq.there_tb.mp hx).1
        refine ⟨_, rfl, _, rfl, _, rfl, bits_lt100 R hb, fun p1 hp1 => ⟨_, rfl, 1, _, rfl, rfl, ⟨by decide, by omega⟩, _, rfl, G.B, fr, st, p1, _, _, rfl, bd.same (same_new hp1), wf, upd_same, fun k hk => hb k (Sq.mem_bitsOf.mp hk), bits_len81 R hb, fun p2 as H3 s3 hp2 e3 t3 => ?_⟩⟩
        have s4 := sm2.trans ((same_new hp1).trans s3)
        have t3' : Tups H3 as (Sq.strikesW (Sq.bitsOf (Sq.pl st (j + 1) &&& mask fr i)) fun k => sub (at_ st k) (2 ^ (j + 1))) := by
          rw [strikesW_congr (h := fun k => sub (at_ st k) (2 ^ (j + 1))) fun k _ => by show andZ (at_ st k) (Builtin.bitNot ((1 * 2 ^ (j + 1) : Nat) : Int)) = _; rw [andZ_not, Nat.one_mul]] at t3; exact t3
        obtain ⟨o1, o2⟩ := Sq.onlyAt_lst R wf hi cc
        refine ⟨_, rfl, _, tru_list e3, iteB (fun cd => ?_) (fun cd => ?_)⟩
        · have hne : ¬ as = [] := of_decide_eq_true cd
          obtain ⟨r, hr1, hr2⟩ := Sq.lst_some (kd := 2) (p := i) (o := 0) (nu := 2 ^ (j + 1)) o2 (fun z => hne ((tups_nil t3').mpr z))
          have hfind : Kgi2.onlyPlace fr st = some r := Sq.find_range hi (Sq.find_numbers hj (o1.trans hr1) nj) none
          refine ⟨_, rfl, _, rfl, 1, _, rfl, rfl, ⟨by decide, by omega⟩, _, rfl, ?_⟩
          intro x dx nx ndx nex
          refine ⟨x, dx, _, _, _, _, _, rfl, upd_same, rfl, ?_⟩
          exact yes r hfind x i 0 (1 * 2 ^ (j + 1)) _ _ (s4.trans (same_made nx ndx)) (StAt.made nx ndx e3 t3') (by rw [Nat.one_mul]; exact hr2)
        · have hz : as = [] := by simpa using cd
          exact step H3 s4 (o1.trans (Sq.lst_none o2 ((tups_nil t3').mp hz))) _ _
      · rintro σ H2 ⟨⟨v4, v5, v6, rfl⟩, sm2, nj⟩
        refine ⟨⟨_, _, _, _, _, rfl⟩, sm2, fun u hu => ?_⟩
        by_cases e : u = i
        · rw [e]; exact Sq.find_numbers_no nj
        · exact none u (by omega)
    · rintro σ H' ⟨⟨v2, v3, v4, v5, v6, rfl⟩, sm, none⟩
      exact no (Sq.find_range_no fun j hj => none j (by rw [ints_len, Sq.masks_len]; exact hj)) H' sm
theorem sign_at {f : Fm} (R : Rt f) {s : Kgi2.St} (wf : Wf f s) {g : Sq.Sgn} (hg : g ∈ Sq.signs f) : (g.a < cells f ∧ g.b < cells f) ∧ (Sq.strikesBySign s g.a g.b = [] → Kgi2.signAt f s g.k g.d = none) ∧
    (Sq.strikesBySign s g.a g.b ≠ [] → ∃ r, Kgi2.signAt f s g.k g.d = some r ∧ Sq.Stp f s 3 g.k g.d 0 (Sq.strikesBySign s g.a g.b) r) := by
  obtain ⟨k, d, hk, hd, h, rfl⟩ := Sq.mem_signs.mp hg
  refine ⟨⟨Sq.sa_lt R hk h, Sq.sb_lt R hk h⟩, ?_⟩
  show (Sq.strikesBySign s (Sq.sa f k d) (Sq.sb f k d) = [] → Kgi2.signAt f s k d = none) ∧ _
  by_cases ha : at_ s (Sq.sa f k d) = 0
  · refine ⟨fun _ => Sq.signAt_zero wf (.inl ha), fun z => (z ?_).elim⟩
    unfold Sq.strikesBySign; rw [if_pos (.inl ha)]
  · by_cases hb : at_ s (Sq.sb f k d) = 0
    · refine ⟨fun _ => Sq.signAt_zero wf (.inr hb), fun z => (z ?_).elim⟩
      unfold Sq.strikesBySign; rw [if_pos (.inr hb)]
    · obtain ⟨o1, o2⟩ := Sq.sign_lst R wf hk hd h ha hb
      refine ⟨fun z => o1.trans (Sq.lst_none o2 z), fun z => ?_⟩
      obtain ⟨r, h1, h2⟩ := Sq.lst_some (kd := 3) (p := k) (o := d) (nu := 0) o2 z
      exact ⟨r, o1.trans h1, h2⟩
theorem scSign : FnScope ["square", "sign", "strikes"] ["square"] (defScope sSign) := ⟨rfl, rfl, rfl, by decide +kernel, rfl, by decide +kernel, by decide +kernel⟩
theorem ok_sign {f : Addr} {fd : FuncData} (F : Fun K "first_sign" "first_sign" sSign f fd) (T : Txt K c) (GB : GF P w K mg base 2 "strikes_by_sign" ["board", "sign"] (spBySign c)) (GP : CF P w K mg base 1 c.P "Step" ["self", "kind", "place", "other", "numbers", "strikes"] (spStep0 c)) (cK : CI mg "SIGN" 3) :
    FnOk P w K mg base CX0 3 f fd ["square"] (spFind c 3 Kgi2.sign) := by
  refine F.ok scSign (fun vs H Q E h => ?_) (fun cdv A outer s H vs Q E hr h => ?_)
  · obtain ⟨q, G, fr, st, t, rfl, _⟩ := h; rfl
  · obtain ⟨q, G, fr, st, t, rfl, r0, no, yes⟩ := h
    refine ⟨_, pss_cons (ps_for PassesOwn.never rfl (pi_list (pe_fld (pe_fld (pv 0) rfl) rfl)) (pg_name (i := 1) scSign.nd rfl (Or.inl rfl))
        (pss_cons (ps_set (i := 2) scSign.nd rfl (Or.inl rfl) (pe_callG GB hr rfl (pa_cons (pe_fld (pv 0) rfl) (pa_cons (pv 1) pa_nil))))
        (pss_one (ps_if (pt_truth (pv 2) (fun _ => rfl)) (pss_one (ps_ret (pe_makeG GP hr rfl (pa_cons (pe_num cK rfl) (pa_cons (pe_ix ix_tup (pv 1) pe_int (fun _ _ => rfl)) (pa_cons (pe_ix ix_tup (pv 1) pe_int (fun _ _ => rfl)) (pa_cons (pe_nat 0) (pa_cons (pv 2) pa_nil)))))))) pss_nil))))
      (pss_one (ps_ret pe_non)), ?_⟩
    obtain ⟨ob, fr0, sub0, bd, R, wf⟩ := id r0
    refine ⟨_, rfl, q, c.S, _, _, _, rfl, ob, T.clS, T.sFrame, fsS_frame _ _ _ _, _, c.F, _, _, _, rfl, sub0 _ _ fr0.ob, T.clF, T.fSigns, fsF_signs _ _, G.A.sg, rfl, ⟨_, SqL.of (sub0 _ _ fr0.sg)⟩, ?_⟩
    refine for_list (K := K) (a := G.A.sg) (xs := G.A.sgs.map V.ref) (fun i σ H' => (∃ v1 v2, σ = [some (.ref q), v1, v2]) ∧ Same H H' ∧ ∀ (j : Nat) g, j < i → (Sq.signs fr)[j]? = some g → Kgi2.signAt fr st g.k g.d = none) ⟨⟨_, _, rfl⟩, Same.refl H, fun j g h => absurd h (Nat.not_lt_zero _)⟩ (fun i σ H' _ ⟨_, sm, _⟩ => SqL.of (sm _ _ (sub0 _ _ fr0.sg))) ?_ ?_
    · rintro i y σ H' hy ⟨⟨v1, v2, rfl⟩, sm, none⟩
      obtain ⟨a, ha, rfl⟩ := of_refs hy
      obtain ⟨g, hg, e⟩ := Ats.get fr0.sgs ha
      obtain ⟨ob, fr1, sub1, bd, _, _⟩ := r0.same sm
      have e' := sub1 _ _ e
      obtain ⟨⟨la, lb⟩, gn, gy⟩ := sign_at R wf (List.mem_of_getElem? hg)
      refine ⟨_, rfl, q, c.S, _, _, _, rfl, ob, T.clS, T.sBoard, fsS_board _ _ _ _, _, rfl, G.B, fr, st, a, g, rfl, bd, R, wf, e', la, lb, fun p2 as H2 s2 hp2 e2 t2 => ?_⟩
      have e'' := s2 _ _ e'
      refine ⟨_, rfl, _, tru_list e2, iteB (fun cd => ?_) (fun cd => ?_)⟩
      · have hne : ¬ as = [] := of_decide_eq_true cd
        obtain ⟨r, hr1, hr2⟩ := gy (fun z => hne ((tups_nil t2).mpr z))
        have hfind : Kgi2.sign fr st = some r := by
          rw [Sq.sign_signs wf]
          exact Sq.find_at hg hr1 fun j y hj hy => none j y hj hy
        refine ⟨_, rfl, a, _, _, _, rfl, rfl, SqT.of e'', sgT_at0 g, _, rfl, a, _, _, _, rfl, rfl, SqT.of e'', sgT_at1 g, _, rfl, ?_⟩
        intro x dx nx ndx nex
        refine ⟨x, dx, _, _, _, _, _, rfl, upd_same, rfl, ?_⟩
        exact yes r hfind x g.k g.d 0 _ _ ((sm.trans s2).trans (same_made nx ndx)) (StAt.made nx ndx e2 t2) hr2
      · have hz : as = [] := by simpa using cd
        refine ⟨⟨_, _, rfl⟩, sm.trans s2, fun j g' hj hg' => ?_⟩
        by_cases ej : j = i
        · rw [ej, hg] at hg'
          cases hg'
          exact gn ((tups_nil t2).mp hz)
        · exact none j g' (by omega) hg'
    · rintro σ H' ⟨⟨v1, v2, rfl⟩, sm, none⟩
      refine no ?_ H' sm
      rw [Sq.sign_signs wf]
      refine Sq.find_no fun j g hg => none j g ?_ hg
      rw [List.length_map, Ats.len fr0.sgs]
      exact (List.getElem?_eq_some_iff.mp hg).1
end
end Py
namespace Py
open PySem PySem.Spec PyProof.Rows L2
open Kgi1 (cells)
open Kgi2 (at_ has unit)
open Sq (Wf Rt sub nU mask masks plT)
def spBetween (c : Cs) : Sp := fun vs H Q _ => ∃ (q : Addr) (G : Gh) (f : Fm) (s : Kgi2.St) (t u x : Nat), vs = [.ref q, nI u, nI x] ∧ SqRd c H q G f s t ∧ u < nU f ∧ x < nU f ∧ ((Kgi1.numbers f).findSome? (Kgi2.lockedAt f s u x) = none → ∀ H', Same H H' → Q .non H') ∧
  (∀ r, (Kgi1.numbers f).findSome? (Kgi2.lockedAt f s u x) = some r → ∀ p pl ot nu l H', Same H H' → StAt c H' p 4 pl ot nu l → Sq.Stp f s 4 pl ot nu l r → Q (.ref p) H')
def spFewIn (c : Cs) : Sp := fun vs H Q _ => ∃ (q a : Addr) (G : Gh) (f : Fm) (s : Kgi2.St) (t u m : Nat) (xs : List Nat), vs = [.ref q, nI u, nI m, .ref a] ∧ SqRd c H q G f s t ∧ u < nU f ∧ H a = some (.lst (nIs xs)) ∧ (xs.findSome? (Kgi2.fewAt f s m u) = none → ∀ H', Same H H' → Q .non H') ∧
  (∀ r, xs.findSome? (Kgi2.fewAt f s m u) = some r → ∀ p pl ot nu l H', Same H H' → StAt c H' p 5 pl ot nu l → Sq.Stp f s 5 pl ot nu l r → Q (.ref p) H')
theorem find_filter_if {α β : Type} {g : α → Option β} {p : α → Bool} : ∀ {l : List α}, (l.filter p).findSome? g = l.findSome? fun x => if p x = true then g x else none
  | [] => rfl
  | x :: l => by
    rw [List.filter_cons, List.findSome?_cons]
    cases e : p x with
    | true => rw [if_pos rfl, if_pos rfl, List.findSome?_cons, find_filter_if]
    | false => rw [if_neg (by simp), if_neg (by simp), find_filter_if]
theorem inV_nIs (k : Nat) (l : List Nat) : inV (nI k) (nIs l) = l.contains k := by
  unfold inV nIs
  rw [List.any_map, Bool.eq_iff_iff, List.any_eq_true, List.contains_iff_mem]
  constructor
  · rintro ⟨x, hx, e⟩
    have e : ((x : Int) == (k : Int)) = true := e
    have : x = k := by have := eq_of_beq e; omega
    rw [← this]; exact hx
  · intro h
    exact ⟨k, h, beq_self_eq_true _⟩
section
variable {P : Program} {w : World} {K : PySem.W.Frag} {mg : Str → Option Value} {base : Heap} {c : Cs}
theorem scBetween : FnScope ["square", "u", "w", "board", "units", "v", "there", "others"] ["square", "u", "w"] (defScope sBetween) := ⟨rfl, rfl, rfl, by decide +kernel, rfl, by decide +kernel, by decide +kernel⟩
theorem ok_between {f : Addr} {fd : FuncData} (F : Fun K "first_locked_between" "first_locked_between" sBetween f fd) (T : Txt K c) (GM : GF P w K mg base 2 "members" ["bits"] spMembers)
    (GS : GF P w K mg base 1 "strikes_of" ["board", "cells", "numbers"] (spStrikesOf c K)) (GP : CF P w K mg base 1 c.P "Step" ["self", "kind", "place", "other", "numbers", "strikes"] (spStep0 c)) (cK : CI mg "LOCKED" 4) (nr : mg "range" = none) :
    FnOk P w K mg base CX0 3 f fd ["square", "u", "w"] (spBetween c) := by
  refine F.ok scBetween (fun vs H Q E h => ?_) (fun cdv A outer s H vs Q E hr h => ?_)
  · obtain ⟨q, G, fr, st, t, u, x, rfl, _⟩ := h; rfl
  · obtain ⟨q, G, fr, st, t, u, x, rfl, r0, hu, hx, no, yes⟩ := h
    refine ⟨_, pss_cons (ps_set (i := 3) scBetween.nd rfl (Or.inl rfl) (pe_fld (pv 0) rfl)) (pss_cons (ps_set (i := 4) scBetween.nd rfl (Or.inl rfl) (pe_fld (pe_fld (pv 0) rfl) rfl))
      (pss_cons (ps_for PassesOwn.never rfl (pi_range2 rfl nr (pa_cons pe_int (pa_cons (pe_op on_add (pe_fld (pe_fld (pv 0) rfl) rfl) (pe_nat 1)) pa_nil))) (pg_name (i := 5) scBetween.nd rfl (Or.inl rfl))
        (pss_cons (ps_set (i := 6) scBetween.nd rfl (Or.inl rfl) (pe_op on_and (pe_ix ix_list (pe_fld (pv 3) rfl) (pv 5) (fun _ _ => rfl)) (pe_ix ix_list (pv 4) (pv 1) (fun _ _ => rfl))))
        (pss_one (ps_if (PW.pt (pw_and (pt_nat (pv 6) (fun _ => rfl)) (pw_and1 (pt_cmpR on_eq (pe_op on_andNot (pv 6) (pe_un un_inv (pe_ix ix_list (pv 4) (pv 2) (fun _ _ => rfl)))) (pe_nat 0) (nomark _)))))
          (pss_cons (ps_set (i := 7) scBetween.nd rfl (Or.inl rfl) (pe_op on_andNot (pe_op on_and (pe_ix ix_list (pe_fld (pv 3) rfl) (pv 5) (fun _ _ => rfl)) (pe_ix ix_list (pv 4) (pv 2) (fun _ _ => rfl))) (pe_un un_inv (pv 6))))
          (pss_one (ps_if (pt_nat (pv 7) (fun _ => rfl)) (pss_one (ps_ret (pe_makeG GP hr rfl (pa_cons (pe_num cK rfl) (pa_cons (pv 1) (pa_cons (pv 2) (pa_cons (pe_op on_shl (pe_nat 1) (pv 5))
            (pa_cons (pe_callG GS hr rfl (pa_cons (pv 3) (pa_cons (pe_callG GM hr rfl (pa_cons (pv 7) pa_nil)) (pa_cons (pe_op on_shl (pe_nat 1) (pv 5)) pa_nil)))) pa_nil)))))))) pss_nil))) pss_nil))))
      (pss_one (ps_ret pe_non)))), ?_⟩
    obtain ⟨ob, fr0, sub0, bd, R, wf⟩ := id r0
    have hhi := R.hi
    refine ⟨_, rfl, q, c.S, _, _, _, rfl, ob, T.clS, T.sBoard, fsS_board _ _ _ _, _, rfl, q, c.S, _, _, _, rfl, ob, T.clS, T.sFrame, fsS_frame _ _ _ _, _, c.F, _, _, _, rfl, sub0 _ _ fr0.ob, T.clF, T.fUnits, fsF_units _ _, ?_⟩
    refine ⟨_, rfl, q, c.S, _, _, _, rfl, ob, T.clS, T.sFrame, fsS_frame _ _ _ _, _, c.F, _, _, _, rfl, sub0 _ _ fr0.ob, T.clF, T.fN, fsF_n _ _, _, 1, rfl, rfl, 1, _, rfl, ⟨by omega, by omega, by omega, by omega⟩, ?_⟩
    have en : ((((fr.n + 1 : Nat) : Int)) - 1).toNat = fr.n := by omega
    rw [en]
    refine for_range (fun j σ H' => (∃ v5 v6 v7, σ = [some (.ref q), some (nI u), some (nI x), some (.ref G.B.p), some (.ref G.A.u), v5, v6, v7]) ∧ H = H' ∧ ∀ v, v < j → Kgi2.lockedAt fr st u x (v + 1) = none) ⟨⟨_, _, _, rfl⟩, rfl, fun v h => absurd h (Nat.not_lt_zero _)⟩ ?_ ?_
    · rintro j σ H2 hj ⟨⟨v5, v6, v7, rfl⟩, rfl, nj⟩
      have ej : V.int (1 + (j : Int)) = nI (j + 1) := by congr 1; push_cast; omega
      rw [ej]
      have step : Kgi2.lockedAt fr st u x (j + 1) = none → ∀ v6 v7, (∃ a b d, [some (V.ref q), some (nI u), some (nI x), some (.ref G.B.p), some (.ref G.A.u), some (nI (j + 1)), v6, v7] = [some (.ref q), some (nI u), some (nI x), some (.ref G.B.p), some (.ref G.A.u), a, b, d]) ∧ H = H ∧ ∀ v, v < j + 1 → Kgi2.lockedAt fr st u x (v + 1) = none := fun z v6 v7 => ⟨⟨_, _, _, rfl⟩, rfl, fun v hv => by
        by_cases e : v = j
        · rw [e]; exact z
        · exact nj v (by omega)⟩
      have gp := ints_at (Sq.plT_at (f := fr) (s := st) (v := j + 1) (by omega))
      have gu := ints_at (Sq.masks_at hu)
      have gx := ints_at (Sq.masks_at hx)
      have un := sub0 _ _ fr0.un
      refine ⟨_, rfl, _, c.B, _, _, _, rfl, bd.ob, T.clB, T.bPlaces, fsB_places _ _, _, rfl, G.B.pl, _, _, _, rfl, rfl, SqL.of bd.pl, gp, _, rfl, _, rfl, G.A.u, _, _, _, rfl, rfl, SqL.of un, gu, _, _, rfl, rfl, _, rfl, _, rfl,
        iteB (fun c1 => ⟨_, rfl, _, rfl, _, rfl, G.A.u, _, _, _, rfl, rfl, SqL.of un, gx, _, rfl, _, _, rfl, rfl, _, 0, rfl, rfl, _, rfl, iteB (fun c2 => ?_) (fun c2 => step (Sq.lockedAt_no fun z => of_decide_eq_false c2 z.2) _ _)⟩) (fun c1 => iteF (step (Sq.lockedAt_no fun z => z.1 (by simpa using c1)) _ _))⟩
      have hc : Sq.pl st (j + 1) &&& mask fr u ≠ 0 ∧ sub (Sq.pl st (j + 1) &&& mask fr u) (mask fr x) = 0 := ⟨of_decide_eq_true c1, of_decide_eq_true c2⟩
      obtain ⟨o1, o2⟩ := Sq.lockedAt_lst R hx hc
      refine ⟨_, rfl, _, c.B, _, _, _, rfl, bd.ob, T.clB, T.bPlaces, fsB_places _ _, _, rfl, G.B.pl, _, _, _, rfl, rfl, SqL.of bd.pl, gp, _, rfl, _, rfl, G.A.u, _, _, _, rfl, rfl, SqL.of un, gx, _, _, rfl, rfl, _, rfl, _, rfl, _, _, rfl, rfl, _, rfl, _, rfl, iteB (fun c3 => ?_) (fun c3 => step (o1.trans (Sq.lst_none o2 ?_)) _ _)⟩
      · have c3 : sub (Sq.pl st (j + 1) &&& mask fr x) (Sq.pl st (j + 1) &&& mask fr u) ≠ 0 := of_decide_eq_true c3
        have hb : ∀ y, (sub (Sq.pl st (j + 1) &&& mask fr x) (Sq.pl st (j + 1) &&& mask fr u)).testBit y = true → y < cells fr := fun y hy => wf.lt (Sq.others_has hy)
        obtain ⟨r, hr1, hr2⟩ := Sq.lst_some (kd := 4) (p := u) (o := x) (nu := 2 ^ (j + 1)) o2 (Sq.lock_ne c3 fun y hy => Sq.others_has hy)
        have hfind : (Kgi1.numbers fr).findSome? (Kgi2.lockedAt fr st u x) = some r := Sq.find_numbers hj (o1.trans hr1) nj
        refine ⟨_, rfl, _, rfl, _, rfl, 1, _, rfl, rfl, ⟨by decide, by omega⟩, _, rfl, _, rfl, _, rfl, bits_lt100 R hb, fun p1 hp1 => ⟨_, rfl, 1, _, rfl, rfl, ⟨by decide, by omega⟩, G.B, fr, st, p1, _, _, rfl, bd.same (same_new hp1), wf, upd_same, fun k hk => hb k (Sq.mem_bitsOf.mp hk), bits_len81 R hb, fun p2 as H3 s3 hp2 e3 t3 => ?_⟩⟩
        rw [strikes_eqO, Nat.one_mul] at t3
        intro y dx ny ndy ney
        refine ⟨y, dx, _, _, _, _, _, rfl, upd_same, rfl, ?_⟩
        exact yes r hfind y u x (1 * 2 ^ (j + 1)) _ _ (((same_new hp1).trans s3).trans (same_made ny ndy)) (StAt.made ny ndy e3 t3) (by rw [Nat.one_mul]; exact hr2)
      · have c3 : sub (Sq.pl st (j + 1) &&& mask fr x) (Sq.pl st (j + 1) &&& mask fr u) = 0 := by simpa using c3
        rw [c3, Sq.bitsOf_zero]; rfl
    · rintro σ H2 ⟨⟨v5, v6, v7, rfl⟩, rfl, nj⟩
      exact no (Sq.find_numbers_no nj) H (Same.refl H)
theorem scLocked : FnScope ["square", "units", "u", "unit", "w", "other_unit", "step"] ["square"] (defScope sLocked) := ⟨rfl, rfl, rfl, by decide +kernel, rfl, by decide +kernel, by decide +kernel⟩
theorem ok_locked {f : Addr} {fd : FuncData} (F : Fun K "first_locked" "first_locked" sLocked f fd) (T : Txt K c) (GB : GF P w K mg base 3 "first_locked_between" ["square", "u", "w"] (spBetween c)) (ne : mg "enumerate" = none) :
    FnOk P w K mg base CX0 4 f fd ["square"] (spFind c 4 Kgi2.locked) := by
  refine F.ok scLocked (fun vs H Q E h => ?_) (fun cdv A outer s H vs Q E hr h => ?_)
  · obtain ⟨q, G, fr, st, t, rfl, _⟩ := h; rfl
  · obtain ⟨q, G, fr, st, t, rfl, r0, no, yes⟩ := h
    refine ⟨_, pss_cons (ps_set (i := 1) scLocked.nd rfl (Or.inl rfl) (pe_fld (pe_fld (pv 0) rfl) rfl))
      (pss_cons (ps_for PassesOwn.never rfl (pi_enum rfl ne (pa_cons (pv 1) pa_nil)) (pg_tup rfl (pgs_cons (pg_name (i := 2) scLocked.nd rfl (Or.inl rfl)) (pgs_cons (pg_name (i := 3) scLocked.nd rfl (Or.inl rfl)) pgs_nil)))
        (pss_one (ps_for PassesOwn.never rfl (pi_enum rfl ne (pa_cons (pv 1) pa_nil)) (pg_tup rfl (pgs_cons (pg_name (i := 4) scLocked.nd rfl (Or.inl rfl)) (pgs_cons (pg_name (i := 5) scLocked.nd rfl (Or.inl rfl)) pgs_nil)))
          (pss_one (ps_if (PW.pt (pw_and (pt_cmpR on_ne (pv 2) (pv 4) (nomark _)) (pw_and1 (pt_nat (pe_op on_and (pv 3) (pv 5)) (fun _ => rfl)))))
            (pss_cons (ps_set (i := 6) scLocked.nd rfl (Or.inl rfl) (pe_callG GB hr rfl (pa_cons (pv 0) (pa_cons (pv 2) (pa_cons (pv 4) pa_nil)))))
            (pss_one (ps_if (pt_cmpR op_notN (pv 6) pe_non (nomark _)) (pss_one (ps_ret (pv 6))) pss_nil))) pss_nil)))))
      (pss_one (ps_ret pe_non))), ?_⟩
    obtain ⟨ob, fr0, sub0, bd, R, wf⟩ := id r0
    have un := sub0 _ _ fr0.un
    have inner : ∀ u, u < nU fr → ((Kgi2.unitNumbers fr).filter fun w => w != u).findSome? (fun w => (Kgi1.numbers fr).findSome? (Kgi2.lockedAt fr st u w)) = (List.range (nU fr)).findSome? fun w => if (w != u) = true then (Kgi1.numbers fr).findSome? (Kgi2.lockedAt fr st u w) else none := fun u _ => find_filter_if
    refine ⟨_, rfl, q, c.S, _, _, _, rfl, ob, T.clS, T.sFrame, fsS_frame _ _ _ _, _, c.F, _, _, _, rfl, sub0 _ _ fr0.ob, T.clF, T.fUnits, fsF_units _ _, _, rfl, _, _, rfl, SqL.of un, ?_⟩
    refine for_enum (K := K) (a := G.A.u) (xs := nIs (masks fr)) (fun i σ H' => (∃ v2 v3 v4 v5 v6, σ = [some (.ref q), some (.ref G.A.u), v2, v3, v4, v5, v6]) ∧ Same H H' ∧ ∀ u, u < i → (List.range (nU fr)).findSome? (fun w => if (w != u) = true then (Kgi1.numbers fr).findSome? (Kgi2.lockedAt fr st u w) else none) = none)
      ⟨⟨_, _, _, _, _, rfl⟩, Same.refl H, fun j h => absurd h (Nat.not_lt_zero _)⟩ (fun i σ H' _ ⟨_, sm, _⟩ => SqL.of (sm _ _ un)) ?_ ?_
    · rintro i y σ H' tt hy ⟨⟨v2, v3, v4, v5, v6, rfl⟩, sm0, none⟩ ht
      obtain ⟨m, hm, rfl⟩ := of_ints hy
      have hi : i < nU fr := by have := (List.getElem?_eq_some_iff.mp hm).1; rw [Sq.masks_len] at this; exact this
      rw [Sq.masks_at hi] at hm
      cases hm
      have sm := sm0.trans (same_new (o := .tup [nI i, nI (mask fr i)]) ht)
      generalize upd H' tt (.tup [nI i, nI (mask fr i)]) = H1 at sm ⊢
      refine ⟨_, rfl, _, _, rfl, SqL.of (sm _ _ un), ?_⟩
      refine for_enum (K := K) (a := G.A.u) (xs := nIs (masks fr)) (fun j σ H' => (∃ v4 v5 v6, σ = [some (.ref q), some (.ref G.A.u), some (nI i), some (nI (mask fr i)), v4, v5, v6]) ∧ Same H H' ∧ ∀ w, w < j → w ≠ i → (Kgi1.numbers fr).findSome? (Kgi2.lockedAt fr st i w) = Option.none)
        ⟨⟨_, _, _, rfl⟩, sm, fun j h => absurd h (Nat.not_lt_zero _)⟩ (fun i σ H' _ ⟨_, sm, _⟩ => SqL.of (sm _ _ un)) ?_ ?_
      · rintro j y σ H' tt hy ⟨⟨v4, v5, v6, rfl⟩, sm0, nj⟩ ht
        obtain ⟨m, hm, rfl⟩ := of_ints hy
        have hj : j < nU fr := by have := (List.getElem?_eq_some_iff.mp hm).1; rw [Sq.masks_len] at this; exact this
        rw [Sq.masks_at hj] at hm
        cases hm
        have sm := sm0.trans (same_new (o := .tup [nI j, nI (mask fr j)]) ht)
        generalize upd H' tt (.tup [nI j, nI (mask fr j)]) = H1 at sm ⊢
        have step : ∀ H3, Same H H3 → (j ≠ i → (Kgi1.numbers fr).findSome? (Kgi2.lockedAt fr st i j) = Option.none) → ∀ v6, (∃ a b d, [some (V.ref q), some (.ref G.A.u), some (nI i), some (nI (mask fr i)), some (nI j), some (nI (mask fr j)), v6] = [some (.ref q), some (.ref G.A.u), some (nI i), some (nI (mask fr i)), a, b, d]) ∧ Same H H3 ∧ ∀ w, w < j + 1 → w ≠ i → (Kgi1.numbers fr).findSome? (Kgi2.lockedAt fr st i w) = Option.none := fun H3 s3 z v6 => ⟨⟨_, _, _, rfl⟩, s3, fun v hv hne => by
          by_cases e : v = j
          · subst e; exact z hne
          · exact nj v (by omega) hne⟩
        refine ⟨_, rfl, _, rfl, _, _, rfl, rfl, _, rfl, iteB (fun c1 => ⟨_, rfl, _, rfl, _, _, rfl, rfl, _, rfl, iteB (fun c2 => ?_) (fun c2 => step H1 sm (fun _ => Sq.find_numbers_no fun v _ => Sq.lockedAt_apart (by simpa using c2)) _)⟩) (fun c1 => iteF (step H1 sm (fun z => absurd (show i = j by simpa using c1).symm z) _))⟩
        have hne : i ≠ j := by simpa using c1
        refine ⟨_, rfl, _, rfl, _, rfl, q, G, fr, st, t, i, j, rfl, r0.same sm, hi, hj, fun z H2 s2 => ?_, fun r z p pl ot nu l H2 s2 a1 a2 => ?_⟩
        · exact ⟨_, rfl, rfl, _, rfl, step H2 (sm.trans s2) (fun _ => z) _⟩
        · refine ⟨_, rfl, rfl, _, rfl, _, rfl, yes r ?_ p pl ot nu l H2 (sm.trans s2) a1 a2⟩
          refine Sq.find_range hi ?_ (fun u hu => (inner u (by omega)).trans (none u hu))
          rw [inner i hi]
          refine Sq.find_range hj ?_ fun w hw => ?_
          · rw [if_pos (by simpa using hne.symm)]; exact z
          · by_cases e : w = i
            · rw [if_neg (by simp [e])]
            · rw [if_pos (by simpa using e)]; exact nj w hw e
      · rintro σ H2 ⟨⟨v4, v5, v6, rfl⟩, sm2, nj⟩
        refine ⟨⟨_, _, _, _, _, rfl⟩, sm2, fun u hu => ?_⟩
        by_cases e : u = i
        · rw [e]
          refine Sq.find_range_no fun w hw => ?_
          by_cases e : w = i
          · rw [if_neg (by simp [e])]
          · rw [if_pos (by simpa using e)]; exact nj w (by rw [ints_len, Sq.masks_len]; exact hw) e
        · exact none u (by omega)
    · rintro σ H' ⟨⟨v2, v3, v4, v5, v6, rfl⟩, sm, none⟩
      refine no (Sq.find_range_no fun j hj => ?_) H' sm
      exact (inner j hj).trans (none j (by rw [ints_len, Sq.masks_len]; exact hj))
end
end Py
namespace Py
open PySem PySem.Spec PyProof.Rows L2
open Kgi1 (cells)
open Kgi2 (at_ has unit)
open Sq (Wf Rt sub nU mask masks plT)
section
variable {P : Program} {w : World} {K : PySem.W.Frag} {mg : Str → Option Value} {base : Heap} {c : Cs}
theorem scFewIn : FnScope ["square", "u", "m", "sets", "board", "cells", "numbers", "few", "strikes", "k"] ["square", "u", "m", "sets"] (defScope sFewIn) := ⟨rfl, rfl, rfl, by decide +kernel, rfl, by decide +kernel, by decide +kernel⟩
theorem unit_len {f : Fm} (R : Rt f) {u : Nat} (hu : u < nU f) : (unit f u).length ≤ 100 := by
  rw [← Sq.bits_mask R hu]
  exact bits_len (mask_lt R hu)
theorem ok_fewIn {f : Addr} {fd : FuncData} (F : Fun K "first_few_in_unit" "first_few_in_unit" sFewIn f fd) (T : Txt K c) (MC : MF P w K mg base 3 c.F "cells_of" ["self", "u"] (spCellsOf c))
    (GS : GF P w K mg base 1 "strikes_of" ["board", "cells", "numbers"] (spStrikesOf c K)) (GP : CF P w K mg base 1 c.P "Step" ["self", "kind", "place", "other", "numbers", "strikes"] (spStep0 c)) (cK : CI mg "FEW_FOR_FEW" 5) (nl : mg "len" = none) :
    FnOk P w K mg base CX0 4 f fd ["square", "u", "m", "sets"] (spFewIn c) := by
  refine F.ok scFewIn (fun vs H Q E h => ?_) (fun cdv A outer s H vs Q E hr h => ?_)
  · obtain ⟨q, a, G, fr, st, t, u, m, xs, rfl, _⟩ := h; rfl
  · obtain ⟨q, a, G, fr, st, t, u, m, xs, rfl, r0, hu, ha, no, yes⟩ := h
    refine ⟨_, pss_cons (ps_set (i := 4) scFewIn.nd rfl (Or.inr rfl) (pe_fld (pv 0) rfl)) (pss_cons (ps_set (i := 5) scFewIn.nd rfl (Or.inl rfl) (pe_methG (pe_fld (pv 0) rfl) T.clF MC hr (pa_cons (pv 1) pa_nil)))
      (pss_cons (ps_for PassesOwn.never rfl (pi_list (pv 3)) (pg_name (i := 6) scFewIn.nd rfl (Or.inr rfl))
        (pss_cons (ps_set (i := 7) scFewIn.nd rfl (Or.inr rfl) (pe_lc (own := [("k", 9)]) rfl scFewIn.nd (pi_list (pv 5)) (blkOk_by (N := ["square", "u", "m", "sets", "board", "cells", "numbers", "few", "strikes", "k"]) (sc := defScope sFewIn) (by decide +kernel))
            (fun _ _ _ _ _ => pg_name (i := 9) scFewIn.nd rfl (Or.inl rfl))
            (fun _ _ _ _ _ => pts_one (PW.pt (pw_and (pt_nat (pe_ix (ix_listB K) (pe_fldB K (pv 4) rfl) (pv 9) (fun _ _ => rfl)) (fun _ => rfl)) (pw_and1 (pt_cmpR on_eq (pe_op on_andNot (pe_ix (ix_listB K) (pe_fldB K (pv 4) rfl) (pv 9) (fun _ _ => rfl)) (pe_un un_inv (pv 6))) (pe_nat 0) (nomark _))))))
            (fun _ _ _ _ _ => pv 9)))
        (pss_one (ps_if (pt_cmpR on_eq (pe_callB (call_lenB K) (by rfl) nl PySem.boot_len (pa_cons (pv 7) pa_nil)) (pv 2) (nomark _))
          (pss_cons (ps_set (i := 8) scFewIn.nd rfl (Or.inl rfl) (pe_callG GS hr rfl (pa_cons (pv 4) (pa_cons (pe_lc (own := [("k", 9)]) rfl scFewIn.nd (pi_list (pv 5)) (blkOk_by (N := ["square", "u", "m", "sets", "board", "cells", "numbers", "few", "strikes", "k"]) (sc := defScope sFewIn) (by decide +kernel))
              (fun _ _ _ _ _ => pg_name (i := 9) scFewIn.nd rfl (Or.inl rfl)) (fun _ _ _ _ _ => pts_one (pt_cmpR (op_notInB K) (pv 9) (pv 7) (by with_unfolding_all rfl))) (fun _ _ _ _ _ => pv 9)) (pa_cons (pv 6) pa_nil)))))
          (pss_one (ps_if (pt_truth (pv 8) (fun _ => rfl)) (pss_one (ps_ret (pe_makeG GP hr rfl (pa_cons (pe_num cK rfl) (pa_cons (pv 1) (pa_cons (pv 2) (pa_cons (pv 6) (pa_cons (pv 8) pa_nil)))))))) pss_nil))) pss_nil))))
      (pss_one (ps_ret pe_non)))), ?_⟩
    obtain ⟨ob, fr0, sub0, bd, R, wf⟩ := id r0
    have ul := unit_len R hu
    refine ⟨_, rfl, q, c.S, _, _, _, rfl, ob, T.clS, T.sBoard, fsS_board _ _ _ _, ?_⟩
    refine ⟨_, rfl, q, c.S, _, _, _, rfl, ob, T.clS, T.sFrame, fsS_frame _ _ _ _, _, _, _, rfl, sub0 _ _ fr0.ob, fsF_cells_of _ _, _, rfl, _, _, _, _, fr, u, rfl, sub0 _ _ fr0.ob, fsF_units _ _, sub0 _ _ fr0.un, R, hu, fun cu hcu => ?_⟩
    have s1 : Same H (upd H cu (.lst (nIs (unit fr u)))) := same_new hcu
    generalize hH1 : upd H cu (.lst (nIs (unit fr u))) = H1 at s1 ⊢
    have ecu : H1 cu = some (.lst (nIs (unit fr u))) := by rw [← hH1]; exact upd_same
    refine ⟨_, rfl, a, rfl, ⟨_, SqL.of (s1 _ _ ha)⟩, ?_⟩
    refine for_list (K := K) (a := a) (xs := nIs xs) (fun i σ H' => (∃ v6 v7 v8, σ = [some (.ref q), some (nI u), some (nI m), some (.ref a), some (.ref G.B.p), some (.ref cu), v6, v7, v8, none]) ∧ Same H1 H' ∧ ∀ (j : Nat) x, j < i → xs[j]? = some x → Kgi2.fewAt fr st m u x = none)
      ⟨⟨_, _, _, rfl⟩, Same.refl H1, fun j x h => absurd h (Nat.not_lt_zero _)⟩ (fun i σ H' _ ⟨_, sm, _⟩ => SqL.of (sm _ _ (s1 _ _ ha))) ?_ ?_
    · rintro i y σ H' hy ⟨⟨v6, v7, v8, rfl⟩, sm, none⟩
      obtain ⟨x, hx, rfl⟩ := of_ints hy
      obtain ⟨ob, fr1, sub1, bd1, _, _⟩ := r0.same (s1.trans sm)
      -- few = [..]
      refine ⟨_, rfl, cu, rfl, ⟨_, SqL.of (sm _ _ ecu)⟩, fun D hD => ?_⟩
      have cuD : cu ≠ D := ne_of_none (sm _ _ ecu) hD
      refine lc_list (K := K) (a := cu) (xs := nIs (unit fr u)) (fun i H2 => Same H' H2 ∧ H2 D = some (.lst (nIs (((unit fr u).take i).filter fun k => at_ st k != 0 && sub (at_ st k) x == 0)))) ⟨same_new hD, upd_same⟩ (fun i H2 _ ⟨s2, _⟩ => SqL.of (s2 _ _ (sm _ _ ecu))) ?_ ?_
      · rintro j y H2 hy ⟨s2, e2⟩
        obtain ⟨k, hk, rfl⟩ := of_ints hy
        have hkl := Sq.unit_lt hu (List.mem_of_getElem? hk)
        have bd2 := bd1.same s2
        have tk : ((unit fr u).take (j + 1)).filter (fun k => at_ st k != 0 && sub (at_ st k) x == 0) = ((unit fr u).take j).filter (fun k => at_ st k != 0 && sub (at_ st k) x == 0) ++ [k].filter (fun k => at_ st k != 0 && sub (at_ st k) x == 0) := by rw [Sq.take_snoc hk, List.filter_append]
        have nono : (at_ st k != 0 && sub (at_ st k) x == 0) = false → Same H' H2 ∧ H2 D = some (.lst (nIs (((unit fr u).take (j + 1)).filter fun k => at_ st k != 0 && sub (at_ st k) x == 0))) := fun z => ⟨s2, by
          rw [tk, List.filter_cons, if_neg (by rw [z]; simp)]
          simpa using e2⟩
        refine ⟨rfl, _, rfl, _, c.B, _, _, _, rfl, bd2.ob, T.clB, T.bCells, fsB_cells _ _, _, rfl, G.B.cl, _, _, _, rfl, rfl, SqL.of bd2.cl, ints_at (at_get wf hkl), _, rfl, iteB (fun c1 => ⟨_, rfl, _, c.B, _, _, _, rfl, bd2.ob, T.clB, T.bCells, fsB_cells _ _, _, rfl, G.B.cl, _, _, _, rfl, rfl, SqL.of bd2.cl, ints_at (at_get wf hkl), _, rfl, _, rfl, _, _, rfl, rfl, _, 0, rfl, rfl, _, rfl, iteB (fun c2 => ?_) (fun c2 => nono ?_)⟩) (fun c1 => iteF (nono ?_))⟩
        · have h1 : at_ st k ≠ 0 := of_decide_eq_true c1
          have h2 : sub (at_ st k) x = 0 := of_decide_eq_true c2
          refine ⟨_, rfl, _, e2, ?_, fun b o z => ?_, ?_⟩
          · rw [ints_len]
            have : (((unit fr u).take j).filter fun k => at_ st k != 0 && sub (at_ st k) x == 0).length ≤ (unit fr u).length := Nat.le_trans (List.length_filter_le _ _) (by simp; omega)
            exact small1000 (by omega)
          · rw [upd_ne (ne_of_none z hD)]; exact s2 _ _ z
          · rw [upd_same, ints_snoc, tk, List.filter_cons, if_pos (by simp [h1, h2])]; rfl
        · have h2 : ¬ sub (at_ st k) x = 0 := of_decide_eq_false c2
          simp [h2]
        · have h1 : at_ st k = 0 := by simpa using c1
          simp [h1]
      rintro H2 ⟨s2, e2⟩
      rw [ints_len, List.take_length] at e2
      have e2 : H2 D = some (.lst (nIs (Sq.fewC fr st u x))) := e2
      have s12 := sm.trans s2
      have next : ∀ H3, Same H1 H3 → Kgi2.fewAt fr st m u x = Option.none → ∀ v8, (∃ b d e, [some (V.ref q), some (nI u), some (nI m), some (.ref a), some (.ref G.B.p), some (.ref cu), some (nI x), some (.ref D), v8, Option.none] = [some (.ref q), some (nI u), some (nI m), some (.ref a), some (.ref G.B.p), some (.ref cu), b, d, e, Option.none]) ∧ Same H1 H3 ∧
          ∀ (j : Nat) x, j < i + 1 → xs[j]? = some x → Kgi2.fewAt fr st m u x = Option.none := fun H3 s3 z v8 => ⟨⟨_, _, _, rfl⟩, s3, fun j y hj hy => by
        by_cases e : j = i
        · rw [e, hx] at hy
          cases hy
          exact z
        · exact none j y (by omega) hy⟩
      refine ⟨_, rfl, D, _, rfl, .inl (SqL.of e2), _, rfl, _, _, rfl, rfl, _, rfl, iteB (fun c1 => ?_) (fun c1 => next H2 s12 (Sq.fewAt_no ?_) _)⟩
      · have hlen : (Sq.fewC fr st u x).length = m := by
          have := of_decide_eq_true c1
          rw [ints_len] at this; exact this
        obtain ⟨o1, o2⟩ := Sq.fewAt_lst R hu hlen
        refine ⟨_, rfl, _, rfl, cu, rfl, ⟨_, SqL.of (s12 _ _ ecu)⟩, fun D2 hD2 => ?_⟩
        refine lc_list (K := K) (a := cu) (xs := nIs (unit fr u)) (fun i H3 => Same H2 H3 ∧ H3 D2 = some (.lst (nIs (((unit fr u).take i).filter fun k => !((Sq.fewC fr st u x).contains k))))) ⟨same_new hD2, upd_same⟩ (fun i H3 _ ⟨s3, _⟩ => SqL.of (s3 _ _ (s12 _ _ ecu))) ?_ ?_
        · rintro j y H3 hy ⟨s3, e3⟩
          obtain ⟨k, hk, rfl⟩ := of_ints hy
          have tk : ((unit fr u).take (j + 1)).filter (fun k => !((Sq.fewC fr st u x).contains k)) = ((unit fr u).take j).filter (fun k => !((Sq.fewC fr st u x).contains k)) ++ [k].filter (fun k => !((Sq.fewC fr st u x).contains k)) := by rw [Sq.take_snoc hk, List.filter_append]
          refine ⟨rfl, _, rfl, _, rfl, D, _, rfl, .inl (SqL.of (s3 _ _ e2)), rfl, ints_flat _, _, rfl, iteB (fun c2 => ?_) (fun c2 => ?_)⟩
          · rw [if_pos rfl, inV_nIs] at c2
            refine ⟨_, rfl, _, e3, ?_, fun b o z => ?_, ?_⟩
            · rw [ints_len]
              have : (((unit fr u).take j).filter fun k => !((Sq.fewC fr st u x).contains k)).length ≤ (unit fr u).length := Nat.le_trans (List.length_filter_le _ _) (by simp; omega)
              exact small1000 (by omega)
            · rw [upd_ne (ne_of_none z hD2)]; exact s3 _ _ z
            · rw [upd_same, ints_snoc, tk, List.filter_cons, if_pos c2]; rfl
          · rw [if_pos rfl, inV_nIs] at c2
            refine ⟨s3, ?_⟩
            rw [tk, List.filter_cons, if_neg (by rw [c2]; simp)]
            simpa using e3
        rintro H3 ⟨s3, e3⟩
        rw [ints_len, List.take_length] at e3
        have s13 := s12.trans s3
        refine ⟨_, rfl, G.B, fr, st, D2, _, _, rfl, bd.same (s1.trans s13), wf, e3, fun k hk => Sq.unit_lt hu (List.mem_filter.mp hk).1, ?_, fun p2 as H4 s4 hp2 e4 t4 => ?_⟩
        · have : ((unit fr u).filter fun k => !((Sq.fewC fr st u x).contains k)).length ≤ (unit fr u).length := List.length_filter_le _ _
          omega
        rw [strikes_eqO] at t4
        have s14 := s13.trans s4
        refine ⟨_, rfl, _, tru_list e4, iteB (fun cd => ?_) (fun cd => ?_)⟩
        · have hne : ¬ as = [] := of_decide_eq_true cd
          obtain ⟨r, hr1, hr2⟩ := Sq.lst_some (kd := 5) (p := u) (o := m) (nu := x) o2 (fun z => hne ((tups_nil t4).mpr z))
          have hfind : xs.findSome? (Kgi2.fewAt fr st m u) = some r := Sq.find_at hx (o1.trans hr1) fun j y hj hy => none j y hj hy
          refine ⟨_, rfl, _, rfl, _, rfl, _, rfl, ?_⟩
          intro y dx ny ndy ney
          refine ⟨y, dx, _, _, _, _, _, rfl, upd_same, rfl, ?_⟩
          exact yes r hfind y u m x _ _ ((s1.trans s14).trans (same_made ny ndy)) (StAt.made ny ndy e4 t4) hr2
        · have hz : as = [] := by simpa using cd
          exact next H4 s14 (o1.trans (Sq.lst_none o2 ((tups_nil t4).mp hz))) _
      · intro z
        have := of_decide_eq_false c1
        rw [ints_len] at this; exact this z
    · rintro σ H' ⟨⟨v6, v7, v8, rfl⟩, sm, none⟩
      refine no (Sq.find_no fun j x hx => none j x ?_ hx) H' (s1.trans sm)
      rw [ints_len]; exact (List.getElem?_eq_some_iff.mp hx).1
theorem scFew : FnScope ["square", "frame", "m", "sets", "u", "step"] ["square"] (defScope sFew) := ⟨rfl, rfl, rfl, by decide +kernel, rfl, by decide +kernel, by decide +kernel⟩
theorem ok_few {f : Addr} {fd : FuncData} (F : Fun K "first_few_for_few" "first_few_for_few" sFew f fd) (T : Txt K c) (GB : GF P w K mg base 4 "first_few_in_unit" ["square", "u", "m", "sets"] (spFewIn c)) (nr : mg "range" = none) (nl : mg "len" = none) :
    FnOk P w K mg base CX0 5 f fd ["square"] (spFind c 5 Kgi2.few) := by
  refine F.ok scFew (fun vs H Q E h => ?_) (fun cdv A outer s H vs Q E hr h => ?_)
  · obtain ⟨q, G, fr, st, t, rfl, _⟩ := h; rfl
  · obtain ⟨q, G, fr, st, t, rfl, r0, no, yes⟩ := h
    refine ⟨_, pss_cons (ps_set (i := 1) scFew.nd rfl (Or.inl rfl) (pe_fld (pv 0) rfl))
      (pss_cons (ps_for PassesOwn.never rfl (pi_tup (pe_tup (pa_cons (pe_tup (pa_cons (pe_nat 2) (pa_cons (pe_fld (pv 1) rfl) pa_nil))) (pa_cons (pe_tup (pa_cons (pe_nat 3) (pa_cons (pe_fld (pv 1) rfl) pa_nil))) pa_nil)))) (pg_tup rfl (pgs_cons (pg_name (i := 2) scFew.nd rfl (Or.inl rfl)) (pgs_cons (pg_name (i := 3) scFew.nd rfl (Or.inl rfl)) pgs_nil)))
        (pss_one (ps_for PassesOwn.never rfl (pi_range1 rfl nr (pa_cons (pe_callB (call_lenB K) (by rfl) nl PySem.boot_len (pa_cons (pe_fld (pv 1) rfl) pa_nil)) pa_nil)) (pg_name (i := 4) scFew.nd rfl (Or.inl rfl))
          (pss_cons (ps_set (i := 5) scFew.nd rfl (Or.inl rfl) (pe_callG GB hr rfl (pa_cons (pv 0) (pa_cons (pv 4) (pa_cons (pv 2) (pa_cons (pv 3) pa_nil))))))
          (pss_one (ps_if (pt_cmpR op_notN (pv 5) pe_non (nomark _)) (pss_one (ps_ret (pv 5))) pss_nil))))))
      (pss_one (ps_ret pe_non))), ?_⟩
    obtain ⟨ob, fr0, sub0, bd, R, wf⟩ := id r0
    have h27 := nU27 R.hi
    refine ⟨_, rfl, q, c.S, _, _, _, rfl, ob, T.clS, T.sFrame, fsS_frame _ _ _ _, ?_⟩
    refine ⟨_, rfl, _, c.F, _, _, _, rfl, sub0 _ _ fr0.ob, T.clF, T.fPairs, fsF_pairs _ _, (by show 2 ≤ sizeLine; decide), fun t1 ht1 => ?_⟩
    have s1 : Same H (upd H t1 (.tup [nI 2, .ref G.A.pr])) := same_new ht1
    refine ⟨_, rfl, _, c.F, _, _, _, rfl, s1 _ _ (sub0 _ _ fr0.ob), T.clF, T.fTriples, fsF_triples _ _, (by show 2 ≤ sizeLine; decide), fun t2 ht2 => ⟨(by show 2 ≤ sizeLine; decide), fun t3 ht3 => ⟨t3, rfl, ⟨_, SqT.of upd_same⟩, ?_⟩⟩⟩
    have s2 := s1.trans (same_new (o := .tup [nI 3, .ref G.A.tr]) ht2)
    have e1 : (upd (upd H t1 (.tup [nI 2, .ref G.A.pr])) t2 (.tup [nI 3, .ref G.A.tr])) t1 = some (.tup [nI 2, .ref G.A.pr]) := same_new ht2 _ _ upd_same
    have e2 : (upd (upd H t1 (.tup [nI 2, .ref G.A.pr])) t2 (.tup [nI 3, .ref G.A.tr])) t2 = some (.tup [nI 3, .ref G.A.tr]) := upd_same
    have s3 := s2.trans (same_new (o := .tup [V.ref t1, .ref t2]) ht3)
    have e1 := same_new (o := .tup [V.ref t1, .ref t2]) ht3 _ _ e1
    have e2 := same_new (o := .tup [V.ref t1, .ref t2]) ht3 _ _ e2
    generalize hH1 : upd (upd (upd H t1 (.tup [nI 2, .ref G.A.pr])) t2 (.tup [nI 3, .ref G.A.tr])) t3 (.tup [V.ref t1, .ref t2]) = H1 at s3 e1 e2 ⊢
    have e3 : H1 t3 = some (.tup [V.ref t1, .ref t2]) := by rw [← hH1]; exact upd_same
    refine for_tup (K := K) (a := t3) (xs := [V.ref t1, .ref t2]) (fun i σ H' => (∃ v2 v3 v4 v5, σ = [some (.ref q), some (.ref G.A.p), v2, v3, v4, v5]) ∧ Same H1 H' ∧ ∀ j, j < i → (Kgi2.unitNumbers fr).findSome? (fun u => (Kgi2.sets fr (j + 2)).findSome? (Kgi2.fewAt fr st (j + 2) u)) = none)
      ⟨⟨_, _, _, _, rfl⟩, Same.refl H1, fun j h => absurd h (Nat.not_lt_zero _)⟩ (fun i σ H' _ ⟨_, sm, _⟩ => SqT.of (sm _ _ e3)) ?_ ?_
    · rintro i y σ H' hy ⟨⟨v2, v3, v4, v5, rfl⟩, sm, none⟩
      have hc : ∃ ti ai, y = .ref ti ∧ H1 ti = some (.tup [nI (i + 2), .ref ai]) ∧ H ai = some (.lst (nIs (Kgi2.sets fr (i + 2)))) ∧ i < 2 := by
        match i, hy with
        | 0, hy => exact ⟨t1, G.A.pr, (Option.some.inj hy).symm, e1, sub0 _ _ fr0.pr, by decide⟩
        | 1, hy => exact ⟨t2, G.A.tr, (Option.some.inj hy).symm, e2, sub0 _ _ fr0.tr, by decide⟩
        | i + 2, hy => simp at hy
      obtain ⟨ti, ai, rfl, eti, eai, hi2⟩ := hc
      refine two_of (SqT.of (sm _ _ eti)) ?_
      have s4 := s3.trans sm
      obtain ⟨ob, fr1, sub1, bd, _, _⟩ := r0.same s4
      refine ⟨_, rfl, _, c.F, _, _, _, rfl, sub1 _ _ fr1.ob, T.clF, T.fUnits, fsF_units _ _, _, _, rfl, .inl (SqL.of (sub1 _ _ fr1.un)), ((nU fr : Nat) : Int), ?_, by omega, by omega, ?_⟩
      · rw [ints_len, Sq.masks_len]
      rw [Int.toNat_natCast]
      refine for_range (fun j σ H' => (∃ v4 v5, σ = [some (.ref q), some (.ref G.A.p), some (nI (i + 2)), some (.ref ai), v4, v5]) ∧ Same H1 H' ∧ ∀ u, u < j → (Kgi2.sets fr (i + 2)).findSome? (Kgi2.fewAt fr st (i + 2) u) = Option.none) ⟨⟨_, _, rfl⟩, sm, fun v h => absurd h (Nat.not_lt_zero _)⟩ ?_ ?_
      · rintro j σ H2 hj ⟨⟨v4, v5, rfl⟩, sm2, nj⟩
        have ej : V.int (0 + (j : Int)) = nI j := by congr 1; omega
        rw [ej]
        refine ⟨_, rfl, _, rfl, _, rfl, _, rfl, q, ai, G, fr, st, t, j, i + 2, _, rfl, r0.same (s3.trans sm2), hj, (s3.trans sm2) _ _ eai, fun z H3 s5 => ?_, fun r z p pl ot nu l H3 s5 a1 a2 => ?_⟩
        · refine ⟨_, rfl, rfl, _, rfl, ⟨_, _, rfl⟩, sm2.trans s5, fun u hu => ?_⟩
          by_cases e : u = j
          · rw [e]; exact z
          · exact nj u (by omega)
        · refine ⟨_, rfl, rfl, _, rfl, _, rfl, yes r ?_ p pl ot nu l H3 ((s3.trans sm2).trans s5) a1 a2⟩
          have hf : (Kgi2.unitNumbers fr).findSome? (fun u => (Kgi2.sets fr (i + 2)).findSome? (Kgi2.fewAt fr st (i + 2) u)) = some r := Sq.find_range hj z nj
          unfold Kgi2.few
          match i, hi2, none, hf with
          | 0, _, _, hf => rw [List.findSome?_cons, hf]
          | 1, _, none, hf => rw [List.findSome?_cons, none 0 (by decide), List.findSome?_cons, hf]
      · rintro σ H2 ⟨⟨v4, v5, rfl⟩, sm2, nj⟩
        refine ⟨⟨_, _, _, _, rfl⟩, sm2, fun j hj => ?_⟩
        by_cases e : j = i
        · rw [e]; exact Sq.find_range_no nj
        · exact none j (by omega)
    · rintro σ H' ⟨⟨v2, v3, v4, v5, rfl⟩, sm, none⟩
      refine no ?_ H' (s3.trans sm)
      unfold Kgi2.few
      rw [List.findSome?_cons, none 0 (by show 0 < 2; decide), List.findSome?_cons, none 1 (by show 1 < 2; decide)]; rfl
end
end Py
namespace Py
open PySem PySem.Spec PyProof.Rows L2
open Kgi1 (cells)
open Kgi2 (at_ has unit)
open Sq (Wf Rt sub nU mask masks plT)
abbrev sTrial0 : Stmt := inClass (top 29) 0
abbrev sHere : Stmt := inClass (top 29) 1
abbrev sAll : Stmt := inClass (top 29) 2
abbrev sFollow : Stmt := inClass (top 29) 3
abbrev sEnds : Stmt := inClass (top 29) 4
abbrev sLookC : Stmt := inClass (top 29) 5
abbrev sLookU : Stmt := inClass (top 29) 6
def fsT (a b d : V) : List (Str × V) := [("frame", a), ("board", b), ("news", d)]
theorem fsT_frame (a b d : V) : (fsT a b d).lookup ("frame" : Str) = some a := by rfl
theorem fsT_board (a b d : V) : (fsT a b d).lookup ("board" : Str) = some b := by rfl
theorem fsT_news (a b d : V) : (fsT a b d).lookup ("news" : Str) = some d := by rfl
theorem fsT_here (a b d : V) : (fsT a b d).lookup ("strike_here" : Str) = none := by rfl
theorem fsT_all (a b d : V) : (fsT a b d).lookup ("strike_all" : Str) = none := by rfl
theorem fsT_lookC (a b d : V) : (fsT a b d).lookup ("look_at_cell" : Str) = none := by rfl
theorem fsT_lookU (a b d : V) : (fsT a b d).lookup ("look_at_unit" : Str) = none := by rfl
theorem fsT_follow (a b d : V) : (fsT a b d).lookup ("follow" : Str) = none := by rfl
theorem fsT_ends (a b d : V) : (fsT a b d).lookup ("ends_broken" : Str) = none := by rfl
structure TAd where
  p : Addr
  dx : Addr
  nl : Addr
  B : Bd
def TAd.mu (T : TAd) : List Addr := [T.B.cl, T.B.pl, T.nl]
structure TrAt (c : Cs) (H : Hp) (T : TAd) (fp : Addr) (f : Fm) (t : Sq.TS) : Prop where
  ob : H T.p = some (.ins c.T T.dx (fsT (.ref fp) (.ref T.B.p) (.ref T.nl)))
  bd : BdAt c H T.B f t.1
  nw : ∃ as, H T.nl = some (.lst (as.map V.ref)) ∧ Tups H as t.2
  n1 : T.nl ≠ T.B.cl
  n2 : T.nl ≠ T.B.pl
theorem TrAt.kp {c : Cs} {M : List Addr} {H H' : Hp} {T : TAd} {fp : Addr} {f : Fm} {t : Sq.TS} (a : TrAt c H T fp f t) (k : Kp M H H') (h : ∀ b ∈ T.mu, b ∉ M) : TrAt c H' T fp f t := by
  obtain ⟨as, h1, h2⟩ := a.nw
  exact ⟨k.oth _ _ a.ob (fun _ e => by cases e), a.bd.kp k (h _ (by simp [TAd.mu])) (h _ (by simp [TAd.mu])), ⟨as, k.lst _ _ h1 (h _ (by simp [TAd.mu])), h2.kp k⟩, a.n1, a.n2⟩
theorem TrAt.same {c : Cs} {H H' : Hp} {T : TAd} {fp : Addr} {f : Fm} {t : Sq.TS} (a : TrAt c H T fp f t) (k : Same H H') : TrAt c H' T fp f t := a.kp (M := []) (Kp.same k) (by simp)
theorem TrAt.new {c : Cs} {H : Hp} {T : TAd} {fp : Addr} {f : Fm} {t : Sq.TS} (a : TrAt c H T fp f t) {p : Addr} (h : H p = none) : p ∉ T.mu := by
  obtain ⟨as, h1, h2⟩ := a.nw
  intro z
  simp [TAd.mu] at z
  rcases z with rfl | rfl | rfl
  · rw [a.bd.cl] at h; cases h
  · rw [a.bd.pl] at h; cases h
  · rw [h1] at h; cases h
structure Sz (f : Fm) (t : Sq.TS) : Prop where
  wf : Wf f t.1
  siz : Sq.card t.1 + t.2.length ≤ cells f * f.n
theorem Sz.ran {f : Fm} {t t' : Sq.TS} (s : Sz f t) (r : Sq.Ran f t t') : Sz f t' := ⟨r.wf, Nat.le_trans r.siz s.siz⟩
theorem Sz.small {f : Fm} (R : Rt f) {t : Sq.TS} (s : Sz f t) : t.2.length ≤ 729 := by
  have h1 := s.siz
  have h2 : cells f * f.n ≤ 81 * 9 := Nat.mul_le_mul (cells81 R.hi) R.hi
  omega
theorem hit_ran {f : Fm} (R : Rt f) {t : Sq.TS} (w : Wf f t.1) {k : Nat} {z : Int} (hk : k < cells f) : Sq.Ran f t (Sq.hitAt t k (andZ (at_ t.1 k) z)) := Sq.Ran.hit R w hk fun v hv => andZ_bit hv
def spHere (c : Cs) : Sp := fun vs H Q _ => ∃ (T : TAd) (fp : Addr) (f : Fm) (t : Sq.TS) (k : Nat) (z : Int), vs = [.ref T.p, nI k, .int z] ∧ TrAt c H T fp f t ∧ Rt f ∧ Sz f t ∧ k < cells f ∧
  ∀ H', Kp T.mu H H' → TrAt c H' T fp f (Sq.hitAt t k (andZ (at_ t.1 k) z)) → Q .non H'
def spAll (c : Cs) : Sp := fun vs H Q _ => ∃ (T : TAd) (fp a : Addr) (as : List Addr) (f : Fm) (t : Sq.TS) (l : List (Nat × Nat)), vs = [.ref T.p, .ref a] ∧ TrAt c H T fp f t ∧ Rt f ∧ Sz f t ∧ H a = some (.lst (as.map V.ref)) ∧ Tups H as l ∧ a ∉ T.mu ∧ (∀ q ∈ l, q.1 < cells f) ∧
  ∀ H', Kp T.mu H H' → TrAt c H' T fp f (Sq.strikeAll t l) → Q .non H'
def spFollow (c : Cs) : Sp := fun vs H Q _ => ∃ (T : TAd) (fp : Addr) (B : Bd) (f : Fm) (t : Sq.TS) (s : Kgi2.St), vs = [.ref T.p, .ref B.p] ∧ TrAt c H T fp f t ∧ Rt f ∧ Sz f t ∧ BdAt c H B f s ∧ Wf f s ∧ B.cl ∉ T.mu ∧
  ∀ H', Kp T.mu H H' → TrAt c H' T fp f (Sq.follow s t (cells f)) → Q .non H'
section
variable {P : Program} {w : World} {K : PySem.W.Frag} {mg : Str → Option Value} {base : Heap} {c : Cs}
theorem scHere : FnScope ["self", "k", "numbers", "hit"] ["self", "k", "numbers"] (defScope sHere) := ⟨rfl, rfl, rfl, by decide +kernel, rfl, by decide +kernel, by decide +kernel⟩
theorem ok_here {f : Addr} {fd : FuncData} (F : Fun K "strike_here" "Trial.strike_here" sHere f fd) (T0 : Txt K c) (MS : MF P w K mg base 3 c.B "strike" ["self", "k", "numbers"] (spStrike c)) : FnOk P w K mg base CX0 4 f fd ["self", "k", "numbers"] (spHere c) := by
  refine F.ok scHere (fun vs H Q E h => ?_) (fun cdv A outer s H vs Q E hr h => ?_)
  · obtain ⟨T, fp, fr, t, k, z, rfl, _⟩ := h; rfl
  · obtain ⟨T, fp, fr, t, k, z, rfl, a, R, sz, hk, q⟩ := h
    refine ⟨_, pss_cons (ps_set (i := 3) scHere.nd rfl (Or.inl rfl) (pe_methG (pe_fld (pv 0) rfl) T0.clB MS hr (pa_cons (pv 1) (pa_cons (pv 2) pa_nil))))
      (pss_one (ps_if (pt_nat (pv 3) (fun _ => rfl)) (pss_one (ps_expr (pe_bm PySem.F.plainAttrs_list PySem.F.slot_list_append PySem.F.type_list_append mt_append (pe_fld (pv 0) rfl) (pa_cons (pe_tup (pa_cons (pv 1) (pa_cons (pv 3) pa_nil))) pa_nil)))) pss_nil)), ?_⟩
    obtain ⟨as, hnl, tu⟩ := a.nw
    refine ⟨_, rfl, _, c.T, _, _, _, rfl, a.ob, T0.clT, T0.tBoard, fsT_board _ _ _, _, _, _, rfl, a.bd.ob, fsB_strike _ _, _, rfl, _, rfl, T.B, fr, t.1, k, z, rfl, a.bd, R, sz.wf, hk, fun H1 k1 b1 => ?_⟩
    have k1' : Kp T.mu H H1 := k1.mono (by simp [TAd.mu])
    have hnl1 : H1 T.nl = some (.lst (as.map V.ref)) := k1.lst _ _ hnl (by simp [a.n1, a.n2])
    have tu1 := tu.kp k1
    have ob1 : H1 T.p = some (.ins c.T T.dx (fsT (.ref fp) (.ref T.B.p) (.ref T.nl))) := k1.oth _ _ a.ob (fun _ e => by cases e)
    refine ⟨_, rfl, _, rfl, iteB (fun cc => ?_) (fun cc => ?_)⟩
    · have h0 : ¬ andZ (at_ t.1 k) z = 0 := of_decide_eq_true cc
      refine ⟨_, rfl, _, c.T, _, _, _, rfl, ob1, T0.clT, T0.tNews, fsT_news _ _ _, .inl ⟨rfl, _, SqL.of hnl1⟩, _, rfl, _, rfl, (by show 2 ≤ sizeLine; decide), fun tp htp => ?_⟩
      have nnt : T.nl ≠ tp := ne_of_none hnl1 htp
      refine ⟨T.nl, _, _, rfl, rfl, by rw [upd_ne nnt]; exact hnl1, ?_, ?_⟩
      · rw [List.length_map, tu.len]; exact small1000 (Nat.le_trans (sz.small R) (by decide))
      have e : Sq.hitAt t k (andZ (at_ t.1 k) z) = (t.1.set k (sub (at_ t.1 k) (andZ (at_ t.1 k) z)), t.2 ++ [(k, andZ (at_ t.1 k) z)]) := if_neg h0
      have kA : Kp T.mu H1 (upd H1 tp (.tup [nI k, nI (andZ (at_ t.1 k) z)])) := Kp.new htp
      have kB : Kp [T.nl] (upd H1 tp (.tup [nI k, nI (andZ (at_ t.1 k) z)])) (upd (upd H1 tp (.tup [nI k, nI (andZ (at_ t.1 k) z)])) T.nl (.lst (as.map V.ref ++ [.ref tp]))) := Kp.put (xs := as.map V.ref) (by rw [upd_ne nnt]; exact hnl1) (by simp)
      refine q _ (k1'.trans (kA.trans (kB.mono (by simp [TAd.mu])))) ?_
      rw [e]
      have bA := (b1.same (same_new (o := .tup [nI k, nI (andZ (at_ t.1 k) z)]) htp)).kp kB (by simp [Ne.symm a.n1]) (by simp [Ne.symm a.n2])
      refine ⟨kB.oth _ _ (same_new htp _ _ ob1) (fun _ e => by cases e), bA, ⟨as ++ [tp], by rw [upd_same, List.map_append]; rfl, ?_⟩, a.n1, a.n2⟩
      exact Tups.snoc ((tu1.same (same_new htp)).kp kB) (kB.oth _ _ upd_same (fun _ e => by cases e))
    · have h0 : andZ (at_ t.1 k) z = 0 := by simpa using cc
      have e : Sq.hitAt t k (andZ (at_ t.1 k) z) = t := if_pos h0
      refine q H1 k1' ?_
      rw [e]
      rw [h0, Sq.set_same sz.wf] at b1
      exact ⟨ob1, b1, ⟨as, hnl1, tu1⟩, a.n1, a.n2⟩
theorem scAll : FnScope ["self", "strikes", "k", "numbers"] ["self", "strikes"] (defScope sAll) := ⟨rfl, rfl, rfl, by decide +kernel, rfl, by decide +kernel, by decide +kernel⟩
theorem strikeAll_snoc (t : Sq.TS) (l : List (Nat × Nat)) (k x : Nat) : Sq.strikeAll t (l ++ [(k, x)]) = Sq.hitAt (Sq.strikeAll t l) k (at_ (Sq.strikeAll t l).1 k &&& x) := by
  unfold Sq.strikeAll
  rw [List.foldl_append]; rfl
theorem ok_all {f : Addr} {fd : FuncData} (F : Fun K "strike_all" "Trial.strike_all" sAll f fd) (T0 : Txt K c) (MH : MF P w K mg base 4 c.T "strike_here" ["self", "k", "numbers"] (spHere c)) : FnOk P w K mg base CX0 5 f fd ["self", "strikes"] (spAll c) := by
  refine F.ok scAll (fun vs H Q E h => ?_) (fun cdv A outer s H vs Q E hr h => ?_)
  · obtain ⟨T, fp, a, as, fr, t, l, rfl, _⟩ := h; rfl
  · obtain ⟨T, fp, a, as, fr, t, l, rfl, tr, R, sz, ha, tu, hm, hl, q⟩ := h
    refine ⟨_, pss_one (ps_for PassesOwn.never rfl (pi_list (pv 1)) (pg_tup rfl (pgs_cons (pg_name (i := 2) scAll.nd rfl (Or.inl rfl)) (pgs_cons (pg_name (i := 3) scAll.nd rfl (Or.inl rfl)) pgs_nil)))
      (pss_one (ps_expr (pe_methG (pv 0) T0.clT MH hr (pa_cons (pv 2) (pa_cons (pv 3) pa_nil)))))), ?_⟩
    refine ⟨_, rfl, a, rfl, ⟨_, SqL.of ha⟩, ?_⟩
    refine for_pairs (K := K) (a := a) (as := as) (l := l) (fun i σ H' => (∃ v2 v3, σ = [some (.ref T.p), some (.ref a), v2, v3]) ∧ Kp T.mu H H' ∧ TrAt c H' T fp fr (Sq.strikeAll t (l.take i)) ∧ Sz fr (Sq.strikeAll t (l.take i))) ⟨⟨_, _, rfl⟩, Kp.refl _ _, tr, sz⟩ (fun i σ H' _ ⟨_, k, _⟩ => ⟨SqL.of (k.lst _ _ ha hm), tu.kp k⟩) tu.len ?_ ?_
    · rintro i k x σ H' hi ⟨⟨v2, v3, rfl⟩, k1, tr1, sz1⟩
      have hkl := hl _ (List.mem_of_getElem? hi)
      refine ⟨_, rfl, _, _, _, rfl, tr1.ob, fsT_here _ _ _, _, rfl, _, rfl, T, fp, fr, _, k, ((x : Nat) : Int), rfl, tr1, R, sz1, hkl, fun H2 k2 tr2 => ⟨⟨_, _, rfl⟩, k1.trans k2, ?_, ?_⟩⟩
      · rw [Sq.take_snoc hi, strikeAll_snoc, ← andZ_nat]; exact tr2
      · rw [Sq.take_snoc hi, strikeAll_snoc, ← andZ_nat]; exact sz1.ran (hit_ran R sz1.wf hkl)
    · rintro σ H' ⟨⟨v2, v3, rfl⟩, k1, tr1, sz1⟩
      rw [List.take_length] at tr1
      exact q H' k1 tr1
theorem scFollow : FnScope ["self", "board", "k", "numbers"] ["self", "board"] (defScope sFollow) := ⟨rfl, rfl, rfl, by decide +kernel, rfl, by decide +kernel, by decide +kernel⟩
theorem ok_follow {f : Addr} {fd : FuncData} (F : Fun K "follow" "Trial.follow" sFollow f fd) (T0 : Txt K c) (MH : MF P w K mg base 4 c.T "strike_here" ["self", "k", "numbers"] (spHere c)) (ne : mg "enumerate" = none) : FnOk P w K mg base CX0 5 f fd ["self", "board"] (spFollow c) := by
  refine F.ok scFollow (fun vs H Q E h => ?_) (fun cdv A outer s H vs Q E hr h => ?_)
  · obtain ⟨T, fp, B, fr, t, st, rfl, _⟩ := h; rfl
  · obtain ⟨T, fp, B, fr, t, st, rfl, tr, R, sz, bd, wf, hm, q⟩ := h
    refine ⟨_, pss_one (ps_for PassesOwn.never rfl (pi_enum rfl ne (pa_cons (pe_fld (pv 1) rfl) pa_nil)) (pg_tup rfl (pgs_cons (pg_name (i := 2) scFollow.nd rfl (Or.inl rfl)) (pgs_cons (pg_name (i := 3) scFollow.nd rfl (Or.inl rfl)) pgs_nil)))
      (pss_one (ps_expr (pe_methG (pv 0) T0.clT MH hr (pa_cons (pv 2) (pa_cons (pe_un un_inv (pv 3)) pa_nil)))))), ?_⟩
    refine ⟨_, rfl, _, c.B, _, _, _, rfl, bd.ob, T0.clB, T0.bCells, fsB_cells _ _, _, _, rfl, SqL.of bd.cl, ?_⟩
    refine for_enum (K := K) (a := B.cl) (xs := nIs st) (fun i σ H' => (∃ v2 v3, σ = [some (.ref T.p), some (.ref B.p), v2, v3]) ∧ Kp T.mu H H' ∧ TrAt c H' T fp fr (Sq.follow st t i) ∧ Sz fr (Sq.follow st t i)) ⟨⟨_, _, rfl⟩, Kp.refl _ _, tr, sz⟩ (fun i σ H' _ ⟨_, k, _⟩ => SqL.of (k.lst _ _ bd.cl hm)) ?_ ?_
    · rintro i y σ H' tp hy ⟨⟨v2, v3, rfl⟩, k1, tr1, sz1⟩ htp
      obtain ⟨m, hm', rfl⟩ := of_ints hy
      have hi : i < cells fr := by rw [← wf.len]; exact (List.getElem?_eq_some_iff.mp hm').1
      have em : m = at_ st i := by
        rw [at_get wf hi] at hm'
        exact (Option.some.inj hm').symm
      subst em
      have k1' := k1.trans (Kp.new (M := T.mu) (o := .tup [nI i, nI (at_ st i)]) htp)
      have tr1 := tr1.same (same_new (o := .tup [nI i, nI (at_ st i)]) htp)
      generalize upd H' tp (.tup [nI i, nI (at_ st i)]) = H1 at k1' tr1 ⊢
      refine ⟨_, rfl, _, _, _, rfl, tr1.ob, fsT_here _ _ _, _, rfl, _, rfl, _, rfl, T, fp, fr, _, i, _, rfl, tr1, R, sz1, hi, fun H2 k2 tr2 => ?_⟩
      have e : Sq.hitAt (Sq.follow st t i) i (andZ (at_ (Sq.follow st t i).1 i) (Builtin.bitNot ((at_ st i : Nat) : Int))) = Sq.follow st t (i + 1) := by
        rw [andZ_not, Sq.follow_succ]; rfl
      refine ⟨⟨_, _, rfl⟩, k1'.trans k2, ?_, ?_⟩
      · rw [← e]; exact tr2
      · rw [← e]; exact sz1.ran (hit_ran R sz1.wf hi)
    · rintro σ H' ⟨⟨v2, v3, rfl⟩, k1, tr1, sz1⟩
      rw [ints_len, wf.len] at tr1
      exact q H' k1 tr1
end
end Py
namespace Py
open PySem PySem.Spec PyProof.Rows L2
open Kgi1 (cells)
open Kgi2 (at_ has unit)
open Sq (Wf Rt sub nU mask masks plT)
def spTrial0 (c : Cs) : Sp := fun vs H Q _ => ∃ (p dx fp : Addr) (B : Bd) (f : Fm) (s : Kgi2.St) (k v : Nat), vs = [.ref p, .ref fp, .ref B.p, nI k, nI v] ∧ H p = some (.ins c.T dx []) ∧ BdAt c H B f s ∧ Rt f ∧ Wf f s ∧ k < cells f ∧ v ≤ 9 ∧
  ∀ (T : TAd) (H' : Hp), T.p = p → TrAt c H' T fp f (Sq.hitAt (s, []) k (sub (at_ s k) (2 ^ v))) → (∀ b ∈ T.mu, H b = none) → Nw p H H' → Q .non H'
def spLookC (c : Cs) : Sp := fun vs H Q _ => ∃ (T : TAd) (S : Hp) (A : FAd) (f : Fm) (t : Sq.TS) (k : Nat), vs = [.ref T.p, nI k] ∧ FrAt c S A f ∧ Same S H ∧ (∀ b ∈ T.mu, S b = none) ∧ TrAt c H T A.p f t ∧ Rt f ∧ Sz f t ∧ k < cells f ∧
  ∀ H', Kp T.mu H H' → TrAt c H' T A.p f (Sq.lookCell f t k) → Q .non H'
def spLookU (c : Cs) : Sp := fun vs H Q _ => ∃ (T : TAd) (S : Hp) (A : FAd) (f : Fm) (t : Sq.TS) (u v : Nat), vs = [.ref T.p, nI u, nI v] ∧ FrAt c S A f ∧ Same S H ∧ (∀ b ∈ T.mu, S b = none) ∧ TrAt c H T A.p f t ∧ Rt f ∧ Sz f t ∧ u < nU f ∧ (1 ≤ v ∧ v ≤ f.n) ∧ Sq.pl t.1 v &&& mask f u ≠ 0 ∧
  ∀ H', Kp T.mu H H' → TrAt c H' T A.p f (Sq.lookUnit f t u v) → Q .non H'
def spEnds (c : Cs) : Sp := fun vs H Q _ => ∃ (T : TAd) (S : Hp) (A : FAd) (f : Fm) (s0 : Kgi2.St) (t : Sq.TS), vs = [.ref T.p] ∧ FrAt c S A f ∧ Same S H ∧ (∀ b ∈ T.mu, S b = none) ∧ TrAt c H T A.p f t ∧ Rt f ∧ Wf f s0 ∧ Sq.TrI f s0 t Sq.no1 Sq.no1 Sq.no2 ∧
  (∀ H', Kp T.mu H H' → Kgi2.breaks f (Kgi2.most f) s0 = true → Q (.bl true) H') ∧ (∀ H' T', Kp T.mu H H' → TrAt c H' T A.p f (T', []) → Sq.Good f s0 T' → Q (.bl false) H')
section
variable {P : Program} {w : World} {K : PySem.W.Frag} {mg : Str → Option Value} {base : Heap} {c : Cs}
theorem scTrial0 : FnScope ["self", "frame", "board", "k", "v"] ["self", "frame", "board", "k", "v"] (defScope sTrial0) := ⟨rfl, rfl, rfl, by decide +kernel, rfl, by decide +kernel, by decide +kernel⟩
theorem ok_trial0 {f : Addr} {fd : FuncData} (F : Fun K "__init__" "Trial.__init__" sTrial0 f fd) (T0 : Txt K c) (MW : MF P w K mg base 3 c.B "twin" ["self"] (spTwin c)) (MH : MF P w K mg base 4 c.T "strike_here" ["self", "k", "numbers"] (spHere c)) : FnOk P w K mg base CX0 5 f fd ["self", "frame", "board", "k", "v"] (spTrial0 c) := by
  refine F.ok scTrial0 (fun vs H Q E h => ?_) (fun cdv A outer s H vs Q E hr h => ?_)
  · obtain ⟨p, dx, fp, B, fr, st, k, v, rfl, _⟩ := h; rfl
  · obtain ⟨p, dx, fp, B, fr, st, k, v, rfl, hp, bd, R, wf, hk, hv, q⟩ := h
    refine ⟨_, pss_cons (ps_fld (pv 0) (pv 1) rfl) (pss_cons (ps_fld (pv 0) (pe_methG0 (pv 2) T0.clB MW hr) rfl) (pss_cons (ps_fld (pv 0) (pe_lst pa_nil) rfl) (pss_one (ps_expr (pe_methG (pv 0) T0.clT MH hr (pa_cons (pv 3) (pa_cons (pe_un un_inv (pe_op on_shl (pe_nat 1) (pv 4))) pa_nil))))))), ?_⟩
    refine ⟨_, rfl, _, rfl, p, c.T, dx, _, rfl, hp, T0.clT, T0.tFrame, (by show 0 < 1000; decide), ?_⟩
    have n1 : Nw p H (upd H p (.ins c.T dx (putF "frame" (.ref fp) []))) := Nw.of (Same.refl H) _
    generalize hH1 : upd H p (.ins c.T dx (putF "frame" (.ref fp) [])) = H1 at n1 ⊢
    have p1 : H1 p = some (.ins c.T dx (putF "frame" (.ref fp) [])) := by rw [← hH1]; exact upd_same
    have bp : B.p ≠ p := fun e => by
      have z := bd.ob
      rw [e, hp] at z
      injection z with z
      injection z with _ _ z
      exact absurd (congrArg List.length z) (by show ¬ (0 = 2); decide)
    have bd1 : BdAt c H1 B fr st := ⟨n1 _ _ bd.ob bp, n1.lst hp bd.cl, n1.lst hp bd.pl, bd.ne⟩
    refine ⟨_, rfl, _, _, _, rfl, bd1.ob, fsB_twin _ _, B, fr, st, rfl, bd1, fun B' H1' s2 b2 hcl hpl => ⟨_, rfl, p, c.T, dx, _, rfl, s2 _ _ p1, T0.clT, T0.tBoard, (by show 1 < 1000; decide), ?_⟩⟩
    have n2 := Nw.of (p := p) s2 (.ins c.T dx (putF "board" (.ref B'.p) (putF "frame" (.ref fp) [])))
    have p1' := s2 _ _ p1
    generalize hH2 : upd H1' p (.ins c.T dx (putF "board" (.ref B'.p) (putF "frame" (.ref fp) []))) = H2 at n2 ⊢
    have p2 : H2 p = some (.ins c.T dx (putF "board" (.ref B'.p) (putF "frame" (.ref fp) []))) := by rw [← hH2]; exact upd_same
    have b'p : B'.p ≠ p := fun e => by
      have z := b2.ob
      rw [e, p1'] at z
      injection z with z
      injection z with _ _ z
      exact absurd (congrArg List.length z) (by show ¬ (1 = 2); decide)
    have ncl : B'.cl ≠ p := ne_of b2.cl p1' (by intro z; cases z)
    have npl : B'.pl ≠ p := ne_of b2.pl p1' (by intro z; cases z)
    have bd2 : BdAt c H2 B' fr st := by
      refine ⟨?_, ?_, ?_, b2.ne⟩
      · rw [← hH2, upd_ne b'p]; exact b2.ob
      · rw [← hH2, upd_ne ncl]; exact b2.cl
      · rw [← hH2, upd_ne npl]; exact b2.pl
    refine ⟨Nat.zero_le _, fun nl hnl => ⟨_, rfl, p, c.T, dx, _, rfl, same_new hnl _ _ p2, T0.clT, T0.tNews, (by show 2 < 1000; decide), ?_⟩⟩
    have e3 : putF "news" (V.ref nl) (putF "board" (.ref B'.p) (putF "frame" (.ref fp) [])) = fsT (.ref fp) (.ref B'.p) (.ref nl) := by rfl
    rw [e3]
    have nnp : nl ≠ p := Ne.symm (ne_of_none p2 hnl)
    have n3 := Nw.of (p := p) (same_new (o := .lst []) hnl) (.ins c.T dx (fsT (.ref fp) (.ref B'.p) (.ref nl)))
    have bd3' := bd2.same (same_new (o := .lst []) hnl)
    have hnl1 : H1' nl = none := by
      cases e : H1' nl with
      | none => rfl
      | some o =>
        have : H2 nl = some o := by rw [← hH2, upd_ne nnp]; exact e
        rw [hnl] at this; cases this
    generalize hH3 : upd (upd H2 nl (.lst [])) p (.ins c.T dx (fsT (.ref fp) (.ref B'.p) (.ref nl))) = H3 at n3 ⊢
    have bd3 : BdAt c H3 B' fr st := by
      refine ⟨?_, ?_, ?_, b2.ne⟩
      · rw [← hH3, upd_ne b'p]; exact bd3'.ob
      · rw [← hH3, upd_ne ncl]; exact bd3'.cl
      · rw [← hH3, upd_ne npl]; exact bd3'.pl
    have tr3 : TrAt c H3 ⟨p, dx, nl, B'⟩ fp fr (st, []) := by
      refine ⟨by rw [← hH3]; exact upd_same, bd3, ⟨[], by rw [← hH3, upd_ne nnp]; exact upd_same, trivial⟩, ?_, ?_⟩
      · exact fun e => by have := bd2.cl; rw [← (show nl = B'.cl from e), hnl] at this; cases this
      · exact fun e => by have := bd2.pl; rw [← (show nl = B'.pl from e), hnl] at this; cases this
    have sz : Sz fr (st, []) := ⟨wf, by simpa using Sq.card_le wf⟩
    refine ⟨_, rfl, _, _, _, rfl, tr3.ob, fsT_here _ _ _, _, rfl, _, rfl, 1, _, rfl, rfl, ⟨by decide, by omega⟩, _, rfl, ⟨p, dx, nl, B'⟩, fp, fr, (st, []), k, _, rfl, tr3, R, sz, hk, fun H4 k4 tr4 => ?_⟩
    have free : ∀ {Hx : Hp} {a : Addr}, Nw p H Hx → a ≠ p → Hx a = none → H a = none := fun {Hx a} n ap h => by
      cases e : H a with
      | none => rfl
      | some o => have := n a o e ap; rw [h] at this; cases this
    have f1 : H B'.cl = none := free n1 ncl hcl
    have f2 : H B'.pl = none := free n1 npl hpl
    have f3 : H nl = none := free n1 nnp (s2.free hnl1)
    refine q ⟨p, dx, nl, B'⟩ H4 rfl ?_ ?_ ?_
    · have e : andZ (at_ st k) (Builtin.bitNot ((1 * 2 ^ v : Nat) : Int)) = sub (at_ st k) (2 ^ v) := by rw [andZ_not, Nat.one_mul]
      have tr4 : TrAt c H4 ⟨p, dx, nl, B'⟩ fp fr (Sq.hitAt (st, []) k (andZ (at_ st k) (Builtin.bitNot ((1 * 2 ^ v : Nat) : Int)))) := tr4
      rw [e] at tr4; exact tr4
    · intro b hb
      simp [TAd.mu] at hb
      rcases hb with rfl | rfl | rfl
      · exact f1
      · exact f2
      · exact f3
    · intro b o e nb
      refine k4.keep (((n1.trans n2).trans n3) b o e nb) fun z => ?_
      simp [TAd.mu] at z
      rcases z with rfl | rfl | rfl
      · rw [f1] at e; cases e
      · rw [f2] at e; cases e
      · rw [f3] at e; cases e
theorem scLookC : FnScope ["self", "k", "numbers", "there", "sign"] ["self", "k"] (defScope sLookC) := ⟨rfl, rfl, rfl, by decide +kernel, rfl, by decide +kernel, by decide +kernel⟩
theorem ok_lookC {f : Addr} {fd : FuncData} (F : Fun K "look_at_cell" "Trial.look_at_cell" sLookC f fd) (T0 : Txt K c) (GI : GF P w K mg base 1 "is_single" ["bits"] spSingle) (GL : GF P w K mg base 1 "least" ["bits"] spLeast) (GM : GF P w K mg base 2 "members" ["bits"] spMembers)
    (GS : GF P w K mg base 1 "strikes_of" ["board", "cells", "numbers"] (spStrikesOf c K)) (GB : GF P w K mg base 2 "strikes_by_sign" ["board", "sign"] (spBySign c)) (MA : MF P w K mg base 5 c.T "strike_all" ["self", "strikes"] (spAll c)) : FnOk P w K mg base CX0 6 f fd ["self", "k"] (spLookC c) := by
  refine F.ok scLookC (fun vs H Q E h => ?_) (fun cdv A outer s H vs Q E hr h => ?_)
  · obtain ⟨T, S, A, fr, t, k, rfl, _⟩ := h; rfl
  · obtain ⟨T, S, A, fr, t, k, rfl, fa, sub0, hS, tr, R, sz, hk, q⟩ := h
    refine ⟨_, pss_cons (ps_set (i := 2) scLookC.nd rfl (Or.inl rfl) (pe_ix ix_list (pe_fld (pe_fld (pv 0) rfl) rfl) (pv 1) (fun _ _ => rfl)))
      (pss_cons (ps_if (pt_val (pe_callG GI hr rfl (pa_cons (pv 2) pa_nil)))
        (pss_cons (ps_set (i := 3) scLookC.nd rfl (Or.inl rfl) (pe_op on_and (pe_ix ix_list (pe_fld (pe_fld (pv 0) rfl) rfl) (pe_callG GL hr rfl (pa_cons (pv 2) pa_nil)) (fun _ _ => rfl)) (pe_ix ix_list (pe_fld (pe_fld (pv 0) rfl) rfl) (pv 1) (fun _ _ => rfl))))
        (pss_one (ps_expr (pe_methG (pv 0) T0.clT MA hr (pa_cons (pe_callG GS hr rfl (pa_cons (pe_fld (pv 0) rfl) (pa_cons (pe_callG GM hr rfl (pa_cons (pv 3) pa_nil)) (pa_cons (pv 2) pa_nil)))) pa_nil))))) pss_nil)
      (pss_one (ps_for PassesOwn.never rfl (pi_list (pe_ix ix_list (pe_fld (pe_fld (pv 0) rfl) rfl) (pv 1) (fun _ _ => rfl))) (pg_name (i := 4) scLookC.nd rfl (Or.inl rfl))
        (pss_one (ps_expr (pe_methG (pv 0) T0.clT MA hr (pa_cons (pe_callG GB hr rfl (pa_cons (pe_fld (pv 0) rfl) (pa_cons (pv 4) pa_nil))) pa_nil))))))), ?_⟩
    have wf := sz.wf
    -- the second half: the signs
    have half : ∀ (H1 : Hp) (v3 : Option V), Kp T.mu H H1 → TrAt c H1 T A.p fr (Sq.cellL fr t k) → Sz fr (Sq.cellL fr t k) →
        tFor (iList K (tOp (rIxL K) (tFld K (tFld K (tVar 0) "frame") "signs_at") (tVar 1))) (gName 4) (tDrop (tMeth c.T "strike_all" (spAll c) [] E0 (tVar 0) (tCons (tCall (spBySign c) [] E0 (tCons (tFld K (tVar 0) "board") (tCons (tVar 4) tNil))) tNil)))
          { nx := fun _ H' => Q .non H', rt := Q } [some (.ref T.p), some (nI k), some (nI (at_ t.1 k)), v3, none] H1 := fun H1 v3 k1 tr1 sz1 => by
      have sub1 := k1.sub sub0 hS
      obtain ⟨sa, hsa, bs, esa, tsa⟩ := Ats.at fa.sas (List.getElem?_range hk)
      refine ⟨_, rfl, _, c.T, _, _, _, rfl, tr1.ob, T0.clT, T0.tFrame, fsT_frame _ _ _, _, c.F, _, _, _, rfl, sub1 _ _ fa.ob, T0.clF, T0.fSignsAt, fsF_signs_at _ _, _, rfl, A.sa, _, _, _, rfl, rfl, SqL.of (sub1 _ _ fa.sa), atI_nat (refs_get hsa), sa, rfl, ⟨_, SqL.of (sub1 _ _ esa)⟩, ?_⟩
      refine for_list (K := K) (a := sa) (xs := bs.map V.ref) (fun i σ H' => (∃ v3 v4, σ = [some (.ref T.p), some (nI k), some (nI (at_ t.1 k)), v3, v4]) ∧ Kp T.mu H H' ∧ TrAt c H' T A.p fr (((Sq.signsAt fr k).take i).foldl Sq.signL (Sq.cellL fr t k)) ∧ Sz fr (((Sq.signsAt fr k).take i).foldl Sq.signL (Sq.cellL fr t k)))
        ⟨⟨_, _, rfl⟩, k1, tr1, sz1⟩ (fun i σ H' _ ⟨_, k2, _⟩ => SqL.of (k2.sub sub0 hS _ _ esa)) ?_ ?_
      · rintro i y σ H' hy ⟨⟨v3, v4, rfl⟩, k2, tr2, sz2⟩
        obtain ⟨b, hb, rfl⟩ := of_refs hy
        obtain ⟨g, hg, eb⟩ := Ats.get tsa hb
        have eb' := k2.sub sub0 hS _ _ eb
        have hgm := (Sq.mem_signsAt.mp (List.mem_of_getElem? hg)).1
        obtain ⟨⟨la, lb⟩, _⟩ := sign_at R sz2.wf hgm
        refine ⟨_, rfl, _, _, _, rfl, tr2.ob, fsT_all _ _ _, _, rfl, _, c.T, _, _, _, rfl, tr2.ob, T0.clT, T0.tBoard, fsT_board _ _ _, _, rfl, T.B, fr, _, b, g, rfl, tr2.bd, R, sz2.wf, eb', la, lb, fun p as H3 s3 hp e3 t3 => ?_⟩
        have tr3 := tr2.same s3
        refine ⟨T, A.p, p, as, fr, _, _, rfl, tr3, R, sz2, e3, t3, tr2.new hp, Sq.signL_key R hgm, fun H4 k4 tr4 => ⟨⟨_, _, rfl⟩, (k2.trans (Kp.same s3)).trans k4, ?_, ?_⟩⟩
        · rw [Sq.take_snoc hg, List.foldl_append]; exact tr4
        · rw [Sq.take_snoc hg, List.foldl_append]; exact sz2.ran (Sq.signL_ran R sz2.wf hgm)
      · rintro σ H' ⟨⟨v3, v4, rfl⟩, k2, tr2, sz2⟩
        refine q H' k2 ?_
        rw [Sq.lookCell_eq]
        rw [List.length_map, Ats.len tsa, List.take_length] at tr2
        exact tr2
    refine ⟨_, rfl, _, c.T, _, _, _, rfl, tr.ob, T0.clT, T0.tBoard, fsT_board _ _ _, _, c.B, _, _, _, rfl, tr.bd.ob, T0.clB, T0.bCells, fsB_cells _ _, _, rfl, T.B.cl, _, _, _, rfl, rfl, SqL.of tr.bd.cl, ints_at (at_get wf hk), ?_⟩
    refine ⟨_, rfl, _, rfl, _, rfl, iteB (fun cc => ?_) (fun cc => ?_)⟩
    · have h0 : at_ t.1 k ≠ 0 := fun e => by rw [e] at cc; exact absurd cc (by decide)
      have hlow := wf.bit k _ (Sq.low_bit h0)
      refine ⟨_, rfl, _, c.T, _, _, _, rfl, tr.ob, T0.clT, T0.tBoard, fsT_board _ _ _, _, c.B, _, _, _, rfl, tr.bd.ob, T0.clB, T0.bPlaces, fsB_places _ _, _, rfl, _, rfl, h0, T.B.pl, _, _, _, rfl, rfl, SqL.of tr.bd.pl, ints_at (Sq.plT_at hlow.2),
        _, rfl, _, c.T, _, _, _, rfl, tr.ob, T0.clT, T0.tFrame, fsT_frame _ _ _, _, c.F, _, _, _, rfl, sub0 _ _ fa.ob, T0.clF, T0.fPeers, fsF_peers _ _, _, rfl, A.pe, _, _, _, rfl, rfl, SqL.of (sub0 _ _ fa.pe), ints_at (Sq.tab_at hk), _, _, rfl, rfl, ?_⟩
      have hb : ∀ x, (Sq.pl t.1 (Sq.low (at_ t.1 k)) &&& Sq.peers fr k).testBit x = true → x < cells fr := fun x hx => by
        rw [Nat.testBit_and, Bool.and_eq_true] at hx
        exact Sq.peers_lt hx.2
      refine ⟨_, rfl, _, _, _, rfl, tr.ob, fsT_all _ _ _, _, rfl, _, c.T, _, _, _, rfl, tr.ob, T0.clT, T0.tBoard, fsT_board _ _ _, _, rfl, _, rfl, bits_lt100 R hb, fun p1 hp1 => ⟨_, rfl, T.B, fr, t.1, p1, _, _, rfl, tr.bd.same (same_new hp1), wf, upd_same, fun x hx => hb x (Sq.mem_bitsOf.mp hx), bits_len81 R hb, fun p2 as H2 s2 hp2 e2 t2 => ?_⟩⟩
      rw [strikes_eqO] at t2
      have s12 := (same_new (o := .lst (nIs (Sq.bitsOf (Sq.pl t.1 (Sq.low (at_ t.1 k)) &&& Sq.peers fr k)))) hp1).trans s2
      have tr2 := tr.same s12
      have e : Sq.cellL fr t k = Sq.strikeAll t (Sq.strikesOf t.1 (Sq.bitsOf (Sq.pl t.1 (Sq.low (at_ t.1 k)) &&& Sq.peers fr k)) (at_ t.1 k)) := by unfold Sq.cellL; rw [if_pos cc]
      refine ⟨T, A.p, p2, as, fr, t, _, rfl, tr2, R, sz, e2, t2, ?_, Sq.cellL_key, fun H3 k3 tr3 => half H3 _ ((Kp.same s12).trans k3) (by rw [e]; exact tr3) (sz.ran (Sq.cellL_ran R wf k))⟩
      exact (tr.same (same_new hp1)).new hp2
    · have e : Sq.cellL fr t k = t := by unfold Sq.cellL; rw [if_neg (by rw [cc]; simp)]
      exact half H _ (Kp.refl _ _) (by rw [e]; exact tr) (by rw [e]; exact sz)
theorem scLookU : FnScope ["self", "u", "v", "there", "k", "w", "unit", "others"] ["self", "u", "v"] (defScope sLookU) := ⟨rfl, rfl, rfl, by decide +kernel, rfl, by decide +kernel, by decide +kernel⟩
theorem lockL_ran {f : Fm} (R : Rt f) {u v there x : Nat} {t : Sq.TS} (wf : Wf f t.1) (hx : x < nU f) : Sq.Ran f t (Sq.lockL f v there t x) ∧ ∀ p ∈ Sq.strikesOf t.1 (Sq.bitsOf (sub (Sq.pl t.1 v &&& mask f x) there)) (2 ^ v), p.1 < cells f := by
  have key : ∀ p ∈ Sq.strikesOf t.1 (Sq.bitsOf (sub (Sq.pl t.1 v &&& mask f x) there)) (2 ^ v), p.1 < cells f := fun p hp => by
    have := Sq.mem_bitsOf.mp (Sq.mem_strikesOf.mp hp).1
    rw [Sq.tb_sub, Bool.and_eq_true, Sq.there_tb] at this
    exact Sq.unit_lt hx this.1.1
  refine ⟨?_, key⟩
  unfold Sq.lockL
  split
  · exact Sq.Ran.all R wf key
  · exact Sq.Ran.refl wf
theorem ok_lookU {f : Addr} {fd : FuncData} (F : Fun K "look_at_unit" "Trial.look_at_unit" sLookU f fd) (T0 : Txt K c) (GI : GF P w K mg base 1 "is_single" ["bits"] spSingle) (GL : GF P w K mg base 1 "least" ["bits"] spLeast) (GM : GF P w K mg base 2 "members" ["bits"] spMembers)
    (GS : GF P w K mg base 1 "strikes_of" ["board", "cells", "numbers"] (spStrikesOf c K)) (MH : MF P w K mg base 4 c.T "strike_here" ["self", "k", "numbers"] (spHere c)) (MA : MF P w K mg base 5 c.T "strike_all" ["self", "strikes"] (spAll c)) : FnOk P w K mg base CX0 6 f fd ["self", "u", "v"] (spLookU c) := by
  refine F.ok scLookU (fun vs H Q E h => ?_) (fun cdv A outer s H vs Q E hr h => ?_)
  · obtain ⟨T, S, A, fr, t, u, v, rfl, _⟩ := h; rfl
  · obtain ⟨T, S, A, fr, t, u, v, rfl, fa, sub0, hS, tr, R, sz, hu, hv, h0, q⟩ := h
    have hhi := R.hi
    refine ⟨_, pss_cons (ps_set (i := 3) scLookU.nd rfl (Or.inl rfl) (pe_op on_and (pe_ix ix_list (pe_fld (pe_fld (pv 0) rfl) rfl) (pv 2) (fun _ _ => rfl)) (pe_ix ix_list (pe_fld (pe_fld (pv 0) rfl) rfl) (pv 1) (fun _ _ => rfl))))
      (pss_cons (ps_set (i := 4) scLookU.nd rfl (Or.inl rfl) (pe_callG GL hr rfl (pa_cons (pv 3) pa_nil)))
      (pss_cons (ps_if (pt_val (pe_callG GI hr rfl (pa_cons (pv 3) pa_nil))) (pss_cons (ps_expr (pe_methG (pv 0) T0.clT MH hr (pa_cons (pv 4) (pa_cons (pe_un un_inv (pe_op on_shl (pe_nat 1) (pv 2))) pa_nil)))) (pss_one ps_retN)) pss_nil)
      (pss_one (ps_for PassesOwn.never rfl (pi_list (pe_ix ix_list (pe_fld (pe_fld (pv 0) rfl) rfl) (pv 4) (fun _ _ => rfl))) (pg_name (i := 5) scLookU.nd rfl (Or.inl rfl))
        (pss_cons (ps_set (i := 6) scLookU.nd rfl (Or.inl rfl) (pe_ix ix_list (pe_fld (pe_fld (pv 0) rfl) rfl) (pv 5) (fun _ _ => rfl)))
        (pss_one (ps_if (pt_cmpR on_eq (pe_op on_andNot (pv 3) (pe_un un_inv (pv 6))) (pe_nat 0) (nomark _))
          (pss_cons (ps_set (i := 7) scLookU.nd rfl (Or.inl rfl) (pe_op on_andNot (pe_op on_and (pe_ix ix_list (pe_fld (pe_fld (pv 0) rfl) rfl) (pv 2) (fun _ _ => rfl)) (pv 6)) (pe_un un_inv (pv 3))))
          (pss_one (ps_expr (pe_methG (pv 0) T0.clT MA hr (pa_cons (pe_callG GS hr rfl (pa_cons (pe_fld (pv 0) rfl) (pa_cons (pe_callG GM hr rfl (pa_cons (pv 7) pa_nil)) (pa_cons (pe_op on_shl (pe_nat 1) (pv 2)) pa_nil)))) pa_nil))))) pss_nil))))))), ?_⟩
    have wf := sz.wf
    refine ⟨_, rfl, _, c.T, _, _, _, rfl, tr.ob, T0.clT, T0.tBoard, fsT_board _ _ _, _, c.B, _, _, _, rfl, tr.bd.ob, T0.clB, T0.bPlaces, fsB_places _ _, _, rfl, T.B.pl, _, _, _, rfl, rfl, SqL.of tr.bd.pl, ints_at (Sq.plT_at hv.2),
      _, rfl, _, c.T, _, _, _, rfl, tr.ob, T0.clT, T0.tFrame, fsT_frame _ _ _, _, c.F, _, _, _, rfl, sub0 _ _ fa.ob, T0.clF, T0.fUnits, fsF_units _ _, _, rfl, A.u, _, _, _, rfl, rfl, SqL.of (sub0 _ _ fa.un), ints_at (Sq.masks_at hu), _, _, rfl, rfl, ?_⟩
    have hl := Sq.there_tb.mp (Sq.low_bit h0)
    have hkl := Sq.unit_lt hu hl.1
    refine ⟨_, rfl, _, rfl, h0, _, rfl, _, rfl, _, rfl, iteB (fun cc => ?_) (fun cc => ?_)⟩
    · refine ⟨_, rfl, _, _, _, rfl, tr.ob, fsT_here _ _ _, _, rfl, _, rfl, 1, _, rfl, rfl, ⟨by decide, by omega⟩, _, rfl, T, A.p, fr, t, _, _, rfl, tr, R, sz, hkl, fun H2 k2 tr2 => q H2 k2 ?_⟩
      have e : andZ (at_ t.1 (Sq.low (Sq.pl t.1 v &&& mask fr u))) (Builtin.bitNot ((1 * 2 ^ v : Nat) : Int)) = sub (at_ t.1 (Sq.low (Sq.pl t.1 v &&& mask fr u))) (2 ^ v) := by rw [andZ_not, Nat.one_mul]
      have tr2 : TrAt c H2 T A.p fr (Sq.hitAt t (Sq.low (Sq.pl t.1 v &&& mask fr u)) (andZ (at_ t.1 (Sq.low (Sq.pl t.1 v &&& mask fr u))) (Builtin.bitNot ((1 * 2 ^ v : Nat) : Int)))) := tr2
      rw [e] at tr2
      rw [Sq.lookUnit_eq, if_pos cc]; exact tr2
    · obtain ⟨ua, hua, eua⟩ := Ats.at fa.uos (List.getElem?_range hkl)
      refine ⟨_, rfl, _, c.T, _, _, _, rfl, tr.ob, T0.clT, T0.tFrame, fsT_frame _ _ _, _, c.F, _, _, _, rfl, sub0 _ _ fa.ob, T0.clF, T0.fUnitsOf, fsF_units_of _ _, _, rfl, A.uo, _, _, _, rfl, rfl, SqL.of (sub0 _ _ fa.uo), atI_nat (refs_get hua), ua, rfl, ⟨_, SqL.of (sub0 _ _ eua)⟩, ?_⟩
      generalize hth : Sq.pl t.1 v &&& mask fr u = there at *
      refine for_list (K := K) (a := ua) (xs := nIs (Sq.unitsOf fr (Sq.low there))) (fun i σ H' => (∃ v5 v6 v7, σ = [some (.ref T.p), some (nI u), some (nI v), some (nI there), some (nI (Sq.low there)), v5, v6, v7]) ∧ Kp T.mu H H' ∧ TrAt c H' T A.p fr (((Sq.unitsOf fr (Sq.low there)).take i).foldl (Sq.lockL fr v there) t) ∧ Sz fr (((Sq.unitsOf fr (Sq.low there)).take i).foldl (Sq.lockL fr v there) t))
        ⟨⟨_, _, _, rfl⟩, Kp.refl _ _, tr, sz⟩ (fun i σ H' _ ⟨_, k2, _⟩ => SqL.of (k2.sub sub0 hS _ _ eua)) ?_ ?_
      · rintro i y σ H' hy ⟨⟨v5, v6, v7, rfl⟩, k2, tr2, sz2⟩
        obtain ⟨x, hx, rfl⟩ := of_ints hy
        have hxu := (Sq.mem_unitsOf.mp (List.mem_of_getElem? hx)).1
        have sub2 := k2.sub sub0 hS
        have e1 : ((Sq.unitsOf fr (Sq.low there)).take (i + 1)).foldl (Sq.lockL fr v there) t = Sq.lockL fr v there (((Sq.unitsOf fr (Sq.low there)).take i).foldl (Sq.lockL fr v there) t) x := by rw [Sq.take_snoc hx, List.foldl_append]; rfl
        rw [e1]
        generalize ((Sq.unitsOf fr (Sq.low there)).take i).foldl (Sq.lockL fr v there) t = t2 at *
        obtain ⟨lr, lk⟩ := lockL_ran R (u := u) (v := v) (there := there) sz2.wf hxu
        refine ⟨_, rfl, _, c.T, _, _, _, rfl, tr2.ob, T0.clT, T0.tFrame, fsT_frame _ _ _, _, c.F, _, _, _, rfl, sub2 _ _ fa.ob, T0.clF, T0.fUnits, fsF_units _ _, _, rfl, A.u, _, _, _, rfl, rfl, SqL.of (sub2 _ _ fa.un), ints_at (Sq.masks_at hxu), ?_⟩
        refine ⟨_, rfl, _, rfl, _, rfl, _, _, rfl, rfl, _, 0, rfl, rfl, _, rfl, iteB (fun cd => ?_) (fun cd => ?_)⟩
        · have cd : sub there (mask fr x) = 0 := of_decide_eq_true cd
          have e : Sq.lockL fr v there t2 x = Sq.strikeAll t2 (Sq.strikesOf t2.1 (Sq.bitsOf (sub (Sq.pl t2.1 v &&& mask fr x) there)) (2 ^ v)) := by unfold Sq.lockL; rw [if_pos cd]
          refine ⟨_, rfl, _, c.T, _, _, _, rfl, tr2.ob, T0.clT, T0.tBoard, fsT_board _ _ _, _, c.B, _, _, _, rfl, tr2.bd.ob, T0.clB, T0.bPlaces, fsB_places _ _, _, rfl, T.B.pl, _, _, _, rfl, rfl, SqL.of tr2.bd.pl, ints_at (Sq.plT_at hv.2), _, rfl, _, _, rfl, rfl, _, rfl, _, rfl, _, _, rfl, rfl, ?_⟩
          have hb : ∀ y, (sub (Sq.pl t2.1 v &&& mask fr x) there).testBit y = true → y < cells fr := fun y hy => by
            rw [Sq.tb_sub, Bool.and_eq_true, Sq.there_tb] at hy
            exact Sq.unit_lt hxu hy.1.1
          refine ⟨_, rfl, _, _, _, rfl, tr2.ob, fsT_all _ _ _, _, rfl, _, c.T, _, _, _, rfl, tr2.ob, T0.clT, T0.tBoard, fsT_board _ _ _, _, rfl, _, rfl, bits_lt100 R hb, fun p1 hp1 => ⟨_, rfl, 1, _, rfl, rfl, ⟨by decide, by omega⟩, T.B, fr, t2.1, p1, _, _, rfl, tr2.bd.same (same_new hp1), sz2.wf, upd_same, fun y hy => hb y (Sq.mem_bitsOf.mp hy), bits_len81 R hb, fun p2 as H2 s2 hp2 e2 t3 => ?_⟩⟩
          rw [strikes_eqO, Nat.one_mul] at t3
          have s12 := (same_new (o := .lst (nIs (Sq.bitsOf (sub (Sq.pl t2.1 v &&& mask fr x) there)))) hp1).trans s2
          refine ⟨T, A.p, p2, as, fr, t2, _, rfl, tr2.same s12, R, sz2, e2, t3, (tr2.same (same_new hp1)).new hp2, lk, fun H3 k3 tr3 => ⟨⟨_, _, _, rfl⟩, (k2.trans (Kp.same s12)).trans k3, ?_, sz2.ran lr⟩⟩
          rw [e]; exact tr3
        · have cd : ¬ sub there (mask fr x) = 0 := of_decide_eq_false cd
          have e : Sq.lockL fr v there t2 x = t2 := by unfold Sq.lockL; rw [if_neg cd]
          rw [e]
          exact ⟨⟨_, _, _, rfl⟩, k2, tr2, sz2⟩
      · rintro σ H' ⟨⟨v5, v6, v7, rfl⟩, k2, tr2, sz2⟩
        refine q H' k2 ?_
        rw [ints_len, List.take_length] at tr2
        rw [Sq.lookUnit_eq, hth, if_neg (by rw [cc]; simp)]
        exact tr2
end
end Py
namespace Py
open PySem PySem.Spec PyProof.Rows L2
open Kgi1 (cells)
open Kgi2 (at_ has unit)
open Sq (Wf Rt sub nU mask masks plT)
theorem TrI_sz {f : Fm} {s0 : Kgi2.St} {t : Sq.TS} {cx : Nat → Prop} {gx : Sq.Sgn → Prop} {ux : Nat → Nat → Prop} (i : Sq.TrI f s0 t cx gx ux) : Sz f t := ⟨i.wf, i.siz⟩
section
variable {P : Program} {w : World} {K : PySem.W.Frag} {mg : Str → Option Value} {base : Heap} {c : Cs}
theorem scEnds : FnScope ["self", "struck", "k", "v", "u"] ["self"] (defScope sEnds) := ⟨rfl, rfl, rfl, by decide +kernel, rfl, by decide +kernel, by decide +kernel⟩
theorem ok_ends {f : Addr} {fd : FuncData} (F : Fun K "ends_broken" "Trial.ends_broken" sEnds f fd) (T0 : Txt K c) (GM : GF P w K mg base 2 "members" ["bits"] spMembers) (MC : MF P w K mg base 6 c.T "look_at_cell" ["self", "k"] (spLookC c)) (MU : MF P w K mg base 6 c.T "look_at_unit" ["self", "u", "v"] (spLookU c)) :
    FnOk P w K mg base CX0 7 f fd ["self"] (spEnds c) := by
  refine F.ok scEnds (fun vs H Q E h => ?_) (fun cdv A outer s H vs Q E hr h => ?_)
  · obtain ⟨T, S, A, fr, s0, t, rfl, _⟩ := h; rfl
  · obtain ⟨T, S, A, fr, s0, t, rfl, fa, sub0, hS, tr, R, w0, ti, yes, no⟩ := h
    have hhi := R.hi
    refine ⟨_, pss_cons (ps_while PassesOwn.never (pt_truth (pe_fld (pv 0) rfl) (fun _ => rfl))
        (pss_cons (ps_set (i := 1) scEnds.nd rfl (Or.inl rfl) (pe_bm0 PySem.F.plainAttrs_list PySem.F.slot_list_pop PySem.F.type_list_pop mt_pop (pe_fld (pv 0) rfl)))
        (pss_cons (ps_set (i := 2) scEnds.nd rfl (Or.inl rfl) (pe_ix ix_tup (pv 1) pe_int (fun _ _ => rfl)))
        (pss_cons (ps_if (pt_cmpR on_eq (pe_ix ix_list (pe_fld (pe_fld (pv 0) rfl) rfl) (pv 2) (fun _ _ => rfl)) (pe_nat 0) (nomark _)) (pss_one (ps_ret pe_bl)) pss_nil)
        (pss_cons (ps_expr (pe_methG (pv 0) T0.clT MC hr (pa_cons (pv 2) pa_nil)))
        (pss_one (ps_for PassesOwn.never rfl (pi_list (pe_callG GM hr rfl (pa_cons (pe_ix ix_tup (pv 1) pe_int (fun _ _ => rfl)) pa_nil))) (pg_name (i := 3) scEnds.nd rfl (Or.inl rfl))
          (pss_one (ps_for PassesOwn.never rfl (pi_list (pe_ix ix_list (pe_fld (pe_fld (pv 0) rfl) rfl) (pv 2) (fun _ _ => rfl))) (pg_name (i := 4) scEnds.nd rfl (Or.inl rfl))
            (pss_cons (ps_if (pt_cmpR on_eq (pe_op on_and (pe_ix ix_list (pe_fld (pe_fld (pv 0) rfl) rfl) (pv 3) (fun _ _ => rfl)) (pe_ix ix_list (pe_fld (pe_fld (pv 0) rfl) rfl) (pv 4) (fun _ _ => rfl))) (pe_nat 0) (nomark _)) (pss_one (ps_ret pe_bl)) pss_nil)
            (pss_one (ps_expr (pe_methG (pv 0) T0.clT MU hr (pa_cons (pv 4) (pa_cons (pv 3) pa_nil)))))))))))))))
      (pss_one (ps_ret pe_bl)), ?_⟩
    refine ⟨fun m σ H' => (∃ v1 v2 v3 v4, σ = [some (.ref T.p), v1, v2, v3, v4]) ∧ Kp T.mu H H' ∧ ∃ t, TrAt c H' T A.p fr t ∧ Sq.TrI fr s0 t Sq.no1 Sq.no1 Sq.no2 ∧ m = 2 * Sq.card t.1 + t.2.length, ⟨_, ⟨_, _, _, _, rfl⟩, Kp.refl _ _, t, tr, ti, rfl⟩, ?_⟩
    rintro m σ H1 ⟨⟨v1, v2, v3, v4, rfl⟩, k1, t1, tr1, ti1, rfl⟩
    obtain ⟨as, hnl, tu⟩ := tr1.nw
    refine ⟨_, rfl, _, c.T, _, _, _, rfl, tr1.ob, T0.clT, T0.tNews, fsT_news _ _ _, _, tru_list hnl, iteB (fun cc => ?_) (fun cc => ?_)⟩
    · have hne : as ≠ [] := of_decide_eq_true cc
      have hne2 : t1.2 ≠ [] := fun z => hne ((tups_nil tu).mpr z)
      obtain ⟨sT, NT⟩ := t1
      obtain ⟨N, ⟨k, h⟩, rfl⟩ : ∃ N q, NT = N ++ [q] := ⟨NT.dropLast, NT.getLast hne2, (List.dropLast_concat_getLast hne2).symm⟩
      obtain ⟨bs, b, rfl, tbs, eb⟩ := Tups.unsnoc tu
      obtain ⟨hk, hbits, ti2⟩ := ti1.pop
      refine ⟨fun σ' H' => (∃ v1 v2 v3 v4, σ' = [some (.ref T.p), v1, v2, v3, v4]) ∧ Kp T.mu H H' ∧ ∃ t, TrAt c H' T A.p fr t ∧ Sq.TrI fr s0 t Sq.no1 Sq.no1 Sq.no2 ∧ 2 * Sq.card t.1 + t.2.length < 2 * Sq.card sT + (N ++ [(k, h)]).length, fun σ' H' ⟨z1, z2, t', z3, z4, z5⟩ => ⟨_, z5, z1, z2, t', z3, z4, rfl⟩, ?_⟩
      -- struck = self.news.pop()
      have elast : ((bs ++ [b]).map V.ref)[((bs ++ [b]).map V.ref).length - 1]? = some (.ref b) := by
        rw [List.map_append, List.length_append]
        simp
      have edrop : ((bs ++ [b]).map V.ref).dropLast = bs.map V.ref := by rw [List.map_append]; simp
      refine ⟨_, rfl, _, c.T, _, _, _, rfl, tr1.ob, T0.clT, T0.tNews, fsT_news _ _ _, .inl ⟨rfl, _, SqL.of hnl⟩, T.nl, _, _, rfl, rfl, hnl, elast, ?_⟩
      rw [edrop]
      have kp : Kp [T.nl] H1 (upd H1 T.nl (.lst (bs.map V.ref))) := Kp.put hnl (by simp)
      have k2 : Kp T.mu H (upd H1 T.nl (.lst (bs.map V.ref))) := k1.trans (kp.mono (by simp [TAd.mu]))
      have tr2 : TrAt c (upd H1 T.nl (.lst (bs.map V.ref))) T A.p fr (sT, N) := ⟨kp.oth _ _ tr1.ob (fun _ e => by cases e), tr1.bd.kp kp (by simp [Ne.symm tr1.n1]) (by simp [Ne.symm tr1.n2]), ⟨bs, upd_same, tbs.kp kp⟩, tr1.n1, tr1.n2⟩
      have eb2 := kp.oth _ _ eb (fun _ e => by cases e)
      generalize upd H1 T.nl (.lst (bs.map V.ref)) = H2 at k2 tr2 eb2 ⊢
      have sub2 := k2.sub sub0 hS
      -- k = struck[0]; if self.board.cells[k] == 0
      refine ⟨_, rfl, b, _, _, _, rfl, rfl, SqT.of eb2, rfl, _, rfl, _, c.T, _, _, _, rfl, tr2.ob, T0.clT, T0.tBoard, fsT_board _ _ _, _, c.B, _, _, _, rfl, tr2.bd.ob, T0.clB, T0.bCells, fsB_cells _ _, _, rfl, T.B.cl, _, _, _, rfl, rfl, SqL.of tr2.bd.cl, ints_at (at_get ti2.wf hk), _, 0, rfl, rfl, _, rfl,
        iteB (fun c1 => yes H2 k2 (ti2.cell0 R w0 hk (of_decide_eq_true c1))) (fun c1 => ?_)⟩
      have h0 : at_ sT k ≠ 0 := of_decide_eq_false c1
      -- self.look_at_cell(k)
      obtain ⟨ti3, ran3⟩ := ti2.look R hk h0
      refine ⟨_, rfl, _, _, _, rfl, tr2.ob, fsT_lookC _ _ _, _, rfl, T, S, A, fr, (sT, N), k, rfl, fa, sub2, hS, tr2, R, TrI_sz ti2, hk, fun H3 k3 tr3 => ?_⟩
      have k13 := k2.trans k3
      have eb3 := k3.oth _ _ eb2 (fun _ e => by cases e)
      have mea3 : 2 * Sq.card (Sq.lookCell fr (sT, N) k).1 + (Sq.lookCell fr (sT, N) k).2.length < 2 * Sq.card sT + (N ++ [(k, h)]).length := by
        have := ran3.mea
        simp at this ⊢
        omega
      have hb100 : h < 2 ^ 100 := Nat.lt_of_lt_of_le (Sq.bits_1024 R fun v hv => (hbits v hv).2) (by decide)
      -- for v in members(struck[1])
      refine ⟨_, rfl, b, _, _, _, rfl, rfl, SqT.of eb3, rfl, h, rfl, hb100, fun p hp => ⟨p, rfl, ⟨_, SqL.of upd_same⟩, ?_⟩⟩
      have pm : p ∉ T.mu := tr3.new hp
      have s4 : Same H3 (upd H3 p (.lst (nIs (Sq.bitsOf h)))) := same_new hp
      refine for_list (K := K) (a := p) (xs := nIs (Sq.bitsOf h)) (fun i σ H' => (∃ v3 v4, σ = [some (.ref T.p), some (.ref b), some (nI k), v3, v4]) ∧ Kp T.mu H H' ∧ H' p = some (.lst (nIs (Sq.bitsOf h))) ∧ ∃ t, TrAt c H' T A.p fr t ∧ Sq.TrI fr s0 t Sq.no1 Sq.no1 (Sq.leftU fr k h i 0) ∧ 2 * Sq.card t.1 + t.2.length < 2 * Sq.card sT + (N ++ [(k, h)]).length)
        ⟨⟨_, _, rfl⟩, k13.trans (Kp.same s4), upd_same, _, tr3.same s4, ti3, mea3⟩ (fun i σ H' _ ⟨_, _, z, _⟩ => SqL.of z) ?_ ?_
      · rintro i y σ H5 hy ⟨⟨v3, v4, rfl⟩, k5, hp5, t5, tr5, ti5, me5⟩
        obtain ⟨v, hv, rfl⟩ := of_ints hy
        have hv1 := hbits v (Sq.mem_bitsOf.mp (List.mem_of_getElem? hv))
        have sub5 := k5.sub sub0 hS
        obtain ⟨ua, hua, eua⟩ := Ats.at fa.uos (List.getElem?_range hk)
        refine ⟨_, rfl, _, c.T, _, _, _, rfl, tr5.ob, T0.clT, T0.tFrame, fsT_frame _ _ _, _, c.F, _, _, _, rfl, sub5 _ _ fa.ob, T0.clF, T0.fUnitsOf, fsF_units_of _ _, _, rfl, A.uo, _, _, _, rfl, rfl, SqL.of (sub5 _ _ fa.uo), atI_nat (refs_get hua), ua, rfl, ⟨_, SqL.of (sub5 _ _ eua)⟩, ?_⟩
        refine for_list (K := K) (a := ua) (xs := nIs (Sq.unitsOf fr k)) (fun j σ H' => (∃ v4, σ = [some (.ref T.p), some (.ref b), some (nI k), some (nI v), v4]) ∧ Kp T.mu H H' ∧ H' p = some (.lst (nIs (Sq.bitsOf h))) ∧ ∃ t, TrAt c H' T A.p fr t ∧ Sq.TrI fr s0 t Sq.no1 Sq.no1 (Sq.leftU fr k h i j) ∧ 2 * Sq.card t.1 + t.2.length < 2 * Sq.card sT + (N ++ [(k, h)]).length)
          ⟨⟨_, rfl⟩, k5, hp5, t5, tr5, ti5, me5⟩ (fun j σ H' _ ⟨_, z, _⟩ => SqL.of (z.sub sub0 hS _ _ eua)) ?_ ?_
        · rintro j y σ H6 hy ⟨⟨v4, rfl⟩, k6, hp6, t6, tr6, ti6, me6⟩
          obtain ⟨u, hu, rfl⟩ := of_ints hy
          have hul := (Sq.mem_unitsOf.mp (List.mem_of_getElem? hu)).1
          have sub6 := k6.sub sub0 hS
          refine ⟨_, rfl, _, c.T, _, _, _, rfl, tr6.ob, T0.clT, T0.tBoard, fsT_board _ _ _, _, c.B, _, _, _, rfl, tr6.bd.ob, T0.clB, T0.bPlaces, fsB_places _ _, _, rfl, T.B.pl, _, _, _, rfl, rfl, SqL.of tr6.bd.pl, ints_at (Sq.plT_at hv1.2),
            _, rfl, _, c.T, _, _, _, rfl, tr6.ob, T0.clT, T0.tFrame, fsT_frame _ _ _, _, c.F, _, _, _, rfl, sub6 _ _ fa.ob, T0.clF, T0.fUnits, fsF_units _ _, _, rfl, A.u, _, _, _, rfl, rfl, SqL.of (sub6 _ _ fa.un), ints_at (Sq.masks_at hul), _, _, rfl, rfl, _, 0, rfl, rfl, _, rfl,
            iteB (fun c2 => yes H6 k6 (ti6.unit0 R w0 hul hv1 (of_decide_eq_true c2))) (fun c2 => ?_)⟩
          have h1 : Sq.pl t6.1 v &&& mask fr u ≠ 0 := of_decide_eq_false c2
          obtain ⟨ti7, ran7⟩ := ti6.lookU R hv hu hv1 h1
          refine ⟨_, rfl, _, _, _, rfl, tr6.ob, fsT_lookU _ _ _, _, rfl, _, rfl, T, S, A, fr, t6, u, v, rfl, fa, sub6, hS, tr6, R, TrI_sz ti6, hul, hv1, h1, fun H7 k7 tr7 => ⟨⟨_, rfl⟩, k6.trans k7, k7.lst _ _ hp6 pm, _, tr7, ti7, ?_⟩⟩
          have := ran7.mea
          omega
        · rintro σ H6 ⟨⟨v4, rfl⟩, k6, hp6, t6, tr6, ti6, me6⟩
          rw [ints_len] at ti6
          exact ⟨⟨_, _, rfl⟩, k6, hp6, t6, tr6, ti6.turn hv, me6⟩
      · rintro σ H5 ⟨⟨v3, v4, rfl⟩, k5, hp5, t5, tr5, ti5, me5⟩
        rw [ints_len] at ti5
        exact ⟨⟨_, _, _, _, rfl⟩, k5, t5, tr5, ti5.fin, me5⟩
    · have hz : as = [] := by simpa using cc
      have hz2 : t1.2 = [] := (tups_nil tu).mp hz
      obtain ⟨sT, NT⟩ := t1
      have hz2 : NT = [] := hz2
      subst hz2
      exact no H1 sT k1 tr1 (ti1.done R)
end
end Py
namespace Py
open PySem PySem.Spec PyProof.Rows L2
open Kgi1 (cells)
open Kgi2 (at_ has unit)
open Sq (Wf Rt sub nU mask masks plT Le)
def fsC (a : V) (n : Nat) : List (Str × V) := [("numbers", a), ("at", nI n)]
def Out (x : List Addr) (b : Addr) (o : HO) : Prop := b ∈ x ∨ (∃ ob u, o = .frz ob u) ∨ ∃ C dx a n, o = .ins C dx (fsC a n)
def Ko (x : List Addr) (H H' : Hp) : Prop := ∀ b o, H b = some o → Out x b o → H' b = some o
theorem Ko.refl (x : List Addr) (H : Hp) : Ko x H H := fun _ _ h _ => h
theorem Ko.trans {x : List Addr} {H H1 H2 : Hp} (a : Ko x H H1) (b : Ko x H1 H2) : Ko x H H2 := fun c o h z => b c o (a c o h z) z
theorem Ko.same {x : List Addr} {H H' : Hp} (s : Same H H') : Ko x H H' := fun b o h _ => s b o h
theorem Ko.mono {x y : List Addr} {H H' : Hp} (a : Ko x H H') (h : ∀ b ∈ y, b ∈ x) : Ko y H H' := fun b o e z => a b o e (z.elim (fun z => .inl (h b z)) .inr)
theorem Ko.kp {x : List Addr} {M : List Addr} {H H' : Hp} (k : Kp M H H') (h : ∀ b ∈ x, b ∉ M) : Ko x H H' := fun b o e z => by
  rcases z with z | ⟨ob, u, rfl⟩ | ⟨C, dx, a, n, rfl⟩
  · exact k.keep e (h b z)
  · exact k.oth b _ e (fun xs z => by cases z)
  · exact k.oth b _ e (fun xs z => by cases z)
theorem Ko.put {x : List Addr} {p : Addr} {H : Hp} {o o' : HO} (h : H p = some o) (n : ¬ Out x p o) : Ko x H (upd H p o') := fun b u e z => by
  have : b ≠ p := fun q => by subst q; rw [h] at e; cases e; exact n z
  rw [upd_ne this]; exact e
theorem out_sq {x : List Addr} {q C dx : Addr} {a b d : V} {t : Nat} (h : q ∉ x) : ¬ Out x q (.ins C dx (fsS a b d t)) := fun z => by
  rcases z with z | ⟨ob, u, z⟩ | ⟨C, dx, a, n, z⟩
  · exact h z
  · cases z
  · injection z with _ _ z
    exact absurd (congrArg List.length z) (by show ¬ (4 = 2); decide)
theorem out_dT {x : List Addr} {d : Addr} {kvs : List (List Key × V)} (h : d ∉ x) : ¬ Out x d (.dT kvs) := fun z => by
  rcases z with z | ⟨ob, u, z⟩ | ⟨C, dx, a, n, z⟩
  · exact h z
  · cases z
  · cases z
def ky (k v : Nat) : List Key := [Sum.inl (k : Int), Sum.inl (v : Int)]
theorem ky_inj {k v k' v' : Nat} (h : ky k v = ky k' v') : k = k' ∧ v = v' := by
  unfold ky at h
  injection h with h1 h2
  injection h2 with h2 _
  injection h1 with h1
  injection h2 with h2
  omega
structure SqB (c : Cs) (H : Hp) (q : Addr) (G : Gh) (f : Fm) (s : Kgi2.St) (t : Nat) (x : List Addr) : Prop where
  rd : SqRd c H q G f s t
  qu : Sq.Quiet f s t
  hx : ∀ a ∈ x, ∃ xs, H a = some (.lst xs)
  ax : ∀ a ∈ x, G.S a = none ∧ a ≠ G.B.cl ∧ a ≠ G.B.pl
  sq : G.S q = none
  sd : G.S G.d = none
  sc : G.S G.B.cl = none
  sp : G.S G.B.pl = none
theorem SqB.kp {c : Cs} {M : List Addr} {H H' : Hp} {q : Addr} {x : List Addr} {G : Gh} {f : Fm} {s : Kgi2.St} {t : Nat} (a : SqB c H q G f s t x) (k : Kp M H H') (hS : ∀ b ∈ M, G.S b = none) (hx : ∀ b ∈ x, b ∉ M) (h1 : G.B.cl ∉ M) (h2 : G.B.pl ∉ M) : SqB c H' q G f s t x := by
  exact ⟨⟨k.oth _ _ a.rd.ob (fun _ z => by cases z), a.rd.fr, k.sub a.rd.sub hS, a.rd.bd.kp k h1 h2, a.rd.rt, a.rd.wf⟩, a.qu, fun b hb => (a.hx b hb).imp fun xs e => k.lst _ _ e (hx b hb), a.ax, a.sq, a.sd, a.sc, a.sp⟩
def ApT (G : Gh) (x : List Addr) (T : TAd) : Prop := ∀ b ∈ T.mu, G.S b = none ∧ b ≠ G.B.cl ∧ b ≠ G.B.pl ∧ b ∉ x
structure Live (c : Cs) (H : Hp) (G : Gh) (f : Fm) (s : Kgi2.St) (x : List Addr) (T : TAd) (k v : Nat) (y : V) : Prop where
  eq : y = .ref T.p
  tr : ∃ u, TrAt c H T G.A.p f (u, []) ∧ ∃ s1, Wf f s1 ∧ Le s s1 ∧ has s1 k v = true ∧ Sq.Good f (s1.set k (2 ^ v)) u
  ap : ApT G x T
theorem Live.kp {c : Cs} {M : List Addr} {H H' : Hp} {G : Gh} {f : Fm} {s : Kgi2.St} {x : List Addr} {T : TAd} {k v : Nat} {y : V} (a : Live c H G f s x T k v y) (m : Kp M H H') (h : ∀ b ∈ T.mu, b ∉ M) : Live c H' G f s x T k v y := by
  obtain ⟨u, h1, h2⟩ := a.tr
  exact ⟨a.eq, ⟨u, h1.kp m h, h2⟩, a.ap⟩
structure Trs (c : Cs) (H : Hp) (G : Gh) (f : Fm) (s : Kgi2.St) (x : List Addr) (dd : Nat → Nat → Prop) (kvs : List (List Key × V)) (ta : Nat → Nat → TAd) : Prop where
  dic : H G.d = some (.dT kvs)
  nd : (kvs.map (·.1)).Nodup
  ks : ∀ p ∈ kvs, ∃ k v : Nat, p.1 = ky k v ∧ k < 81 ∧ v < 10
  live : ∀ k v y, valV kvs (ky k v) = some y → has s k v = true → ¬ dd k v → Live c H G f s x (ta k v) k v y
  dj : ∀ k v k' v' y y', valV kvs (ky k v) = some y → has s k v = true → ¬ dd k v → valV kvs (ky k' v') = some y' → has s k' v' = true → ¬ dd k' v' → ¬ (k = k' ∧ v = v') → ∀ b ∈ (ta k v).mu, b ∉ (ta k' v').mu
def SqAt (c : Cs) (H : Hp) (q : Addr) (G : Gh) (f : Fm) (s : Kgi2.St) (t : Nat) (x : List Addr) (dd : Nat → Nat → Prop) : Prop := SqB c H q G f s t x ∧ ∃ kvs ta, Trs c H G f s x dd kvs ta
theorem Trs.same {c : Cs} {H H' : Hp} {G : Gh} {f : Fm} {s : Kgi2.St} {x : List Addr} {dd : Nat → Nat → Prop} {kvs : List (List Key × V)} {ta : Nat → Nat → TAd} (a : Trs c H G f s x dd kvs ta) (m : Same H H') : Trs c H' G f s x dd kvs ta :=
  ⟨m _ _ a.dic, a.nd, a.ks, fun k v y h1 h2 h3 => (a.live k v y h1 h2 h3).kp (M := []) (Kp.same m) (by simp), a.dj⟩
theorem SqB.same {c : Cs} {H H' : Hp} {q : Addr} {x : List Addr} {G : Gh} {f : Fm} {s : Kgi2.St} {t : Nat} (a : SqB c H q G f s t x) (m : Same H H') : SqB c H' q G f s t x := a.kp (M := []) (Kp.same m) (by simp) (by simp) (by simp) (by simp)
theorem SqAt.same {c : Cs} {H H' : Hp} {q : Addr} {x : List Addr} {G : Gh} {f : Fm} {s : Kgi2.St} {t : Nat} {dd : Nat → Nat → Prop} (a : SqAt c H q G f s t x dd) (m : Same H H') : SqAt c H' q G f s t x dd := by
  obtain ⟨b, kvs, ta, h⟩ := a
  exact ⟨b.same m, kvs, ta, h.same m⟩
theorem SqAt.dx {c : Cs} {H : Hp} {q : Addr} {x : List Addr} {G : Gh} {f : Fm} {s : Kgi2.St} {t : Nat} {dd : Nat → Nat → Prop} (a : SqAt c H q G f s t x dd) : G.d ∉ x := fun z => by
  obtain ⟨b, kvs, ta, h⟩ := a
  obtain ⟨xs, e⟩ := b.hx _ z
  rw [h.dic] at e; cases e
theorem len_sub {α : Type} [DecidableEq α] : ∀ {l m : List α}, l.Nodup → (∀ a ∈ l, a ∈ m) → l.length ≤ m.length
  | [], _, _, _ => Nat.zero_le _
  | a :: l, m, nd, h => by
    obtain ⟨h1, h2⟩ := List.nodup_cons.mp nd
    have ha := h a List.mem_cons_self
    have : l.length ≤ (m.erase a).length := len_sub h2 fun b hb => (List.mem_erase_of_ne (show b ≠ a from fun e => h1 (by rw [← e]; exact hb))).mpr (h b (List.mem_cons_of_mem _ hb))
    have := List.length_erase_of_mem ha
    have := List.length_pos_of_mem ha
    rw [List.length_cons]
    omega
theorem Trs.len {c : Cs} {H : Hp} {G : Gh} {f : Fm} {s : Kgi2.St} {x : List Addr} {dd : Nat → Nat → Prop} {kvs : List (List Key × V)} {ta : Nat → Nat → TAd} (a : Trs c H G f s x dd kvs ta) : kvs.length < sizeLine := by
  have h : (kvs.map (·.1)).length ≤ ((List.range 81).flatMap fun k => (List.range 10).map (ky k)).length := len_sub a.nd fun b hb => by
    obtain ⟨p, hp, rfl⟩ := List.mem_map.mp hb
    obtain ⟨k, v, e, h1, h2⟩ := a.ks p hp
    rw [e]
    exact List.mem_flatMap.mpr ⟨k, List.mem_range.mpr h1, List.mem_map.mpr ⟨v, List.mem_range.mpr h2, rfl⟩⟩
  rw [List.length_map] at h
  exact Nat.lt_of_le_of_lt h (by decide +kernel)
structure Run (c : Cs) (H : Hp) (q : Addr) (G : Gh) (f : Fm) (s : Kgi2.St) (t : Nat) (x : List Addr) (k v : Nat) (T : TAd) (ts : Sq.TS) : Prop where
  b : SqB c H q G f s t x
  tr : TrAt c H T G.A.p f ts
  ap : ApT G x T
  ex : ∃ kvs ta, Trs c H G f s x (fun a b => a = k ∧ b = v) kvs ta ∧ valV kvs (ky k v) = some (.ref T.p) ∧ ∀ k' v' y, valV kvs (ky k' v') = some y → has s k' v' = true → ¬ (k' = k ∧ v' = v) → ∀ b ∈ T.mu, b ∉ (ta k' v').mu
theorem Run.kp {c : Cs} {H H' : Hp} {q : Addr} {x : List Addr} {G : Gh} {f : Fm} {s : Kgi2.St} {t k v : Nat} {T : TAd} {ts ts' : Sq.TS} (a : Run c H q G f s t x k v T ts) (m : Kp T.mu H H') (tr : TrAt c H' T G.A.p f ts') : Run c H' q G f s t x k v T ts' := by
  obtain ⟨kvs, ta, h1, h2, h3⟩ := a.ex
  refine ⟨a.b.kp m (fun b hb => (a.ap b hb).1) (fun b hb z => (a.ap _ z).2.2.2 hb) (fun z => (a.ap _ z).2.1 rfl) (fun z => (a.ap _ z).2.2.1 rfl), tr, a.ap, kvs, ta, ?_, h2, h3⟩
  exact ⟨m.oth _ _ h1.dic (fun _ z => by cases z), h1.nd, h1.ks, fun k' v' y e1 e2 e3 => (h1.live k' v' y e1 e2 e3).kp m (fun b hb z => h3 k' v' y e1 e2 e3 b z hb), h1.dj⟩
theorem Run.dead {c : Cs} {H H' : Hp} {q : Addr} {x : List Addr} {G : Gh} {f : Fm} {s : Kgi2.St} {t k v : Nat} {T : TAd} {ts : Sq.TS} (a : Run c H q G f s t x k v T ts) (m : Kp T.mu H H') : SqAt c H' q G f s t x (fun a b => a = k ∧ b = v) := by
  obtain ⟨kvs, ta, h1, h2, h3⟩ := a.ex
  refine ⟨a.b.kp m (fun b hb => (a.ap b hb).1) (fun b hb z => (a.ap _ z).2.2.2 hb) (fun z => (a.ap _ z).2.1 rfl) (fun z => (a.ap _ z).2.2.1 rfl), kvs, ta, ?_⟩
  exact ⟨m.oth _ _ h1.dic (fun _ z => by cases z), h1.nd, h1.ks, fun k' v' y e1 e2 e3 => (h1.live k' v' y e1 e2 e3).kp m (fun b hb z => h3 k' v' y e1 e2 e3 b z hb), h1.dj⟩
theorem Run.done {c : Cs} {H : Hp} {q : Addr} {x : List Addr} {G : Gh} {f : Fm} {s u : Kgi2.St} {t k v : Nat} {T : TAd} (a : Run c H q G f s t x k v T (u, [])) (hv : has s k v = true) (g : Sq.Good f (s.set k (2 ^ v)) u) : SqAt c H q G f s t x Sq.no2 := by
  obtain ⟨kvs, ta, h1, h2, h3⟩ := a.ex
  refine ⟨a.b, kvs, fun k' v' => if k' = k ∧ v' = v then T else ta k' v', h1.dic, h1.nd, h1.ks, fun k' v' y e1 e2 _ => ?_, fun k1 v1 k2 v2 y1 y2 e1 e2 _ e3 e4 _ ne => ?_⟩
  · by_cases z : k' = k ∧ v' = v
    · rw [if_pos z]
      obtain ⟨rfl, rfl⟩ := z
      rw [h2] at e1
      cases e1
      exact ⟨rfl, ⟨u, a.tr, s, a.b.rd.wf, Le.refl s, hv, g⟩, a.ap⟩
    · rw [if_neg z]; exact h1.live k' v' y e1 e2 z
  · by_cases z1 : k1 = k ∧ v1 = v
    · have z2 : ¬ (k2 = k ∧ v2 = v) := fun z => ne ⟨z1.1.trans z.1.symm, z1.2.trans z.2.symm⟩
      rw [if_pos z1, if_neg z2]
      exact h3 k2 v2 y2 e3 e4 z2
    · rw [if_neg z1]
      by_cases z2 : k2 = k ∧ v2 = v
      · rw [if_pos z2]
        exact fun b hb hz => h3 k1 v1 y1 e1 e2 z1 b hz hb
      · rw [if_neg z2]
        exact h1.dj k1 v1 k2 v2 y1 y2 e1 e2 z1 e3 e4 z2 ne
theorem SqAt.run {c : Cs} {H : Hp} {q : Addr} {x : List Addr} {G : Gh} {f : Fm} {s : Kgi2.St} {t k v : Nat} {kvs : List (List Key × V)} {ta : Nat → Nat → TAd} {y : V} (b : SqB c H q G f s t x) (h : Trs c H G f s x Sq.no2 kvs ta) (e : valV kvs (ky k v) = some y) (hv : has s k v = true) :
    y = .ref (ta k v).p ∧ ∃ u s1, Run c H q G f s t x k v (ta k v) (u, []) ∧ Wf f s1 ∧ Le s s1 ∧ has s1 k v = true ∧ Sq.Good f (s1.set k (2 ^ v)) u := by
  obtain ⟨e1, ⟨u, tr, s1, w1, le, h1, g⟩, ap⟩ := h.live k v y e hv id
  refine ⟨e1, u, s1, ⟨b, tr, ap, kvs, ta, ⟨h.dic, h.nd, h.ks, fun k' v' y' a1 a2 _ => h.live k' v' y' a1 a2 id, fun k1 v1 k2 v2 y1 y2 a1 a2 _ a3 a4 _ => h.dj k1 v1 k2 v2 y1 y2 a1 a2 id a3 a4 id⟩, e1 ▸ e, fun k' v' y' a1 a2 ne b hb => ?_⟩, w1, le, h1, g⟩
  exact h.dj k v k' v' y y' e hv id a1 a2 id (fun z => ne ⟨z.1.symm, z.2.symm⟩) b hb
theorem SqAt.fresh {c : Cs} {H : Hp} {q : Addr} {x : List Addr} {G : Gh} {f : Fm} {s : Kgi2.St} {t k v : Nat} {kvs : List (List Key × V)} {ta : Nat → Nat → TAd} {T : TAd} {ts : Sq.TS} (b : SqB c H q G f s t x) (h : Trs c H G f s x Sq.no2 kvs ta) (e : valV kvs (ky k v) = none) (hk : k < 81) (hv9 : v < 10)
    (tr : TrAt c H T G.A.p f ts) (ap : ApT G x T) (nw : ∀ b ∈ T.mu, ∀ k' v' y, valV kvs (ky k' v') = some y → has s k' v' = true → b ∉ (ta k' v').mu) : Run c (upd H G.d (.dT (putK kvs (ky k v) (.ref T.p)))) q G f s t x k v T ts := by
  have hne : ∀ {a o}, H a = some o → (∀ kvs, o ≠ .dT kvs) → a ≠ G.d := fun {a o} e1 e2 z => by rw [z, h.dic] at e1; cases e1; exact e2 _ rfl
  have kk : ∀ {a o}, H a = some o → (∀ kvs, o ≠ .dT kvs) → upd H G.d (.dT (putK kvs (ky k v) (.ref T.p))) a = some o := fun {a o} e1 e2 => by rw [upd_ne (hne e1 e2)]; exact e1
  have bb : ∀ {B : Bd} {s : Kgi2.St}, BdAt c H B f s → BdAt c (upd H G.d (.dT (putK kvs (ky k v) (.ref T.p)))) B f s := fun b => ⟨kk b.ob (fun _ z => by cases z), kk b.cl (fun _ z => by cases z), kk b.pl (fun _ z => by cases z), b.ne⟩
  have tt : ∀ {T : TAd} {ts : Sq.TS}, TrAt c H T G.A.p f ts → TrAt c (upd H G.d (.dT (putK kvs (ky k v) (.ref T.p)))) T G.A.p f ts → TrAt c (upd H G.d (.dT (putK kvs (ky k v) (.ref T.p)))) T G.A.p f ts := fun _ h => h
  have tk : ∀ {T' : TAd} {ts : Sq.TS}, TrAt c H T' G.A.p f ts → TrAt c (upd H G.d (.dT (putK kvs (ky k v) (.ref T.p)))) T' G.A.p f ts := fun a => by
    obtain ⟨as, h1, h2⟩ := a.nw
    exact ⟨kk a.ob (fun _ z => by cases z), bb a.bd, ⟨as, kk h1 (fun _ z => by cases z), Ats.imp (fun _ _ e => kk e (fun _ z => by cases z)) h2⟩, a.n1, a.n2⟩
  have subS : Same G.S (upd H G.d (.dT (putK kvs (ky k v) (.ref T.p)))) := fun a o e1 => by
    have : a ≠ G.d := fun z => by rw [z, b.sd] at e1; cases e1
    rw [upd_ne this]; exact b.rd.sub _ _ e1
  have look : ∀ k' v', valV (putK kvs (ky k v) (.ref T.p)) (ky k' v') = if k' = k ∧ v' = v then some (.ref T.p) else valV kvs (ky k' v') := fun k' v' => by
    rw [valV_put]
    by_cases z : k' = k ∧ v' = v
    · rw [if_pos z, if_pos (by rw [z.1, z.2])]
    · rw [if_neg z, if_neg fun e => z (ky_inj e)]
  refine ⟨⟨⟨kk b.rd.ob (fun _ z => by cases z), b.rd.fr, subS, bb b.rd.bd, b.rd.rt, b.rd.wf⟩, b.qu, fun a ha => (b.hx a ha).imp fun xs ex => kk ex (fun _ z => by cases z), b.ax, b.sq, b.sd, b.sc, b.sp⟩, tk tr, ap, putK kvs (ky k v) (.ref T.p), ta, ⟨upd_same, nd_putK _ h.nd e, fun p hp => ?_, fun k' v' y e1 e2 e3 => ?_, fun k1 v1 k2 v2 y1 y2 e1 e2 n1 e3 e4 n2 ne => ?_⟩, ?_, fun k' v' y e1 e2 ne b hb => ?_⟩
  · rw [putK_new _ e] at hp
    rcases List.mem_append.mp hp with z | z
    · exact h.ks p z
    · rw [List.mem_singleton.mp z]; exact ⟨k, v, rfl, hk, hv9⟩
  · rw [look, if_neg e3] at e1
    obtain ⟨a1, ⟨u, a2, a3⟩, a4⟩ := h.live k' v' y e1 e2 id
    exact ⟨a1, ⟨u, tk a2, a3⟩, a4⟩
  · rw [look, if_neg n1] at e1
    rw [look, if_neg n2] at e3
    exact h.dj k1 v1 k2 v2 y1 y2 e1 e2 id e3 e4 id ne
  · rw [look, if_pos ⟨rfl, rfl⟩]
  · rw [look, if_neg ne] at e1
    exact nw b hb k' v' y e1 e2
theorem SqAt.more {c : Cs} {H : Hp} {q : Addr} {x : List Addr} {G : Gh} {f : Fm} {s : Kgi2.St} {t : Nat} {dd : Nat → Nat → Prop} (a : SqAt c H q G f s t x dd) {p : Addr} (hp : H p = none) (xs : List V) : SqAt c (upd H p (.lst xs)) q G f s t (p :: x) dd := by
  obtain ⟨b, kvs, ta, h⟩ := a
  have m : Same H (upd H p (.lst xs)) := same_new hp
  have b' := b.same m
  have h' := h.same m
  have nS : G.S p = none := by
    cases e : G.S p with
    | none => rfl
    | some o => rw [b.rd.sub _ _ e] at hp; cases hp
  refine ⟨⟨b'.rd, b'.qu, fun y hy => ?_, fun y hy => ?_, b'.sq, b'.sd, b'.sc, b'.sp⟩, kvs, ta, h'.dic, h'.nd, h'.ks, fun k v y e1 e2 e3 => ?_, h'.dj⟩
  · rcases List.mem_cons.mp hy with rfl | hy
    · exact ⟨xs, upd_same⟩
    · exact b'.hx y hy
  · rcases List.mem_cons.mp hy with rfl | hy
    · exact ⟨nS, Ne.symm (ne_of_none b.rd.bd.cl hp), Ne.symm (ne_of_none b.rd.bd.pl hp)⟩
    · exact b'.ax y hy
  · have l := h.live k v y e1 e2 e3
    obtain ⟨a1, a2, a3⟩ := h'.live k v y e1 e2 e3
    obtain ⟨u, tr, _⟩ := l.tr
    refine ⟨a1, a2, fun b hb => ⟨(a3 b hb).1, (a3 b hb).2.1, (a3 b hb).2.2.1, fun z => ?_⟩⟩
    rcases List.mem_cons.mp z with rfl | z
    · exact tr.new hp hb
    · exact (a3 b hb).2.2.2 z
theorem SqAt.less {c : Cs} {H : Hp} {q : Addr} {x y : List Addr} {G : Gh} {f : Fm} {s : Kgi2.St} {t : Nat} {dd : Nat → Nat → Prop} (a : SqAt c H q G f s t x dd) (hy : ∀ b ∈ y, b ∈ x) : SqAt c H q G f s t y dd := by
  obtain ⟨b, kvs, ta, h⟩ := a
  exact ⟨⟨b.rd, b.qu, fun z hz => b.hx z (hy z hz), fun z hz => b.ax z (hy z hz), b.sq, b.sd, b.sc, b.sp⟩, kvs, ta, h.dic, h.nd, h.ks, fun k v y e1 e2 e3 => by
    obtain ⟨a1, a2, a3⟩ := h.live k v y e1 e2 e3
    exact ⟨a1, a2, fun b hb => ⟨(a3 b hb).1, (a3 b hb).2.1, (a3 b hb).2.2.1, fun z => (a3 b hb).2.2.2 (hy _ z)⟩⟩, h.dj⟩
end Py
namespace Py
open PySem PySem.Spec PyProof.Rows L2
open Kgi1 (cells)
open Kgi2 (at_ has unit)
open Sq (Wf Rt sub nU mask masks plT Le)
abbrev sTrial : Stmt := top 47
abbrev sTrialOf : Stmt := top 48
def spTrialOf (c : Cs) : Sp := fun vs H Q _ => ∃ (q : Addr) (G : Gh) (f : Fm) (s : Kgi2.St) (t : Nat) (x : List Addr) (k v : Nat), vs = [.ref q, nI k, nI v] ∧ SqAt c H q G f s t x Sq.no2 ∧ Sq.Cl f s ∧ has s k v = true ∧
  ∀ (T : TAd) (ts : Sq.TS) (H' : Hp), Ko x H H' → Run c H' q G f s t x k v T ts → Sq.TrI f (s.set k (2 ^ v)) ts Sq.no1 Sq.no1 Sq.no2 → Q (.ref T.p) H'
def spF (c : Cs) (i : Nat) (fn : Fm → Kgi2.St → Option (Kgi2.Told × Kgi2.St)) : Sp := fun vs H Q _ => ∃ (q : Addr) (G : Gh) (f : Fm) (s : Kgi2.St) (x : List Addr), vs = [.ref q] ∧ SqAt c H q G f s i x Sq.no2 ∧ Kgi2.broken f s = false ∧
  (fn f s = none → ∀ H', Ko x H H' → SqAt c H' q G f s i x Sq.no2 → Q .non H') ∧
  (∀ r, fn f s = some r → ∀ p pl ot nu l dd H', Ko x H H' → SqAt c H' q G f s i x dd → (∀ k v, dd k v → has r.2 k v = false) → StAt c H' p (i + 1) pl ot nu l → Sq.Stp f s (i + 1) pl ot nu l r → Q (.ref p) H')
theorem spF_of {c : Cs} {i : Nat} {fn : Fm → Kgi2.St → Option (Kgi2.Told × Kgi2.St)} : ∀ vs H Q E, spF c i fn vs H Q E → spFind c (i + 1) fn vs H Q E := fun vs H Q E ⟨q, G, f, s, x, e, a, _, no, yes⟩ =>
  ⟨q, G, f, s, i, e, a.1.rd, fun z H' m => no z H' (Ko.same m) (a.same m), fun r z p pl ot nu l H' m st sp => yes r z p pl ot nu l Sq.no2 H' (Ko.same m) (a.same m) (fun _ _ z => z.elim) st sp⟩
section
variable {P : Program} {w : World} {K : PySem.W.Frag} {mg : Str → Option Value} {base : Heap} {c : Cs}
theorem scTrialOf : FnScope ["square", "k", "v", "trial"] ["square", "k", "v"] (defScope sTrialOf) := ⟨rfl, rfl, rfl, by decide +kernel, rfl, by decide +kernel, by decide +kernel⟩
theorem ok_trialOf {f : Addr} {fd : FuncData} (F : Fun K "trial_of" "trial_of" sTrialOf f fd) (T0 : Txt K c) (GT : CF P w K mg base 5 c.T "Trial" ["self", "frame", "board", "k", "v"] (spTrial0 c)) (MFo : MF P w K mg base 5 c.T "follow" ["self", "board"] (spFollow c)) :
    FnOk P w K mg base CX0 7 f fd ["square", "k", "v"] (spTrialOf c) := by
  refine F.ok scTrialOf (fun vs H Q E h => ?_) (fun cdv A outer s H vs Q E hr h => ?_)
  · obtain ⟨q, G, fr, st, t, x, k, v, rfl, _⟩ := h; rfl
  · obtain ⟨q, G, fr, st, t, x, k, v, rfl, at0, cl, hv, fin⟩ := h
    have hu := hu_of hr
    refine ⟨_, pss_cons (ps_set (i := 3) scTrialOf.nd rfl (Or.inl rfl) (pe_dget1 hu (pe_fld (pv 0) rfl) (pe_tup (pa_cons (pv 1) (pa_cons (pv 2) pa_nil))) ⟨rfl, rfl, rfl, rfl⟩))
      (pss_cons (ps_if (pt_cmpR op_isN (pv 3) pe_non (nomark _))
        (pss_cons (ps_set (i := 3) scTrialOf.nd rfl (Or.inl rfl) (pe_makeG GT hr rfl (pa_cons (pe_fld (pv 0) rfl) (pa_cons (pe_fld (pv 0) rfl) (pa_cons (pv 1) (pa_cons (pv 2) pa_nil))))))
        (pss_one (ps_dput hu (pe_fld (pv 0) rfl) (pe_tup (pa_cons (pv 1) (pa_cons (pv 2) pa_nil))) (pv 3) rfl)))
        (pss_one (ps_expr (pe_methG (pv 3) T0.clT MFo hr (pa_cons (pe_fld (pv 0) rfl) pa_nil)))))
      (pss_one (ps_ret (pv 3)))), ?_⟩
    obtain ⟨b, kvs, ta, h⟩ := at0
    have R := b.rd.rt
    have wf := b.rd.wf
    have hk := wf.lt hv
    have hv9 := wf.bit k v hv
    have hhi := R.hi
    have h81 := cells81 hhi
    refine ⟨_, rfl, q, c.S, _, _, _, rfl, b.rd.ob, T0.clS, T0.sTrials, fsS_trials _ _ _ _, G.d, rfl, .inr ⟨kvs, Rd.of h.dic⟩, _, rfl, _, rfl, (by show 2 ≤ sizeLine; decide), fun tp htp => ⟨_, DGet.t (k := ky k v) (same_new htp _ _ h.dic) upd_same, ?_⟩⟩
    have m1 : Same H (upd H tp (.tup [nI k, nI v])) := same_new htp
    have b1 := b.same m1
    have h1 := h.same m1
    generalize upd H tp (.tup [nI k, nI v]) = H1 at m1 b1 h1 ⊢
    cases ev : valV kvs (ky k v) with
    | none =>
      refine ⟨_, rfl, rfl, _, rfl, ?_⟩
      refine iteT (B := _) ?_
      refine ⟨_, rfl, q, c.S, _, _, _, rfl, b1.rd.ob, T0.clS, T0.sFrame, fsS_frame _ _ _ _, _, rfl, q, c.S, _, _, _, rfl, b1.rd.ob, T0.clS, T0.sBoard, fsS_board _ _ _ _, _, rfl, _, rfl, ?_⟩
      intro p dx np ndp nep
      have mm : Same H1 (upd (upd H1 dx (.own p)) p (.ins c.T dx [])) := fun a o e => by rw [upd_ne (ne_of_none e np), upd_ne (ne_of_none e ndp)]; exact e
      refine ⟨p, dx, G.A.p, G.B, fr, st, k, v, rfl, upd_same, b1.rd.bd.same mm, R, wf, hk, by omega, fun T H2 eT tr2 new2 nw2 => ⟨rfl, ?_⟩⟩
      have m2 : Same H1 H2 := fun a o e => nw2 a o (mm _ _ e) (ne_of_none e np)
      have new1 : ∀ a ∈ T.mu, H1 a = none := fun a ha => mm.free (new2 a ha)
      have b2 := b1.same m2
      have h2 := h1.same m2
      refine ⟨_, rfl, _, rfl, q, c.S, _, _, _, rfl, b2.rd.ob, T0.clS, T0.sTrials, fsS_trials _ _ _ _, _, rfl, _, rfl, (by show 2 ≤ sizeLine; decide), fun tq htq => ⟨G.d, _, rfl, DPut.t (k := ky k v) (same_new htq _ _ h2.dic) upd_same h2.len, ?_⟩⟩
      have m3 : Same H2 (upd H2 tq (.tup [nI k, nI v])) := same_new htq
      have b3 := b2.same m3
      have h3 := h2.same m3
      have tr3 := tr2.same m3
      generalize upd H2 tq (.tup [nI k, nI v]) = H3 at m3 b3 h3 tr3 ⊢
      have ap : ApT G x T := fun a ha => by
        have e := new1 a ha
        refine ⟨?_, Ne.symm (ne_of_none b1.rd.bd.cl e), Ne.symm (ne_of_none b1.rd.bd.pl e), fun z => ?_⟩
        · cases z : G.S a with
          | none => rfl
          | some o => rw [b1.rd.sub _ _ z] at e; cases e
        · obtain ⟨xs, ex⟩ := b1.hx a z
          rw [e] at ex; cases ex
      have run := SqAt.fresh b3 h3 ev (by omega) (by omega) tr3 ap fun a ha k' v' y e1 e2 z => by
        obtain ⟨_, ⟨u, tr', _⟩, _⟩ := h1.live k' v' y e1 e2 id
        exact tr'.new (new1 a ha) z
      subst eT
      refine ⟨_, rfl, fin T _ _ ?_ run (Sq.TrI.start R wf cl hv)⟩
      exact (Ko.same ((m1.trans m2).trans m3)).trans (Ko.put h3.dic (out_dT (SqAt.dx ⟨b3, kvs, ta, h3⟩)))
    | some y =>
      obtain ⟨ey, u, s1, run, w1, le, hv1, g⟩ := SqAt.run b1 h1 ev hv
      subst ey
      refine ⟨_, rfl, rfl, _, rfl, ?_⟩
      refine iteF (A := _) ?_
      refine ⟨_, rfl, _, _, _, rfl, run.tr.ob, fsT_follow _ _ _, _, rfl, q, c.S, _, _, _, rfl, b1.rd.ob, T0.clS, T0.sBoard, fsS_board _ _ _ _, ta k v, G.A.p, G.B, fr, (u, []), st, rfl, run.tr, R, ⟨g.wf, by simpa using Sq.card_le g.wf⟩, b1.rd.bd, wf, fun z => (run.ap _ z).2.1 rfl, fun H2 k2 tr2 => ?_⟩
      refine ⟨_, rfl, fin _ _ H2 ?_ (run.kp k2 tr2) (Sq.TrI.follow R w1 wf g hv1 hv le)⟩
      exact (Ko.same m1).trans (Ko.kp k2 fun a ha z => (run.ap _ z).2.2.2 ha)
theorem scTrial : FnScope ["square", "k", "numbers", "v"] ["square"] (defScope sTrial) := ⟨rfl, rfl, rfl, by decide +kernel, rfl, by decide +kernel, by decide +kernel⟩
theorem ok_trial {f : Addr} {fd : FuncData} (F : Fun K "first_trial" "first_trial" sTrial f fd) (T0 : Txt K c) (GI : GF P w K mg base 1 "is_single" ["bits"] spSingle) (GM : GF P w K mg base 2 "members" ["bits"] spMembers) (GT : GF P w K mg base 7 "trial_of" ["square", "k", "v"] (spTrialOf c))
    (ME : MF P w K mg base 7 c.T "ends_broken" ["self"] (spEnds c)) (GP : CF P w K mg base 1 c.P "Step" ["self", "kind", "place", "other", "numbers", "strikes"] (spStep0 c)) (cK : CI mg "TRIAL" 6) (ne : mg "enumerate" = none) : FnOk P w K mg base CX0 8 f fd ["square"] (spF c 5 Kgi2.trial) := by
  refine F.ok scTrial (fun vs H Q E h => ?_) (fun cdv A outer s H vs Q E hr h => ?_)
  · obtain ⟨q, G, fr, st, x, rfl, _⟩ := h; rfl
  · obtain ⟨q, G, fr, st, x, rfl, at0, hb, no, yes⟩ := h
    refine ⟨_, pss_cons (ps_for PassesOwn.never rfl (pi_enum rfl ne (pa_cons (pe_fld (pe_fld (pv 0) rfl) rfl) pa_nil)) (pg_tup rfl (pgs_cons (pg_name (i := 1) scTrial.nd rfl (Or.inl rfl)) (pgs_cons (pg_name (i := 2) scTrial.nd rfl (Or.inl rfl)) pgs_nil)))
        (pss_one (ps_if (pt_not (pt_val (pe_callG GI hr rfl (pa_cons (pv 2) pa_nil))))
          (pss_one (ps_for PassesOwn.never rfl (pi_list (pe_callG GM hr rfl (pa_cons (pv 2) pa_nil))) (pg_name (i := 3) scTrial.nd rfl (Or.inl rfl))
            (pss_one (ps_if (pt_val (pe_methG0 (pe_callG GT hr rfl (pa_cons (pv 0) (pa_cons (pv 1) (pa_cons (pv 3) pa_nil)))) T0.clT ME hr))
              (pss_one (ps_ret (pe_makeG GP hr rfl (pa_cons (pe_num cK rfl) (pa_cons (pv 1) (pa_cons (pe_nat 0) (pa_cons (pe_op on_shl (pe_nat 1) (pv 3)) (pa_cons (pe_lst (pa_cons (pe_tup (pa_cons (pv 1) (pa_cons (pe_op on_shl (pe_nat 1) (pv 3)) pa_nil))) pa_nil)) pa_nil)))))))) pss_nil)))) pss_nil)))
      (pss_one (ps_ret pe_non)), ?_⟩
    have R := at0.1.rd.rt
    have wf := at0.1.rd.wf
    have hhi := R.hi
    have cl : Sq.Cl fr st := Sq.closed_of R wf hb (Sq.Quiet.easy fun i g hi e => at0.1.qu i g (by omega) e)
    obtain ⟨⟨ob, fr0, sub0, bd, _, _⟩, _⟩ := at0.1
    refine ⟨_, rfl, q, c.S, _, _, _, rfl, ob, T0.clS, T0.sBoard, fsS_board _ _ _ _, _, c.B, _, _, _, rfl, bd.ob, T0.clB, T0.bCells, fsB_cells _ _, _, _, rfl, SqL.of bd.cl, ?_⟩
    refine for_enum (K := K) (a := G.B.cl) (xs := nIs st) (fun i σ H' => (∃ v1 v2 v3, σ = [some (.ref q), v1, v2, v3]) ∧ Ko x H H' ∧ SqAt c H' q G fr st 5 x Sq.no2 ∧ ∀ j, j < i → (Kgi1.numbers fr).findSome? (Kgi2.trialAt fr st j) = none) ⟨⟨_, _, _, rfl⟩, Ko.refl _ _, at0, fun j h => absurd h (Nat.not_lt_zero _)⟩ (fun i σ H' _ ⟨_, _, z, _⟩ => SqL.of z.1.rd.bd.cl) ?_ ?_
    · rintro i y σ H' tt hy ⟨⟨v1, v2, v3, rfl⟩, ko0, at1, none⟩ ht
      obtain ⟨m, hm, rfl⟩ := of_ints hy
      have hi : i < cells fr := by rw [← wf.len]; exact (List.getElem?_eq_some_iff.mp hm).1
      have em : m = at_ st i := by
        rw [at_get wf hi] at hm
        exact (Option.some.inj hm).symm
      subst em
      have mt : Same H' (upd H' tt (.tup [nI i, nI (at_ st i)])) := same_new ht
      have at2 := at1.same mt
      have ko2 := ko0.trans (Ko.same (x := x) mt)
      generalize upd H' tt (.tup [nI i, nI (at_ st i)]) = H1 at mt at2 ko2 ⊢
      refine ⟨_, rfl, _, rfl, _, rfl, iteB (fun cc => ?_) (fun cc => ?_)⟩
      · have hs : Sq.single (at_ st i) = false := by simpa using cc
        refine ⟨_, rfl, _, rfl, cell_lt R wf (k := i) (fun v h => h), fun p hp => ⟨p, rfl, ⟨_, SqL.of upd_same⟩, ?_⟩⟩
        have at3 := at2.more hp (nIs (Sq.bitsOf (at_ st i)))
        refine for_list (K := K) (a := p) (xs := nIs (Sq.bitsOf (at_ st i))) (fun j σ H' => (∃ v3, σ = [some (.ref q), some (nI i), some (nI (at_ st i)), v3]) ∧ Ko x H H' ∧ H' p = some (.lst (nIs (Sq.bitsOf (at_ st i)))) ∧ SqAt c H' q G fr st 5 (p :: x) Sq.no2 ∧ ∀ (l : Nat) v, l < j → (Sq.bitsOf (at_ st i))[l]? = some v → Kgi2.trialAt fr st i v = Option.none)
          ⟨⟨_, rfl⟩, ko2.trans (Ko.same (same_new hp)), upd_same, at3, fun l v h => absurd h (Nat.not_lt_zero _)⟩ (fun j σ H' _ ⟨_, _, z, _⟩ => SqL.of z) ?_ ?_
        · rintro j y σ H4 hy ⟨⟨v3, rfl⟩, ko4, hp4, at4, nj⟩
          obtain ⟨v, hv, rfl⟩ := of_ints hy
          have hvs : has st i v = true := Sq.mem_bitsOf.mp (List.mem_of_getElem? hv)
          have hv1 := wf.bit i v hvs
          refine ⟨_, rfl, _, rfl, _, rfl, q, G, fr, st, 5, p :: x, i, v, rfl, at4, cl, hvs, fun T ts H5 ko5 run ti => ?_⟩
          have koA := ko4.trans (ko5.mono (y := x) fun b hb => List.mem_cons_of_mem _ hb)
          have hp5 := ko5 _ _ hp4 (.inl List.mem_cons_self)
          refine ⟨_, _, _, rfl, run.tr.ob, fsT_ends _ _ _, T, G.S, G.A, fr, _, ts, rfl, run.b.rd.fr, run.b.rd.sub, fun b hb => (run.ap b hb).1, run.tr, R, Sq.set_wf wf hvs, ti, fun H6 k6 brk => ⟨_, rfl, ?_⟩, fun H6 u k6 tr6 g => ⟨_, rfl, ?_⟩⟩
          · refine iteT (B := _) ?_
            have at6 := run.dead k6
            have ko6 := koA.trans ((Ko.kp k6 fun b hb z => (run.ap _ z).2.2.2 hb).mono (y := x) fun b hb => List.mem_cons_of_mem _ hb)
            obtain ⟨r, hr1, hr2⟩ := Sq.trialAt_some wf hi hs hvs brk
            have hfind : Kgi2.trial fr st = some r := Sq.find_range hi (by
              rw [Sq.trial_bits wf]
              exact Sq.find_at hv hr1 fun l z hl hz => nj l z hl hz) none
            refine ⟨_, rfl, _, rfl, 1, _, rfl, rfl, ⟨by decide, by omega⟩, _, rfl, _, rfl, 1, _, rfl, rfl, ⟨by decide, by omega⟩, (by show 2 ≤ sizeLine; decide), fun tq htq => ⟨(by show 1 ≤ sizeLine; decide), fun lq hlq => ?_⟩⟩
            intro y dx ny ndy ney
            refine ⟨y, dx, _, _, _, _, _, rfl, upd_same, rfl, ?_⟩
            have m7 : Same H6 (upd H6 tq (.tup [nI i, nI (1 * 2 ^ v)])) := same_new htq
            have m8 := m7.trans (same_new (o := .lst [V.ref tq]) hlq)
            have m9 := m8.trans (same_made (a := .own y) (b := .ins c.P dx []) (o := .ins c.P dx (fsPV (.int 6) (nI i) (nI 0) (nI (1 * 2 ^ v)) (.ref lq))) ny ndy)
            refine yes r hfind y i 0 (1 * 2 ^ v) [(i, 2 ^ v)] (fun a b => a = i ∧ b = v) _ (ko6.trans (Ko.same m9)) ((at6.same m9).less fun b hb => List.mem_cons_of_mem _ hb) (fun k' v' z => ?_) (StAt.made (kd := 6) (pl := i) (ot := 0) (nu := 1 * 2 ^ v) (as := [tq]) ny ndy upd_same ?_) (by rw [Nat.one_mul]; exact hr2)
            · obtain ⟨rfl, rfl⟩ := z
              rw [Sq.Stp.mk hr2]
              unfold Sq.mk
              rw [Sq.has_def, Sq.at_map _ _ _ hi, Sq.tb_sub]
              have : Sq.lk [(k', 2 ^ v')] k' = 2 ^ v' := by unfold Sq.lk; simp
              rw [this, Sq.tb_pow]; simp
            · refine ⟨?_, trivial⟩
              have : (upd H6 tq (.tup [nI i, nI (1 * 2 ^ v)])) tq = some (.tup [nI i, nI (1 * 2 ^ v)]) := upd_same
              have := same_new (o := .lst [V.ref tq]) hlq _ _ this
              rw [Nat.one_mul] at this ⊢
              exact this
          · refine iteF (A := _) ?_
            have at6 := (run.kp k6 tr6).done hvs g
            have ko6' := Ko.kp (x := p :: x) k6 fun b hb z => (run.ap _ z).2.2.2 hb
            refine ⟨⟨_, rfl⟩, koA.trans (ko6'.mono fun b hb => List.mem_cons_of_mem _ hb), ko6' _ _ hp5 (.inl List.mem_cons_self), at6, fun l z hl hz => ?_⟩
            by_cases e : l = j
            · rw [e, hv] at hz
              cases hz
              exact Sq.trialAt_keeps (g.keeps R (Sq.set_wf wf hvs))
            · exact nj l z (by omega) hz
        · rintro σ H4 ⟨⟨v3, rfl⟩, ko4, hp4, at4, nj⟩
          refine ⟨⟨_, _, _, rfl⟩, ko4, at4.less fun b hb => List.mem_cons_of_mem _ hb, fun j hj => ?_⟩
          by_cases e : j = i
          · rw [e, Sq.trial_bits wf]
            refine Sq.find_no fun l v hv => nj l v ?_ hv
            rw [ints_len]; exact (List.getElem?_eq_some_iff.mp hv).1
          · exact none j (by omega)
      · have hs : Sq.single (at_ st i) = true := by simpa using cc
        refine ⟨⟨_, _, _, rfl⟩, ko2, at2, fun j hj => ?_⟩
        by_cases e : j = i
        · rw [e]; exact Sq.find_numbers_no fun v _ => Sq.trialAt_single wf hs
        · exact none j (by omega)
    · rintro σ H' ⟨⟨v1, v2, v3, rfl⟩, ko1, at1, none⟩
      exact no (Sq.find_range_no fun j hj => none j (by rw [ints_len, wf.len]; exact hj)) H' ko1 at1
end
end Py
namespace Py
open PySem PySem.Spec PyProof.Rows L2
open Kgi1 (cells)
open Kgi2 (at_ has unit)
open Sq (Wf Rt sub nU mask masks plT Le)
abbrev sSquare0 : Stmt := inClass (top 59) 0
abbrev sRead : Stmt := inClass (top 59) 1
abbrev sStep : Stmt := inClass (top 59) 2
abbrev sCell : Stmt := inClass (top 59) 3
abbrev sSolve : Stmt := inClass (top 59) 4
abbrev sFirstStep : Stmt := inClass (top 59) 5
abbrev sMake : Stmt := inClass (top 59) 6
abbrev sEnd : Stmt := inClass (top 59) 7
abbrev sKind : Stmt := top 60
theorem fsS_fst (a b d : V) (t : Nat) : (fsS a b d t).lookup ("first_step" : Str) = none := by rfl
theorem fsS_make (a b d : V) (t : Nat) : (fsS a b d t).lookup ("make" : Str) = none := by rfl
theorem fsS_end (a b d : V) (t : Nat) : (fsS a b d t).lookup ("end" : Str) = none := by rfl
theorem fsS_read (a b d : V) (t : Nat) : (fsS a b d t).lookup ("read" : Str) = none := by rfl
theorem fsS_step (a b d : V) (t : Nat) : (fsS a b d t).lookup ("step" : Str) = none := by rfl
theorem fsS_cell (a b d : V) (t : Nat) : (fsS a b d t).lookup ("cell" : Str) = none := by rfl
theorem fsS_solve (a b d : V) (t : Nat) : (fsS a b d t).lookup ("solve" : Str) = none := by rfl
theorem fsS_putq (a b d : V) (t t' : Nat) : putF "quiet" (nI t') (fsS a b d t) = fsS a b d t' := by rfl
def FinT (K : PySem.W.Frag) (mg : Str → Option Value) (fs : List Addr) : Prop := ∃ fa, mg "FINDERS" = some (.ref fa) ∧ ∀ H, SqT K H fa (fs.map V.ref)
theorem sq_put0 {c : Cs} {H : Hp} {q : Addr} {x : List Addr} {G : Gh} {f : Fm} {s : Kgi2.St} {t t' : Nat} {dd : Nat → Nat → Prop} (rd : SqRd c H q G f s t) (hx : ∀ a ∈ x, ∃ xs, H a = some (.lst xs)) (ax : ∀ a ∈ x, G.S a = none ∧ a ≠ G.B.cl ∧ a ≠ G.B.pl) (sq : G.S q = none) (sd : G.S G.d = none) (sc : G.S G.B.cl = none) (sp : G.S G.B.pl = none) {kvs : List (List Key × V)} {ta : Nat → Nat → TAd} (h : Trs c H G f s x dd kvs ta) (qu : Sq.Quiet f s t') : SqAt c (upd H q (.ins c.S G.dx (fsS (.ref G.A.p) (.ref G.B.p) (.ref G.d) t'))) q G f s t' x dd ∧ Ko x H (upd H q (.ins c.S G.dx (fsS (.ref G.A.p) (.ref G.B.p) (.ref G.d) t'))) := by
  have qx : q ∉ x := fun z => by
    obtain ⟨xs, e⟩ := hx q z
    rw [rd.ob] at e; cases e
  have kk : ∀ {y o}, H y = some o → (∀ C dx a b d t, o ≠ .ins C dx (fsS a b d t)) → upd H q (.ins c.S G.dx (fsS (.ref G.A.p) (.ref G.B.p) (.ref G.d) t')) y = some o := fun {y o} e1 e2 => by
    have : y ≠ q := fun z => by rw [z, rd.ob] at e1; cases e1; exact e2 _ _ _ _ _ _ rfl
    rw [upd_ne this]; exact e1
  have nS : ∀ {C dx C' dx' : Addr} {fs : List (Str × V)}, fs.length ≠ 4 → ∀ C1 dx1 a b d t, HO.ins C dx fs ≠ .ins C1 dx1 (fsS a b d t) := fun hl C1 dx1 a b d t z => by
    injection z with _ _ z
    exact hl (by rw [z]; rfl)
  have bb : ∀ {B : Bd} {s : Kgi2.St}, BdAt c H B f s → BdAt c (upd H q (.ins c.S G.dx (fsS (.ref G.A.p) (.ref G.B.p) (.ref G.d) t'))) B f s := fun b => ⟨kk b.ob (nS (C' := 0) (dx' := 0) (by show ¬ (2 = 4); decide)), kk b.cl (fun _ _ _ _ _ _ z => by cases z), kk b.pl (fun _ _ _ _ _ _ z => by cases z), b.ne⟩
  have tk : ∀ {T' : TAd} {ts : Sq.TS}, TrAt c H T' G.A.p f ts → TrAt c (upd H q (.ins c.S G.dx (fsS (.ref G.A.p) (.ref G.B.p) (.ref G.d) t'))) T' G.A.p f ts := fun a => by
    obtain ⟨as, h1, h2⟩ := a.nw
    exact ⟨kk a.ob (nS (C' := 0) (dx' := 0) (by show ¬ (3 = 4); decide)), bb a.bd, ⟨as, kk h1 (fun _ _ _ _ _ _ z => by cases z), Ats.imp (fun _ _ e => kk e (fun _ _ _ _ _ _ z => by cases z)) h2⟩, a.n1, a.n2⟩
  refine ⟨⟨⟨⟨upd_same, rd.fr, fun a o e1 => ?_, bb rd.bd, rd.rt, rd.wf⟩, qu, fun a ha => (hx a ha).imp fun xs e => kk e (fun _ _ _ _ _ _ z => by cases z), ax, sq, sd, sc, sp⟩, kvs, ta, kk h.dic (fun _ _ _ _ _ _ z => by cases z), h.nd, h.ks, fun k v y e1 e2 e3 => ?_, h.dj⟩, Ko.put rd.ob (out_sq qx)⟩
  · have : a ≠ q := fun z => by rw [z, sq] at e1; cases e1
    rw [upd_ne this]; exact rd.sub _ _ e1
  · obtain ⟨a1, ⟨u, a2, a3⟩, a4⟩ := h.live k v y e1 e2 e3
    exact ⟨a1, ⟨u, tk a2, a3⟩, a4⟩
theorem sq_put {c : Cs} {H : Hp} {q : Addr} {x : List Addr} {G : Gh} {f : Fm} {s : Kgi2.St} {t t' : Nat} {dd : Nat → Nat → Prop} (a : SqAt c H q G f s t x dd) (qu : Sq.Quiet f s t') : SqAt c (upd H q (.ins c.S G.dx (fsS (.ref G.A.p) (.ref G.B.p) (.ref G.d) t'))) q G f s t' x dd ∧ Ko x H (upd H q (.ins c.S G.dx (fsS (.ref G.A.p) (.ref G.B.p) (.ref G.d) t'))) := by
  obtain ⟨b, kvs, ta, h⟩ := a
  exact sq_put0 b.rd b.hx b.ax b.sq b.sd b.sc b.sp h qu
theorem sq_struck {c : Cs} {H H1 : Hp} {q : Addr} {x : List Addr} {G : Gh} {f : Fm} {s s' : Kgi2.St} {t : Nat} {dd : Nat → Nat → Prop} (a : SqAt c H q G f s t x dd) (k : Kp [G.B.cl, G.B.pl] H H1) (bd : BdAt c H1 G.B f s') (wf : Wf f s') (le : Le s' s) (hd : ∀ k v, dd k v → has s' k v = false) :
    SqAt c (upd H1 q (.ins c.S G.dx (fsS (.ref G.A.p) (.ref G.B.p) (.ref G.d) 0))) q G f s' 0 x Sq.no2 ∧ Ko x H (upd H1 q (.ins c.S G.dx (fsS (.ref G.A.p) (.ref G.B.p) (.ref G.d) 0))) := by
  obtain ⟨b, kvs, ta, h⟩ := a
  have hxm : ∀ y ∈ x, y ∉ [G.B.cl, G.B.pl] := fun y hy z => by
    simp at z
    rcases z with z | z
    · exact (b.ax y hy).2.1 z
    · exact (b.ax y hy).2.2 z
  have ob1 : H1 q = some (.ins c.S G.dx (fsS (.ref G.A.p) (.ref G.B.p) (.ref G.d) t)) := k.oth _ _ b.rd.ob (fun _ z => by cases z)
  have m : ∀ {k' v'}, has s' k' v' = true → has s k' v' = true ∧ ¬ dd k' v' := fun {k' v'} e => ⟨le _ _ e, fun z => by rw [hd _ _ z] at e; cases e⟩
  have tr : Trs c H1 G f s' x Sq.no2 kvs ta := by
    refine ⟨k.oth _ _ h.dic (fun _ z => by cases z), h.nd, h.ks, fun k' v' y e1 e2 e3 => ?_, fun k1 v1 k2 v2 y1 y2 e1 e2 n1 e3 e4 n2 => h.dj k1 v1 k2 v2 y1 y2 e1 (m e2).1 (m e2).2 e3 (m e4).1 (m e4).2⟩
    obtain ⟨a1, ⟨u, a2, s1, w1, l1, g1⟩, a4⟩ := h.live k' v' y e1 (m e2).1 (m e2).2
    exact ⟨a1, ⟨u, a2.kp k (fun b hb z => by
      simp at z
      rcases z with z | z
      · exact (a4 b hb).2.1 z
      · exact (a4 b hb).2.2.1 z), s1, w1, le.trans l1, g1⟩, a4⟩
  have a1 := sq_put0 (t' := 0) (x := x) ⟨ob1, b.rd.fr, k.sub b.rd.sub (by intro y hy; simp at hy; rcases hy with rfl | rfl; exact b.sc; exact b.sp), bd, b.rd.rt, wf⟩ (fun y hy => (b.hx y hy).imp fun xs e => k.lst _ _ e (hxm y hy)) b.ax b.sq b.sd b.sc b.sp tr (fun i g hi => absurd hi (Nat.not_lt_zero _))
  exact ⟨a1.1, (Ko.kp k hxm).trans a1.2⟩
end Py
namespace Py
open PySem PySem.Spec PyProof.Rows L2
open Kgi1 (cells)
open Kgi2 (at_ has unit)
open Sq (Wf Rt sub nU mask masks plT Le)
def spKind : Sp := fun vs H Q _ => ∃ h : Nat, vs = [nI h] ∧ Q (.bl (decide (1 ≤ h ∧ h ≤ 6))) H
def spFirstStep (c : Cs) : Sp := fun vs H Q _ => ∃ (q : Addr) (G : Gh) (f : Fm) (s : Kgi2.St) (t h : Nat) (x : List Addr), vs = [.ref q, nI h] ∧ SqAt c H q G f s t x Sq.no2 ∧ t ≤ 6 ∧ Kgi2.broken f s = false ∧ h ≤ 6 ∧
  (Kgi2.first f h s = none → ∀ t' H', t' ≤ 6 → Ko x H H' → SqAt c H' q G f s t' x Sq.no2 → Q .non H') ∧
  (∀ r, Kgi2.first f h s = some r → ∀ i t' p pl ot nu l dd H', t' ≤ 6 → Ko x H H' → SqAt c H' q G f s t' x dd → (∀ k v, dd k v → has r.2 k v = false) → StAt c H' p i pl ot nu l → Sq.Stp f s i pl ot nu l r → Q (.ref p) H')
def spMake (c : Cs) : Sp := fun vs H Q _ => ∃ (q : Addr) (G : Gh) (f : Fm) (s : Kgi2.St) (t : Nat) (x : List Addr) (dd : Nat → Nat → Prop) (p i pl ot nu : Nat) (l : List (Nat × Nat)) (r : Kgi2.Told × Kgi2.St), vs = [.ref q, .ref p] ∧ SqAt c H q G f s t x dd ∧ (∀ k v, dd k v → has r.2 k v = false) ∧ StAt c H p i pl ot nu l ∧ Sq.Stp f s i pl ot nu l r ∧
  (∀ H', Ko x H H' → SqAt c H' q G f r.2 0 x Sq.no2 → StAt c H' p i pl ot nu l → Q .non H')
def spEnd (c : Cs) : Sp := fun vs H Q _ => ∃ (q : Addr) (G : Gh) (f : Fm) (s : Kgi2.St) (t : Nat), vs = [.ref q] ∧ SqRd c H q G f s t ∧ ∀ H', Same H H' → Q (nI (Kgi2.how f s)) H'
theorem mk_wf {f : Fm} {s : Kgi2.St} (w : Wf f s) (l : List (Nat × Nat)) : Wf f (Sq.mk f s l) := by
  have len : (Sq.mk f s l).length = cells f := by unfold Sq.mk; simp
  refine ⟨len, fun k v h => w.bit k v ?_⟩
  have hk : k < cells f := Classical.byContradiction fun c => by
    rw [Sq.has_def, Sq.at_out (by rw [len]; omega), Nat.zero_testBit] at h; cases h
  rw [Sq.has_def] at h ⊢
  unfold Sq.mk at h
  rw [Sq.at_map _ _ _ hk, Sq.tb_sub, Bool.and_eq_true] at h
  exact h.1
theorem sub_and (a b : Nat) : sub a (a &&& b) = sub a b := by
  unfold sub
  rw [← Nat.and_assoc, Nat.and_self]
section
variable {P : Program} {w : World} {K : PySem.W.Frag} {mg : Str → Option Value} {base : Heap} {c : Cs}
theorem scKind : FnScope ["hardest"] ["hardest"] (defScope sKind) := ⟨rfl, rfl, rfl, by decide +kernel, rfl, by decide +kernel, by decide +kernel⟩
theorem ok_kind {f : Addr} {fd : FuncData} (F : Fun K "is_kind" "is_kind" sKind f fd) {fs : List Addr} (FT : FinT K mg fs) (f6 : fs.length = 6) (nl : mg "len" = none) : FnOk P w K mg base CX0 1 f fd ["hardest"] spKind := by
  obtain ⟨fa, hfa, hT⟩ := FT
  refine F.ok scKind (fun vs H Q E h => ?_) (fun cdv A outer s H vs Q E hr h => ?_)
  · obtain ⟨h, rfl, _⟩ := h; rfl
  · obtain ⟨h, rfl, q⟩ := h
    refine ⟨_, pss_one (ps_ret (pe_chain on_le on_le (pe_nat 1) (pv 0) (pe_callB (call_lenB K) (by rfl) nl PySem.boot_len (pa_cons (pe_glob (v := .ref fa) rfl hfa rfl) pa_nil)))), ?_⟩
    refine ⟨_, rfl, 1, h, rfl, rfl, _, rfl, iteB (fun c1 => ⟨fa, _, rfl, .inr (hT H), h, 6, rfl, ?_, ?_⟩) (fun c1 => ?_)⟩
    · rw [List.length_map, f6]
    · have c1 := of_decide_eq_true c1
      have e : decide (1 ≤ h ∧ h ≤ 6) = decide (h ≤ 6) := decide_eq_decide.mpr ⟨fun z => z.2, fun z => ⟨c1, z⟩⟩
      rw [← e]; exact q
    · have c1 := of_decide_eq_false c1
      have e : decide (1 ≤ h ∧ h ≤ 6) = false := decide_eq_false fun z => c1 z.1
      rw [← e]; exact q
theorem scFirstStep : FnScope ["self", "hardest", "kind", "find", "step"] ["self", "hardest"] (defScope sFirstStep) := ⟨rfl, rfl, rfl, by decide +kernel, rfl, by decide +kernel, by decide +kernel⟩
theorem ok_firstStep {f : Addr} {fd : FuncData} (F : Fun K "first_step" "Square.first_step" sFirstStep f fd) (T : Txt K c) {fs : List Addr} (FT : FinT K mg fs) (f6 : fs.length = 6) (hf : ∀ i a, fs[i]? = some a → ∃ fn, Kgi2.kinds[i]? = some fn ∧ VF P w K mg base 8 ["square"] a (spF c i fn)) (nr : mg "range" = none) :
    FnOk P w K mg base CX0 9 f fd ["self", "hardest"] (spFirstStep c) := by
  obtain ⟨fa, hfa, hT⟩ := FT
  refine F.ok scFirstStep (fun vs H Q E h => ?_) (fun cdv A outer s H vs Q E hr h => ?_)
  · obtain ⟨q, G, fr, st, t, h, x, rfl, _⟩ := h; rfl
  · obtain ⟨q, G, fr, st, t, h, x, rfl, at0, ht, hb, hh, no, yes⟩ := h
    refine ⟨_, pss_cons (ps_for PassesOwn.never rfl (pi_range2 rfl nr (pa_cons (pe_op on_add (pe_fld (pv 0) rfl) (pe_nat 1)) (pa_cons (pe_op on_add (pv 1) (pe_nat 1)) pa_nil))) (pg_name (i := 2) scFirstStep.nd rfl (Or.inl rfl))
        (pss_cons (ps_set (i := 3) scFirstStep.nd rfl (Or.inl rfl) (pe_ix ix_tup (pe_glob (v := .ref fa) rfl hfa rfl) (pe_op on_sub (pv 2) (pe_nat 1)) (fun _ _ => rfl)))
        (pss_cons (ps_set (i := 4) scFirstStep.nd rfl (Or.inl rfl) (pe_callV (ps := ["square"]) (pv 3) hr (pa_cons (pv 0) pa_nil)))
        (pss_cons (ps_if (pt_cmpR op_notN (pv 4) pe_non (nomark _)) (pss_one (ps_ret (pv 4))) pss_nil)
        (pss_one (ps_fld (pv 0) (pv 2) rfl))))))
      (pss_one (ps_ret pe_non)), ?_⟩
    refine ⟨_, rfl, q, c.S, _, _, _, rfl, at0.1.rd.ob, T.clS, T.sQuiet, fsS_quiet _ _ _ _, t, 1, rfl, rfl, _, rfl, h, 1, rfl, rfl, _, _, rfl, ⟨by omega, by omega, by omega, by omega⟩, ?_⟩
    have en : (((h + 1 : Nat) : Int) - ((t + 1 : Nat) : Int)).toNat = h - t := by omega
    rw [en]
    refine for_range (fun i σ H' => (∃ v2 v3 v4, σ = [some (.ref q), some (nI h), v2, v3, v4]) ∧ Ko x H H' ∧ SqAt c H' q G fr st (t + i) x Sq.no2) ⟨⟨_, _, _, rfl⟩, Ko.refl _ _, at0⟩ ?_ ?_
    · rintro i σ H1 hi ⟨⟨v2, v3, v4, rfl⟩, ko1, at1⟩
      have ej : V.int (((t + 1 : Nat) : Int) + (i : Int)) = nI (t + i + 1) := by congr 1; omega
      rw [ej]
      obtain ⟨a, ha⟩ : ∃ a, fs[t + i]? = some a := ⟨_, List.getElem?_eq_getElem (by omega)⟩
      obtain ⟨fn, hfn, vf⟩ := hf _ _ ha
      refine ⟨_, rfl, t + i + 1, 1, rfl, rfl, by omega, fa, _, _, _, rfl, rfl, hT H1, ?_, a, _, rfl, vf, _, rfl, q, G, fr, st, x, rfl, at1, hb, fun e H2 ko2 at2 => ?_, fun r e p pl ot nu l dd H2 ko2 at2 hd sa sp => ?_⟩
      · show atI (fs.map V.ref) ((t + i + 1 - 1 : Nat) : Int) = some (V.ref a)
        rw [Nat.add_sub_cancel]
        exact atI_nat (by rw [List.getElem?_map, ha]; rfl)
      · refine ⟨_, rfl, rfl, _, rfl, ?_⟩
        refine iteF (A := _) ?_
        obtain ⟨at3, ko3⟩ := sq_put at2 (Sq.Quiet.next at2.1.qu hfn e)
        refine ⟨_, rfl, _, rfl, q, c.S, _, _, rfl, at2.1.rd.ob, T.clS, T.sQuiet, (by show 4 < 1000; decide), ⟨_, _, _, rfl⟩, ?_⟩
        rw [fsS_putq]
        exact ⟨(ko1.trans ko2).trans ko3, at3⟩
      · refine ⟨_, rfl, rfl, _, rfl, ?_⟩
        refine iteT (B := _) ?_
        exact ⟨_, rfl, yes r (Sq.first_found at1.1.qu (by omega) hfn e) _ _ p pl ot nu l dd H2 (by omega) (ko1.trans ko2) at2 hd sa sp⟩
    · rintro σ H1 ⟨⟨v2, v3, v4, rfl⟩, ko1, at1⟩
      exact no (Sq.first_quiet fun i g hi e => at1.1.qu i g (by omega) e) _ H1 (by omega) ko1 at1
theorem scMake : FnScope ["self", "step", "k", "numbers"] ["self", "step"] (defScope sMake) := ⟨rfl, rfl, rfl, by decide +kernel, rfl, by decide +kernel, by decide +kernel⟩
theorem ok_make {f : Addr} {fd : FuncData} (F : Fun K "make" "Square.make" sMake f fd) (T : Txt K c) (MS : MF P w K mg base 3 c.B "strike" ["self", "k", "numbers"] (spStrike c)) : FnOk P w K mg base CX0 4 f fd ["self", "step"] (spMake c) := by
  refine F.ok scMake (fun vs H Q E h => ?_) (fun cdv A outer s H vs Q E hr h => ?_)
  · obtain ⟨q, G, fr, st, t, x, dd, p, i, pl, ot, nu, l, r, rfl, _⟩ := h; rfl
  · obtain ⟨q, G, fr, st, t, x, dd, p, i, pl, ot, nu, l, r, rfl, at0, hd, ⟨dx, sl, as, hp, hsl, tu⟩, sp, fin⟩ := h
    refine ⟨_, pss_cons (ps_for PassesOwn.never rfl (pi_list (pe_fld (pv 1) rfl)) (pg_tup rfl (pgs_cons (pg_name (i := 2) scMake.nd rfl (Or.inl rfl)) (pgs_cons (pg_name (i := 3) scMake.nd rfl (Or.inl rfl)) pgs_nil)))
        (pss_one (ps_expr (pe_methG (pe_fld (pv 0) rfl) T.clB MS hr (pa_cons (pv 2) (pa_cons (pv 3) pa_nil))))))
      (pss_one (ps_fld (pv 0) (pe_nat 0) rfl)), ?_⟩
    have R := at0.1.rd.rt
    have wf := at0.1.rd.wf
    have bd := at0.1.rd.bd
    have ob := at0.1.rd.ob
    have ne : l ≠ [] := sp.choose_spec.2.2
    have nas : as ≠ [] := fun e => ne ((tups_nil tu).mp e)
    have nsl : ∀ {b : Addr} {m : List Nat}, H b = some (.lst (nIs m)) → sl ≠ b := fun {b m} e z => by
      rw [z, e] at hsl
      cases as with
      | nil => exact nas rfl
      | cons a as =>
        cases m with
        | nil => cases hsl
        | cons b m => injection hsl with h1; injection h1 with h1; injection h1 with h1 _; cases h1
    have hm : sl ∉ [G.B.cl, G.B.pl] := fun z => by
      simp at z
      rcases z with z | z
      · exact nsl bd.cl z
      · exact nsl bd.pl z
    obtain ⟨kn, kc⟩ := sp.keys
    refine ⟨_, rfl, p, c.P, _, _, _, rfl, hp, T.clP, T.pStrikes, fsP_strikes _ _ _ _ _, sl, rfl, ⟨_, SqL.of hsl⟩, ?_⟩
    refine for_pairs (K := K) (a := sl) (as := as) (l := l) (fun i σ H' => (∃ v2 v3, σ = [some (.ref q), some (.ref p), v2, v3]) ∧ Kp [G.B.cl, G.B.pl] H H' ∧ BdAt c H' G.B fr (Sq.mk fr st (l.take i))) ⟨⟨_, _, rfl⟩, Kp.refl _ _, by rw [List.take_zero, Sq.mk_nil wf]; exact bd⟩ (fun i σ H' _ ⟨_, k, _⟩ => ⟨SqL.of (k.lst _ _ hsl hm), tu.kp k⟩) tu.len ?_ ?_
    · rintro j k y σ H1 hj ⟨⟨v2, v3, rfl⟩, k1, b1⟩
      have hkl := (kc _ (List.mem_of_getElem? hj)).1
      have ob1 := k1.oth _ _ ob (fun _ z => by cases z)
      refine ⟨_, rfl, q, c.S, _, _, _, rfl, ob1, T.clS, T.sBoard, fsS_board _ _ _ _, _, _, _, rfl, b1.ob, fsB_strike _ _, _, rfl, _, rfl, G.B, fr, _, k, ((y : Nat) : Int), rfl, b1, R, mk_wf wf _, hkl, fun H2 k2 b2 => ⟨⟨_, _, rfl⟩, k1.trans k2, ?_⟩⟩
      rw [Sq.take_snoc hj, ← Sq.mk_snoc hkl (Sq.keys_take kn hj)]
      rw [andZ_nat, sub_and] at b2
      exact b2
    · rintro σ H1 ⟨⟨v2, v3, rfl⟩, k1, b1⟩
      rw [List.take_length, ← sp.mk] at b1
      obtain ⟨w1, le1, _⟩ := sp.wf wf
      obtain ⟨at2, ko2⟩ := sq_struck at0 k1 b1 w1 le1 hd
      refine ⟨_, rfl, q, c.S, _, _, rfl, k1.oth _ _ ob (fun _ z => by cases z), T.clS, T.sQuiet, (by show 4 < 1000; decide), ?_⟩
      rw [fsS_putq]
      have hne : ∀ {b o}, H1 b = some o → (∀ C dx a b d t, o ≠ .ins C dx (fsS a b d t)) → b ≠ q := fun {b o} e1 e2 z => by
        rw [z, k1.oth _ _ ob (fun _ z => by cases z)] at e1; cases e1; exact e2 _ _ _ _ _ _ rfl
      have hp1 := k1.oth _ _ hp (fun _ z => by cases z)
      have hsl1 := k1.lst _ _ hsl hm
      refine fin _ ko2 at2 ⟨dx, sl, as, ?_, ?_, Ats.imp (fun a y e => ?_) (tu.kp k1)⟩
      · rw [upd_ne (hne hp1 fun C1 dx1 a b d t z => by injection z with _ _ z; exact absurd (congrArg List.length z) (by show ¬ (5 = 4); decide))]; exact hp1
      · rw [upd_ne (hne hsl1 fun _ _ _ _ _ _ z => by cases z)]; exact hsl1
      · rw [upd_ne (hne e fun _ _ _ _ _ _ z => by cases z)]; exact e
theorem scEnd : FnScope ["self", "numbers"] ["self"] (defScope sEnd) := ⟨rfl, rfl, rfl, by decide +kernel, rfl, by decide +kernel, by decide +kernel⟩
theorem ok_end {f : Addr} {fd : FuncData} (F : Fun K "end" "Square.end" sEnd f fd) (T : Txt K c) (GB : GF P w K mg base 1 "is_broken" ["frame", "board"] (spBroken c)) (GI : GF P w K mg base 1 "is_single" ["bits"] spSingle) (na : mg "all" = none) (c0 : CI mg "END_OPEN" 0) (c1 : CI mg "END_FILLED" 1) (c2 : CI mg "END_BROKEN" 2) :
    FnOk P w K mg base CX0 2 f fd ["self"] (spEnd c) := by
  refine F.ok scEnd (fun vs H Q E h => ?_) (fun cdv A outer s H vs Q E hr h => ?_)
  · obtain ⟨q, G, fr, st, t, rfl, _⟩ := h; rfl
  · obtain ⟨q, G, fr, st, t, rfl, rd, fin⟩ := h
    refine ⟨_, pss_cons (ps_if (pt_val (pe_callG GB hr rfl (pa_cons (pe_fld (pv 0) rfl) (pa_cons (pe_fld (pv 0) rfl) pa_nil)))) (pss_one (ps_ret (pe_num c2 rfl))) pss_nil)
      (pss_cons (ps_if (pt_val (pe_callB (cr_all rfl) (by rfl) na PyProof.Rows.boot_all (pa_cons (pe_lc (own := [("numbers", 1)]) rfl scEnd.nd (pi_list (pe_fld (pe_fld (pv 0) rfl) rfl)) (blkOk_by (N := ["self", "numbers"]) (sc := defScope sEnd) (by decide +kernel))
        (fun _ _ _ _ _ => pg_name (i := 1) scEnd.nd rfl (Or.inl rfl)) (fun _ _ _ _ _ => pts_nil) (fun _ _ _ _ _ => pe_callG GI hr rfl (pa_cons (pv 1) pa_nil))) pa_nil))) (pss_one (ps_ret (pe_num c1 rfl))) pss_nil)
      (pss_one (ps_ret (pe_num c0 rfl)))), ?_⟩
    have R := rd.rt
    have wf := rd.wf
    have hhi := R.hi
    have h81 := cells81 hhi
    refine ⟨_, rfl, q, c.S, _, _, _, rfl, rd.ob, T.clS, T.sFrame, fsS_frame _ _ _ _, _, rfl, q, c.S, _, _, _, rfl, rd.ob, T.clS, T.sBoard, fsS_board _ _ _ _, G.S, G.A, G.B, fr, st, rfl, rd.fr, rd.sub, rd.bd, R, wf, _, rfl, iteB (fun cc => ?_) (fun cc => ?_)⟩
    · have : Kgi2.how fr st = 2 := by unfold Kgi2.how; rw [if_pos cc]
      have := fin H (Same.refl H)
      rw [‹Kgi2.how fr st = 2›] at this; exact this
    · refine ⟨_, rfl, q, c.S, _, _, _, rfl, rd.ob, T.clS, T.sBoard, fsS_board _ _ _ _, _, c.B, _, _, _, rfl, rd.bd.ob, T.clB, T.bCells, fsB_cells _ _, G.B.cl, rfl, ⟨_, SqL.of rd.bd.cl⟩, fun D hD => ?_⟩
      refine lc_list (K := K) (a := G.B.cl) (xs := nIs st) (fun i H' => Same H H' ∧ H' D = some (.lst (((st.take i).map Sq.single).map V.bl))) ⟨same_new hD, upd_same⟩ (fun i H' _ ⟨s1, _⟩ => SqL.of (s1 _ _ rd.bd.cl)) ?_ ?_
      · rintro i y H' hy ⟨s1, hD'⟩
        obtain ⟨m, hm, rfl⟩ := of_ints hy
        refine ⟨rfl, _, rfl, m, rfl, _, hD', ?_, fun b o z => ?_, ?_⟩
        · rw [List.length_map, List.length_map]
          have : (st.take i).length ≤ st.length := by simp; omega
          rw [wf.len] at this
          exact small1000 (by omega)
        · rw [upd_ne (ne_of_none z hD)]; exact s1 _ _ z
        · rw [upd_same, Sq.take_snoc hm, List.map_append, List.map_append]; rfl
      · rintro H' ⟨s1, hD'⟩
        refine ⟨D, _, rfl, SqL.of hD', _, rfl, ?_⟩
        have e : ((st.take (nIs st).length).map Sq.single).all id = Kgi2.filledIn fr st := by
          rw [ints_len, List.take_length, List.all_map]
          unfold Kgi2.filledIn
          rw [Bool.eq_iff_iff, List.all_eq_true, List.all_eq_true]
          constructor
          · intro h k hk
            have hk := List.mem_range.mp hk
            rw [beq_iff_eq, wf.single]
            have := at_get wf hk
            exact h _ (List.mem_of_getElem? this)
          · intro h m hm
            obtain ⟨k, hk, rfl⟩ := List.getElem_of_mem hm
            have hk' : k < cells fr := by rw [← wf.len]; exact hk
            have := h k (List.mem_range.mpr hk')
            rw [beq_iff_eq, wf.single, Sq.at_lt hk] at this
            exact this
        rw [e]
        refine iteB (fun cd => ?_) (fun cd => ?_)
        · have : Kgi2.how fr st = 1 := by unfold Kgi2.how; rw [cc, cd]; rfl
          have := fin H' s1
          rw [‹Kgi2.how fr st = 1›] at this; exact this
        · have : Kgi2.how fr st = 0 := by unfold Kgi2.how; rw [cc, cd]; rfl
          have := fin H' s1
          rw [‹Kgi2.how fr st = 0›] at this; exact this
end
end Py
namespace Py
open PySem PySem.Spec PyProof.Rows L2
open Kgi1 (cells)
open Kgi2 (at_ has unit)
open Sq (Wf Rt sub nU mask masks plT Le)
def SqS (c : Cs) (H : Hp) (q : Addr) (x : List Addr) : Sq.NS → Prop
  | none => (∃ dx d, H q = some (.ins c.S dx (fsS .non .non (.ref d) 0))) ∧ ∀ a ∈ x, ∃ xs, H a = some (.lst xs)
  | some a => ∃ G t, t ≤ 6 ∧ SqAt c H q G a.f a.s t x Sq.no2
theorem SqS.same {c : Cs} {H H' : Hp} {q : Addr} {x : List Addr} {σ : Sq.NS} (a : SqS c H q x σ) (m : Same H H') : SqS c H' q x σ := by
  cases σ with
  | none =>
    obtain ⟨⟨dx, d, e⟩, h⟩ := a
    exact ⟨⟨dx, d, m _ _ e⟩, fun b hb => (h b hb).imp fun xs e => m _ _ e⟩
  | some ab =>
    obtain ⟨G, t, h1, h2⟩ := a
    exact ⟨G, t, h1, h2.same m⟩
theorem SqS.hx {c : Cs} {H : Hp} {q : Addr} {x : List Addr} {σ : Sq.NS} (a : SqS c H q x σ) : ∀ b ∈ x, ∃ xs, H b = some (.lst xs) := by
  cases σ with
  | none => exact a.2
  | some ab =>
    obtain ⟨G, t, h1, h2⟩ := a
    exact h2.1.hx
theorem SqS.new {c : Cs} {H : Hp} {q : Addr} {x : List Addr} {σ : Sq.NS} (a : SqS c H q x σ) {p : Addr} (h : H p = none) : p ∉ x := fun z => by
  obtain ⟨xs, e⟩ := a.hx p z
  rw [h] at e; cases e
theorem SqS.ob {c : Cs} {H : Hp} {q : Addr} {x : List Addr} {σ : Sq.NS} (a : SqS c H q x σ) : ∃ dx v1 v2 v3 t, H q = some (.ins c.S dx (fsS v1 v2 v3 t)) := by
  cases σ with
  | none =>
    obtain ⟨⟨dx, d, e⟩, h⟩ := a
    exact ⟨_, _, _, _, _, e⟩
  | some ab =>
    obtain ⟨G, t, h1, h2⟩ := a
    exact ⟨_, _, _, _, _, h2.1.rd.ob⟩
def Ans (c : Cs) (q : Addr) (x : List Addr) (H : Hp) (Q : VK) (r : Sq.NS × List Int) : Prop := ∀ p H', Ko x H H' → SqS c H' q x r.1 → p ∉ x → H' p = some (.lst (r.2.map V.int)) → Q (.ref p) H'
theorem Ans.ret {c : Cs} {q : Addr} {x : List Addr} {H H1 : Hp} {Q : VK} {σ : Sq.NS} {l : List Int} (a : Ans c q x H Q (σ, l)) (ko : Ko x H H1) (s : SqS c H1 q x σ) (p : Addr) (hp : H1 p = none) : Q (.ref p) (upd H1 p (.lst (l.map V.int))) :=
  a p _ (ko.trans (Ko.same (same_new hp))) (s.same (same_new hp)) (s.new hp) upd_same
def spMeth (c : Cs) (n : Int) : Sp := fun vs H Q _ => ∃ (q : Addr) (x : List Addr) (a : Kgi2.Abs) (h : Nat), vs = [.ref q, nI h] ∧ h < 2 ^ 32 ∧ SqS c H q x (some a) ∧ Ans c q x H Q (Kgi2Neutral.step (some a) [[n, (h : Int)]])
theorem map_ints (l : List Nat) : (Kgi2Neutral.ints l).map V.int = nIs l := by
  unfold Kgi2Neutral.ints nIs
  rw [List.map_map]; rfl
section
variable {P : Program} {w : World} {K : PySem.W.Frag} {mg : Str → Option Value} {base : Heap} {c : Cs}
theorem scCell : FnScope ["self", "k"] ["self", "k"] (defScope sCell) := ⟨rfl, rfl, rfl, by decide +kernel, rfl, by decide +kernel, by decide +kernel⟩
theorem ok_cell {f : Addr} {fd : FuncData} (F : Fun K "cell" "Square.cell" sCell f fd) (T : Txt K c) (nl : mg "len" = none) (c2 : CI mg "NO_CELL" (-2)) : FnOk P w K mg base CX0 1 f fd ["self", "k"] (spMeth c 2) := by
  refine F.ok scCell (fun vs H Q E h => ?_) (fun cdv A outer s H vs Q E hr h => ?_)
  · obtain ⟨q, x, a, h, rfl, _⟩ := h; rfl
  · obtain ⟨q, x, a, k, rfl, hh, sa, fin⟩ := h
    have st := sa
    obtain ⟨G, t, ht, at0⟩ := sa
    obtain ⟨⟨⟨ob, fr0, sub0, bd, R, wf⟩, _⟩, _⟩ := at0
    refine ⟨_, pss_cons (ps_if (pt_cmpR on_ge (pv 1) (pe_callB (call_lenB K) (by rfl) nl PySem.boot_len (pa_cons (pe_fld (pe_fld (pv 0) rfl) rfl) pa_nil)) (nomark _)) (pss_one (ps_ret (pe_lst (pa_cons (pe_num c2 rfl) pa_nil)))) pss_nil)
      (pss_one (ps_ret (pe_lst (pa_cons (pe_ix ix_list (pe_fld (pe_fld (pv 0) rfl) rfl) (pv 1) (fun _ _ => rfl)) pa_nil)))), ?_⟩
    rw [Sq.step_cell, Int.toNat_natCast] at fin
    refine ⟨_, rfl, _, rfl, q, c.S, _, _, _, rfl, ob, T.clS, T.sBoard, fsS_board _ _ _ _, _, c.B, _, _, _, rfl, bd.ob, T.clB, T.bCells, fsB_cells _ _, G.B.cl, _, rfl, .inl (SqL.of bd.cl), k, cells a.f, rfl, ?_, _, rfl, iteB (fun cc => ?_) (fun cc => ?_)⟩
    · rw [ints_len, wf.len]
    · rw [if_pos (of_decide_eq_true cc)] at fin
      exact ⟨(by show 1 ≤ sizeLine; decide), fun p hp => fin.ret (Ko.refl _ _) st p hp⟩
    · have hk : ¬ cells a.f ≤ k := of_decide_eq_false cc
      rw [if_neg hk] at fin
      refine ⟨_, rfl, q, c.S, _, _, _, rfl, ob, T.clS, T.sBoard, fsS_board _ _ _ _, _, c.B, _, _, _, rfl, bd.ob, T.clB, T.bCells, fsB_cells _ _, _, rfl, G.B.cl, _, _, _, rfl, rfl, SqL.of bd.cl, ints_at (at_get wf (by omega)), (by show 1 ≤ sizeLine; decide), fun p hp => fin.ret (Ko.refl _ _) st p hp⟩
theorem scStep : FnScope ["self", "hardest", "step"] ["self", "hardest"] (defScope sStep) := ⟨rfl, rfl, rfl, by decide +kernel, rfl, by decide +kernel, by decide +kernel⟩
theorem ok_step {f : Addr} {fd : FuncData} (F : Fun K "step" "Square.step" sStep f fd) (T : Txt K c) (GK : GF P w K mg base 1 "is_kind" ["hardest"] spKind) (GB : GF P w K mg base 1 "is_broken" ["frame", "board"] (spBroken c)) (MFs : MF P w K mg base 9 c.S "first_step" ["self", "hardest"] (spFirstStep c))
    (MM : MF P w K mg base 4 c.S "make" ["self", "step"] (spMake c)) (GT : GF P w K mg base 1 "told" ["step"] (spTold c)) (cW : CI mg "WRONG_NUMBER" (-22)) (cB : CI mg "BROKEN" (-33)) : FnOk P w K mg base CX0 10 f fd ["self", "hardest"] (spMeth c 1) := by
  refine F.ok scStep (fun vs H Q E h => ?_) (fun cdv A outer s H vs Q E hr h => ?_)
  · obtain ⟨q, x, a, h, rfl, _⟩ := h; rfl
  · obtain ⟨q, x, a, h, rfl, hh, sa, fin⟩ := h
    have st := sa
    obtain ⟨G, t, ht, at0⟩ := sa
    obtain ⟨⟨rd, _⟩, _⟩ := id at0
    refine ⟨_, pss_cons (ps_if (pt_not (pt_val (pe_callG GK hr rfl (pa_cons (pv 1) pa_nil)))) (pss_one (ps_ret (pe_lst (pa_cons (pe_num cW rfl) pa_nil)))) pss_nil)
      (pss_cons (ps_if (pt_val (pe_callG GB hr rfl (pa_cons (pe_fld (pv 0) rfl) (pa_cons (pe_fld (pv 0) rfl) pa_nil)))) (pss_one (ps_ret (pe_lst (pa_cons (pe_num cB rfl) pa_nil)))) pss_nil)
      (pss_cons (ps_set (i := 2) scStep.nd rfl (Or.inl rfl) (pe_methG (pv 0) T.clS MFs hr (pa_cons (pv 1) pa_nil)))
      (pss_cons (ps_if (pt_cmpR op_isN (pv 2) pe_non (nomark _)) (pss_one (ps_ret (pe_lst (pa_cons (pe_nat 0) pa_nil)))) pss_nil)
      (pss_cons (ps_expr (pe_methG (pv 0) T.clS MM hr (pa_cons (pv 2) pa_nil)))
      (pss_one (ps_ret (pe_op op_cat (pe_lst (pa_cons (pe_nat 1) pa_nil)) (pe_callG GT hr rfl (pa_cons (pv 2) pa_nil))))))))), ?_⟩
    rw [Sq.step_step, Int.toNat_natCast] at fin
    refine ⟨_, rfl, h, rfl, _, rfl, iteB (fun cc => ?_) (fun cc => ?_)⟩
    · rw [if_pos (by simp at cc; omega)] at fin
      exact ⟨(by show 1 ≤ sizeLine; decide), fun p hp => fin.ret (Ko.refl _ _) st p hp⟩
    have h16 : 1 ≤ h ∧ h ≤ 6 := by simpa using cc
    rw [if_neg (by omega)] at fin
    refine ⟨_, rfl, q, c.S, _, _, _, rfl, rd.ob, T.clS, T.sFrame, fsS_frame _ _ _ _, _, rfl, q, c.S, _, _, _, rfl, rd.ob, T.clS, T.sBoard, fsS_board _ _ _ _, G.S, G.A, G.B, a.f, a.s, rfl, rd.fr, rd.sub, rd.bd, rd.rt, rd.wf, _, rfl, iteB (fun cb => ?_) (fun cb => ?_)⟩
    · rw [if_pos cb] at fin
      exact ⟨(by show 1 ≤ sizeLine; decide), fun p hp => fin.ret (Ko.refl _ _) st p hp⟩
    rw [if_neg (by rw [cb]; decide)] at fin
    refine ⟨_, rfl, _, _, _, rfl, rd.ob, fsS_fst _ _ _ _, _, rfl, q, G, a.f, a.s, t, h, x, rfl, at0, ht, cb, h16.2, fun e t' H1 ht' ko1 at1 => ?_, fun r e i t' p pl ot nu l dd H1 ht' ko1 at1 hd sta sp => ?_⟩
    · rw [e] at fin
      refine ⟨_, rfl, rfl, _, rfl, ?_⟩
      refine iteT (B := _) ?_
      exact ⟨(by show 1 ≤ sizeLine; decide), fun p hp => fin.ret ko1 ⟨G, t', ht', at1⟩ p hp⟩
    · rw [e] at fin
      refine ⟨_, rfl, rfl, _, rfl, ?_⟩
      refine iteF (A := _) ?_
      refine ⟨_, rfl, _, _, _, rfl, at1.1.rd.ob, fsS_make _ _ _ _, _, rfl, q, G, a.f, a.s, t', x, dd, p, i, pl, ot, nu, l, r, rfl, at1, hd, sta, sp, fun H2 ko2 at2 st2 => ?_⟩
      have k81 := cells81 rd.rt.hi
      refine ⟨(by show 1 ≤ sizeLine; decide), fun l1 hl1 => ⟨_, rfl, p, i, pl, ot, nu, l, rfl, st2.same (same_new hl1), sp.keys.1, fun y hy => Nat.lt_of_lt_of_le (sp.keys.2 y hy).1 k81, fun l2 H3 s3 hl2 e3 => ?_⟩⟩
      have s2 : Same H2 (upd H2 l1 (.lst [nI 1])) := same_new hl1
      have e1 : H3 l1 = some (.lst [nI 1]) := s3 _ _ upd_same
      rw [← sp.flat] at e3
      refine ⟨l1, l2, _, _, rfl, rfl, e1, e3, ?_, fun p hp => ?_⟩
      · rw [ints_len, Sq.flat_len]; show 1 + 85 ≤ sizeLine; decide
      · have : ([nI 1] ++ nIs (Kgi2.flat r.1)) = ((1 :: Kgi2Neutral.ints (Kgi2.flat r.1)) : List Int).map V.int := by rw [List.map_cons, map_ints]; rfl
        rw [this]
        have fin : Ans c q x H Q (some ⟨a.f, r.2⟩, 1 :: Kgi2Neutral.ints (Kgi2.flat r.1)) := fin
        exact fin.ret ((ko1.trans ko2).trans (Ko.same (s2.trans s3))) ⟨G, 0, by decide, at2.same (s2.trans s3)⟩ p hp
theorem scSolve : FnScope ["self", "hardest", "made", "greatest_kind", "step"] ["self", "hardest"] (defScope sSolve) := ⟨rfl, rfl, rfl, by decide +kernel, rfl, by decide +kernel, by decide +kernel⟩
theorem max_nat (g k : Nat) : V.int (if (k : Int) > (g : Int) then (k : Int) else (g : Int)) = nI (max g k) := by
  by_cases h : g < k
  · rw [if_pos (by omega), Nat.max_eq_right (by omega)]
  · rw [if_neg (by omega), Nat.max_eq_left (by omega)]
theorem ok_solve {f : Addr} {fd : FuncData} (F : Fun K "solve" "Square.solve" sSolve f fd) (T : Txt K c) (GK : GF P w K mg base 1 "is_kind" ["hardest"] spKind) (GB : GF P w K mg base 1 "is_broken" ["frame", "board"] (spBroken c)) (MFs : MF P w K mg base 9 c.S "first_step" ["self", "hardest"] (spFirstStep c))
    (MM : MF P w K mg base 4 c.S "make" ["self", "step"] (spMake c)) (ME : MF P w K mg base 2 c.S "end" ["self"] (spEnd c)) (cW : CI mg "WRONG_NUMBER" (-22)) (nm : mg "max" = none) : FnOk P w K mg base CX0 10 f fd ["self", "hardest"] (spMeth c 3) := by
  refine F.ok scSolve (fun vs H Q E h => ?_) (fun cdv A outer s H vs Q E hr h => ?_)
  · obtain ⟨q, x, a, h, rfl, _⟩ := h; rfl
  · obtain ⟨q, x, a, h, rfl, hh, sa, fin⟩ := h
    have st := sa
    obtain ⟨G, t, ht, at0⟩ := sa
    refine ⟨_, pss_cons (ps_if (pt_not (pt_val (pe_callG GK hr rfl (pa_cons (pv 1) pa_nil)))) (pss_one (ps_ret (pe_lst (pa_cons (pe_num cW rfl) pa_nil)))) pss_nil)
      (pss_cons (ps_set (i := 2) scSolve.nd rfl (Or.inl rfl) (pe_nat 0))
      (pss_cons (ps_set (i := 3) scSolve.nd rfl (Or.inl rfl) (pe_nat 0))
      (pss_cons (ps_while PassesOwn.never (pt_not (pt_val (pe_callG GB hr rfl (pa_cons (pe_fld (pv 0) rfl) (pa_cons (pe_fld (pv 0) rfl) pa_nil)))))
        (pss_cons (ps_set (i := 4) scSolve.nd rfl (Or.inl rfl) (pe_methG (pv 0) T.clS MFs hr (pa_cons (pv 1) pa_nil)))
        (pss_cons (ps_if (pt_cmpR op_isN (pv 4) pe_non (nomark _)) (pss_one ps_break) pss_nil)
        (pss_cons (ps_expr (pe_methG (pv 0) T.clS MM hr (pa_cons (pv 4) pa_nil)))
        (pss_cons (ps_aug (i := 2) scSolve.nd rfl (Or.inl rfl) (pe_nat 1) in_addN)
        (pss_one (ps_set (i := 3) scSolve.nd rfl (Or.inl rfl) (pe_callB (call_max2 rfl) (by rfl) nm PyProof.Rows.boot_max (pa_cons (pv 3) (pa_cons (pe_fld (pv 4) rfl) pa_nil)))))))))) 
      (pss_one (ps_ret (pe_lst (pa_cons (pv 2) (pa_cons (pv 3) (pa_cons (pe_methG0 (pv 0) T.clS ME hr) pa_nil))))))))), ?_⟩
    rw [Sq.step_solve, Int.toNat_natCast] at fin
    refine ⟨_, rfl, h, rfl, _, rfl, iteB (fun cc => ?_) (fun cc => ?_)⟩
    · rw [if_pos (by simp at cc; omega)] at fin
      exact ⟨(by show 1 ≤ sizeLine; decide), fun p hp => fin.ret (Ko.refl _ _) st p hp⟩
    have h16 : 1 ≤ h ∧ h ≤ 6 := by simpa using cc
    rw [if_neg (by omega)] at fin
    refine ⟨fun m σ H' => ∃ s1 t1 made g v4, σ = [some (.ref q), some (nI h), some (nI made), some (nI g), v4] ∧ m = Sq.card s1 ∧ t1 ≤ 6 ∧ Ko x H H' ∧ SqAt c H' q G a.f s1 t1 x Sq.no2 ∧ Sq.Onw a.f h a.s made g s1, ⟨_, a.s, t, 0, 0, none, rfl, rfl, ht, Ko.refl _ _, at0, Sq.Onw.start at0.1.rd.wf⟩, ?_⟩
    rintro m σ H1 ⟨s1, t1, made, g, v4, rfl, rfl, ht1, ko1, at1, on⟩
    obtain ⟨⟨rd, _⟩, _⟩ := id at1
    refine ⟨_, rfl, q, c.S, _, _, _, rfl, rd.ob, T.clS, T.sFrame, fsS_frame _ _ _ _, _, rfl, q, c.S, _, _, _, rfl, rd.ob, T.clS, T.sBoard, fsS_board _ _ _ _, G.S, G.A, G.B, a.f, s1, rfl, rd.fr, rd.sub, rd.bd, rd.rt, rd.wf, _, rfl, iteB (fun cb => ?_) (fun cb => ?_)⟩
    · have hb : Kgi2.broken a.f s1 = false := by simpa using cb
      refine ⟨fun σ' H' => ∃ s2 t1 made g v4, σ' = [some (.ref q), some (nI h), some (nI made), some (nI g), v4] ∧ Sq.card s2 < Sq.card s1 ∧ t1 ≤ 6 ∧ Ko x H H' ∧ SqAt c H' q G a.f s2 t1 x Sq.no2 ∧ Sq.Onw a.f h a.s made g s2, fun σ' H' ⟨s2, t2, m2, g2, v4, z1, z2, z3⟩ => ⟨_, z2, s2, t2, m2, g2, v4, z1, rfl, z3⟩, ?_⟩
      refine ⟨_, rfl, _, _, _, rfl, rd.ob, fsS_fst _ _ _ _, _, rfl, q, G, a.f, s1, t1, h, x, rfl, at1, ht1, hb, h16.2, fun e t' H2 ht' ko2 at2 => ?_, fun r e i t' p pl ot nu l dd H2 ht' ko2 at2 hd sta sp => ?_⟩
      · refine ⟨_, rfl, rfl, _, rfl, ?_⟩
        refine iteT (B := _) ?_
        have en := on.stop (.inr e)
        rw [en] at fin
        obtain ⟨⟨rd2, _⟩, _⟩ := id at2
        refine ⟨_, rfl, _, rfl, _, rfl, _, _, _, rfl, rd2.ob, fsS_end _ _ _ _, q, G, a.f, s1, t', rfl, rd2, fun H3 s3 => ⟨(by show 3 ≤ sizeLine; decide), fun p hp => ?_⟩⟩
        exact fin.ret ((ko1.trans ko2).trans (Ko.same s3)) ⟨G, t', ht', at2.same s3⟩ p hp
      · refine ⟨_, rfl, rfl, _, rfl, ?_⟩
        refine iteF (A := _) ?_
        refine ⟨_, rfl, _, _, _, rfl, at2.1.rd.ob, fsS_make _ _ _ _, _, rfl, q, G, a.f, s1, t', x, dd, p, i, pl, ot, nu, l, r, rfl, at2, hd, sta, sp, fun H3 ko3 at3 st3 => ?_⟩
        obtain ⟨w1, le1, card1, kd1⟩ := sp.wf rd.wf
        obtain ⟨dx, sl, as, hp3, _, _⟩ := st3
        refine ⟨_, rfl, _, 1, rfl, rfl, _, rfl, _, rfl, p, c.P, _, _, _, rfl, hp3, T.clP, T.pKind, fsP_kind _ _ _ _ _, _, _, rfl, ?_⟩
        rw [max_nat, ← kd1]
        exact ⟨r.2, 0, made + 1, max g r.1.kind, _, rfl, card1, by decide, (ko1.trans ko2).trans ko3, at3, on.step hb e card1⟩
    · have hb : Kgi2.broken a.f s1 = true := by simpa using cb
      have en := on.stop (.inl hb)
      rw [en] at fin
      refine ⟨_, rfl, _, rfl, _, rfl, _, _, _, rfl, rd.ob, fsS_end _ _ _ _, q, G, a.f, s1, t1, rfl, rd, fun H3 s3 => ⟨(by show 3 ≤ sizeLine; decide), fun p hp => ?_⟩⟩
      exact fin.ret (ko1.trans (Ko.same s3)) ⟨G, t1, ht1, at1.same s3⟩ p hp
end
end Py
namespace Py
open PySem PySem.Spec PyProof.Rows L2
open Kgi1 (cells)
open Kgi2 (at_ has unit)
open Sq (Wf Rt sub nU mask masks plT Le)
theorem fsS_putf (a b d v : V) (t : Nat) : putF "frame" v (fsS a b d t) = fsS v b d t := by rfl
theorem fsS_putb (a b d v : V) (t : Nat) : putF "board" v (fsS a b d t) = fsS a v d t := by rfl
theorem fsS_putd (a b d v : V) (t : Nat) : putF "trials" v (fsS a b d t) = fsS a b v t := by rfl
def spSq0 (c : Cs) : Sp := fun vs H Q _ => ∃ (q dx : Addr), vs = [.ref q] ∧ H q = some (.ins c.S dx []) ∧ ∀ d H', H' q = some (.ins c.S dx (fsS .non .non (.ref d) 0)) → Nw q H H' → Q .non H'
def spRead (c : Cs) : Sp := fun vs H Q _ => ∃ (q : Addr) (x : List Addr) (σ : Sq.NS) (f : Fm) (rg rt dn gv : Addr), vs = [.ref q, nI f.n, .ref rg, .ref rt, .ref dn, .ref gv] ∧ H rg = some (.lst (nIs f.region)) ∧ H rt = some (.lst (nIs f.right)) ∧ H dn = some (.lst (nIs f.down)) ∧ H gv = some (.lst (nIs f.given)) ∧
  (2 ≤ f.n ∧ f.n ≤ 9 → Sq.Lens f) ∧ SqS c H q x σ ∧ Ans c q x H Q (if Kgi1.reads f = 0 then (some ⟨f, Kgi2.start f⟩, [0]) else (σ, [Kgi1.reads f]))
section
variable {P : Program} {w : World} {K : PySem.W.Frag} {mg : Str → Option Value} {base : Heap} {c : Cs}
theorem scSquare0 : FnScope ["self"] ["self"] (defScope sSquare0) := ⟨rfl, rfl, rfl, by decide +kernel, rfl, by decide +kernel, by decide +kernel⟩
theorem ok_square0 {f : Addr} {fd : FuncData} (F : Fun K "__init__" "Square.__init__" sSquare0 f fd) (T : Txt K c) : FnOk P w K mg base CX0 1 f fd ["self"] (spSq0 c) := by
  refine F.ok scSquare0 (fun vs H Q E h => ?_) (fun cdv A outer s H vs Q E hr h => ?_)
  · obtain ⟨q, dx, rfl, _⟩ := h; rfl
  · obtain ⟨q, dx, rfl, hq, fin⟩ := h
    refine ⟨_, pss_cons (ps_fld (pv 0) pe_non rfl) (pss_cons (ps_fld (pv 0) pe_non rfl) (pss_cons (ps_fld (pv 0) pe_dnewT rfl) (pss_one (ps_fld (pv 0) (pe_nat 0) rfl)))), ?_⟩
    refine ⟨_, rfl, q, c.S, dx, _, rfl, hq, T.clS, T.sFrame, (by show 0 < 1000; decide), _, rfl, q, c.S, dx, _, rfl, upd_same, T.clS, T.sBoard, (by show 1 < 1000; decide), fun d hd => ?_⟩
    rw [upd_upd] at hd ⊢
    have hqd : q ≠ d := fun z => by rw [← z, upd_same] at hd; cases hd
    have hd0 : H d = none := by rw [upd_ne (Ne.symm hqd)] at hd; exact hd
    refine ⟨_, rfl, q, c.S, dx, _, rfl, (by rw [upd_ne hqd]; exact upd_same), T.clS, T.sTrials, (by show 2 < 1000; decide), _, rfl, q, c.S, dx, _, rfl, upd_same, T.clS, T.sQuiet, (by show 3 < 1000; decide), ?_⟩
    refine fin d _ upd_same fun b o e n => ?_
    rw [upd_ne n, upd_ne n, upd_ne (ne_of_none e hd0), upd_ne n]; exact e
theorem scRead : FnScope ["self", "n", "regions", "right", "down", "given", "refused"] ["self", "n", "regions", "right", "down", "given"] (defScope sRead) := ⟨rfl, rfl, rfl, by decide +kernel, rfl, by decide +kernel, by decide +kernel⟩
theorem ok_read {f : Addr} {fd : FuncData} (F : Fun K "read" "Square.read" sRead f fd) (T : Txt K c) (GR : GF P w K mg base 2 "refusal" ["n", "regions", "right", "down", "given"] (spRefusal c)) (GFr : CF P w K mg base 4 c.F "Frame" ["self", "n", "regions", "right", "down", "given"] (spFrame0 c))
    (GB : GF P w K mg base 3 "board_at_first" ["frame"] (spFirst c)) : FnOk P w K mg base CX0 6 f fd ["self", "n", "regions", "right", "down", "given"] (spRead c) := by
  refine F.ok scRead (fun vs H Q E h => ?_) (fun cdv A outer s H vs Q E hr h => ?_)
  · obtain ⟨q, x, σ, fr, rg, rt, dn, gv, rfl, _⟩ := h; rfl
  · obtain ⟨q, x, σ, fr, rg, rt, dn, gv, rfl, hrg, hrt, hdn, hgv, hL, sa, fin⟩ := h
    refine ⟨_, pss_cons (ps_set (i := 6) scRead.nd rfl (Or.inl rfl) (pe_callG GR hr rfl (pa_cons (pv 1) (pa_cons (pv 2) (pa_cons (pv 3) (pa_cons (pv 4) (pa_cons (pv 5) pa_nil)))))))
      (pss_cons (ps_if (pt_cmpR op_ne (pv 6) pe_int (nomark _)) (pss_one (ps_ret (pe_lst (pa_cons (pv 6) pa_nil)))) pss_nil)
      (pss_cons (ps_fld (pv 0) (pe_makeG GFr hr rfl (pa_cons (pv 1) (pa_cons (pv 2) (pa_cons (pv 3) (pa_cons (pv 4) (pa_cons (pv 5) pa_nil)))))) rfl)
      (pss_cons (ps_fld (pv 0) (pe_callG GB hr rfl (pa_cons (pe_fld (pv 0) rfl) pa_nil)) rfl)
      (pss_cons (ps_fld (pv 0) pe_dnewT rfl)
      (pss_cons (ps_fld (pv 0) (pe_nat 0) rfl)
      (pss_one (ps_ret (pe_lst (pa_cons (pe_nat 0) pa_nil))))))))), ?_⟩
    refine ⟨_, rfl, _, rfl, _, rfl, _, rfl, _, rfl, fr, rg, rt, dn, gv, rfl, hrg, hrt, hdn, hgv, hL, fun H1 s1 => ⟨_, rfl, rfl, _, rfl, iteB (fun cc => ?_) (fun cc => ?_)⟩⟩
    · have hne : ¬ Kgi1.reads fr = 0 := by simpa [eqV] using cc
      rw [if_neg hne] at fin
      exact ⟨_, rfl, (by show 1 ≤ sizeLine; decide), fun p hp => fin.ret (Ko.same s1) (sa.same s1) p hp⟩
    have h0 : Kgi1.reads fr = 0 := by simpa [eqV] using cc
    rw [if_pos h0] at fin
    have R := Sq.rt_of h0
    have L := hL ⟨R.lo, R.hi⟩
    have qx : q ∉ x := fun z => by
      obtain ⟨xs, e⟩ := sa.hx q z
      obtain ⟨dx, v1, v2, v3, t, e'⟩ := sa.ob
      rw [e'] at e; cases e
    obtain ⟨dq, v1, v2, v3, t, hq1⟩ := (sa.same s1).ob
    refine ⟨_, rfl, _, rfl, _, rfl, _, rfl, _, rfl, ?_⟩
    intro p dx np ndp nep
    have mm : Same H1 (upd (upd H1 dx (.own p)) p (.ins c.F dx [])) := fun a o e => by rw [upd_ne (ne_of_none e np), upd_ne (ne_of_none e ndp)]; exact e
    have m0 := s1.trans mm
    refine ⟨p, dx, rg, rt, dn, gv, fr, rfl, upd_same, m0 _ _ hrg, m0 _ _ hrt, m0 _ _ hdn, m0 _ _ hgv, R, L, fun A S H2 eA fA sS nS nw => ⟨rfl, ?_⟩⟩
    have m2 : Same H1 H2 := fun a o e => nw a o (mm _ _ e) (ne_of_none e np)
    have nS1 : ∀ b o, S b = some o → H1 b = none := fun b o e => by
      rcases nS b o e with rfl | z
      · exact np
      · exact mm.free z
    clear nS nw
    have Sq0 : S q = none := by
      cases e : S q with
      | none => rfl
      | some o => rw [nS1 _ _ e] at hq1; cases hq1
    have hq2 := m2 _ _ hq1
    refine ⟨_, rfl, q, c.S, dq, _, rfl, hq2, T.clS, T.sFrame, (by show 4 < 1000; decide), ?_⟩
    rw [fsS_putf]
    have sS3 : Same S (upd H2 q (.ins c.S dq (fsS (.ref p) v2 v3 t))) := fun b o e => by
      have : b ≠ q := fun z => by rw [z, Sq0] at e; cases e
      rw [upd_ne this]; exact sS _ _ e
    have n3 : Nw q H2 (upd H2 q (.ins c.S dq (fsS (.ref p) v2 v3 t))) := fun b o e n => by rw [upd_ne n]; exact e
    have q3 : (upd H2 q (.ins c.S dq (fsS (.ref p) v2 v3 t))) q = some (.ins c.S dq (fsS (.ref p) v2 v3 t)) := upd_same
    generalize upd H2 q (.ins c.S dq (fsS (.ref p) v2 v3 t)) = H3 at sS3 n3 q3 ⊢
    refine ⟨_, rfl, q, c.S, dq, _, _, rfl, q3, T.clS, T.sFrame, fsS_frame _ _ _ _, S, A, fr, (by rw [eA]; rfl), fA, sS3, R, L, fun B H4 s4 b4 ncl npl nbp => ?_⟩
    have q4 := s4 _ _ q3
    refine ⟨_, rfl, q, c.S, dq, _, rfl, q4, T.clS, T.sBoard, (by show 4 < 1000; decide), ?_⟩
    rw [fsS_putb]
    have q5 : (upd H4 q (.ins c.S dq (fsS (.ref p) (.ref B.p) v3 t))) q = some (.ins c.S dq (fsS (.ref p) (.ref B.p) v3 t)) := upd_same
    have n5 : Nw q H4 (upd H4 q (.ins c.S dq (fsS (.ref p) (.ref B.p) v3 t))) := fun b o e n => by rw [upd_ne n]; exact e
    generalize upd H4 q (.ins c.S dq (fsS (.ref p) (.ref B.p) v3 t)) = H5 at q5 n5 ⊢
    intro d hd
    have hqd : q ≠ d := ne_of_none q5 hd
    refine ⟨_, rfl, q, c.S, dq, _, rfl, (by rw [upd_ne hqd]; exact q5), T.clS, T.sTrials, (by show 4 < 1000; decide), ?_⟩
    rw [fsS_putd]
    refine ⟨_, rfl, q, c.S, dq, _, rfl, upd_same, T.clS, T.sQuiet, (by show 4 < 1000; decide), ?_⟩
    rw [fsS_putq, upd_upd]
    have n8 : Nw q H5 (upd (upd H5 d (.dT [])) q (.ins c.S dq (fsS (.ref p) (.ref B.p) (.ref d) 0))) := fun b o e n => by rw [upd_ne n, upd_ne (ne_of_none e hd)]; exact e
    have q8 : (upd (upd H5 d (.dT [])) q (.ins c.S dq (fsS (.ref p) (.ref B.p) (.ref d) 0))) q = some (.ins c.S dq (fsS (.ref p) (.ref B.p) (.ref d) 0)) := upd_same
    have d8 : (upd (upd H5 d (.dT [])) q (.ins c.S dq (fsS (.ref p) (.ref B.p) (.ref d) 0))) d = some (.dT []) := by rw [upd_ne (Ne.symm hqd)]; exact upd_same
    generalize upd (upd H5 d (.dT [])) q (.ins c.S dq (fsS (.ref p) (.ref B.p) (.ref d) 0)) = H8 at n8 q8 d8 ⊢
    have n48 : Nw q H4 H8 := n5.trans n8
    have n38 : Nw q H3 H8 := fun b o e n => n48 b o (s4 _ _ e) n
    have n08 : Nw q H H8 := fun b o e n => n38 b o (n3 b o (m2 _ _ (s1 _ _ e)) n) n
    have ko : Ko x H H8 := fun b o e z => n08 b o e fun y => by
      rw [y] at e z
      obtain ⟨_, _, _, _, _, e'⟩ := sa.ob
      rw [e'] at e; cases e
      exact out_sq qx z
    have neq : ∀ {b o}, H4 b = some o → (∀ C dx a b d t, o ≠ .ins C dx (fsS a b d t)) → b ≠ q := fun {b o} e1 e2 z => by
      rw [z, q4] at e1; cases e1; exact e2 _ _ _ _ _ _ rfl
    have free3 : ∀ b, H3 b = none → S b = none := fun b e => by
      cases z : S b with
      | none => rfl
      | some o => rw [sS3 _ _ z] at e; cases e
    have x3 : ∀ b ∈ x, ∃ xs, H3 b = some (.lst xs) := fun b hb => by
      obtain ⟨xs, e⟩ := sa.hx b hb
      exact ⟨xs, n3 b _ (m2 _ _ (s1 _ _ e)) fun z => qx (z ▸ hb)⟩
    refine ⟨(by show 1 ≤ sizeLine; decide), fun r hr0 => fin.ret ko ⟨⟨A, B, S, d, dq⟩, 0, by decide, ⟨⟨by rw [eA]; exact q8, fA, fun b o e => ?_, ⟨?_, ?_, ?_, b4.ne⟩, R, Sq.start_wf R⟩, fun i g hi => absurd hi (Nat.not_lt_zero _), fun b hb => ?_, fun b hb => ⟨?_, ?_, ?_⟩, Sq0, ?_, free3 _ ncl, free3 _ npl⟩, [], fun _ _ => ⟨0, 0, 0, B⟩, d8, List.nodup_nil, fun p hp => by simp at hp, fun k v y e => by simp [valV] at e, fun k v k' v' y y' e => by simp [valV] at e⟩ r hr0⟩
    · have e : S b = some o := e
      exact n38 b o (sS3 _ _ e) fun z => by rw [z, Sq0] at e; cases e
    · exact n48 _ _ b4.ob (neq b4.ob fun C1 dx1 a b d t z => by injection z with _ _ z; exact absurd (congrArg List.length z) (by show ¬ (2 = 4); decide))
    · exact n48 _ _ b4.cl (neq b4.cl fun _ _ _ _ _ _ z => by cases z)
    · exact n48 _ _ b4.pl (neq b4.pl fun _ _ _ _ _ _ z => by cases z)
    · obtain ⟨xs, e⟩ := x3 b hb
      exact ⟨xs, n38 _ _ e fun z => qx (z ▸ hb)⟩
    · obtain ⟨xs, e⟩ := sa.hx b hb
      cases z : S b with
      | none => exact z
      | some o => have := nS1 _ _ z; rw [s1 _ _ e] at this; cases this
    · obtain ⟨xs, e⟩ := x3 b hb
      exact ne_of_none e ncl
    · obtain ⟨xs, e⟩ := x3 b hb
      exact ne_of_none e npl
    · cases z : S d with
      | none => exact z
      | some o =>
        have := n5 _ _ (s4 _ _ (sS3 _ _ z)) (Ne.symm hqd)
        rw [hd] at this; cases this
end
end Py
namespace Py
open PySem PySem.Spec PyProof.Rows L2
open Kgi1 (cells)
open Kgi2 (at_ has unit)
open Sq (Wf Rt sub nU mask masks plT Le)
abbrev sCalls0 : Stmt := inClass (top 61) 0
abbrev sMore : Stmt := inClass (top 61) 1
abbrev sTake : Stmt := inClass (top 61) 2
abbrev sTakeRow : Stmt := inClass (top 61) 3
abbrev sNext : Stmt := top 62
abbrev sAnswers : Stmt := top 63
theorem fsC_numbers (a : V) (n : Nat) : (fsC a n).lookup ("numbers" : Str) = some a := by rfl
theorem fsC_at (a : V) (n : Nat) : (fsC a n).lookup ("at" : Str) = some (nI n) := by rfl
theorem fsC_take (a : V) (n : Nat) : (fsC a n).lookup ("take" : Str) = none := by rfl
theorem fsC_row (a : V) (n : Nat) : (fsC a n).lookup ("take_row" : Str) = none := by rfl
theorem fsC_more (a : V) (n : Nat) : (fsC a n).lookup ("has_more" : Str) = none := by rfl
theorem fsC_put (a : V) (n n' : Nat) : putF "at" (nI n') (fsC a n) = fsC a n' := by rfl
def isC (o : HO) : Prop := ∃ C dx v n, o = .ins C dx (fsC v n)
open Classical in
noncomputable def clean (S : Hp) : Hp := fun b => match S b with
  | none => none
  | some o => if isC o then none else some o
theorem clean_some {S : Hp} {b : Addr} {o : HO} (h : S b = some o) (n : ¬ isC o) : clean S b = some o := by
  unfold clean
  rw [h]
  exact if_neg n
open Classical in
theorem clean_of {S : Hp} {b : Addr} {o : HO} (h : clean S b = some o) : S b = some o ∧ ¬ isC o := by
  unfold clean at h
  cases e : S b with
  | none => rw [e] at h; cases h
  | some u =>
    rw [e] at h
    by_cases z : isC u
    · have : (if isC u then none else some u) = some o := h
      rw [if_pos z] at this; cases this
    · have : (if isC u then none else some u) = some o := h
      rw [if_neg z] at this; cases this
      exact ⟨rfl, z⟩
theorem clean_none {S : Hp} {b : Addr} (h : S b = none) : clean S b = none := by
  unfold clean
  rw [h]
theorem nC_len {C dx : Addr} {fs : List (Str × V)} (h : fs.length ≠ 2) : ¬ isC (.ins C dx fs) := fun ⟨C1, dx1, v, n, z⟩ => by
  injection z with _ _ z
  exact h (by rw [z]; rfl)
theorem nC_lst {xs : List V} : ¬ isC (.lst xs) := fun ⟨_, _, _, _, z⟩ => by cases z
theorem nC_tup {xs : List V} : ¬ isC (.tup xs) := fun ⟨_, _, _, _, z⟩ => by cases z
theorem nC_dT {xs : List (List Key × V)} : ¬ isC (.dT xs) := fun ⟨_, _, _, _, z⟩ => by cases z
theorem nC_B {C dx cl pl : Addr} : ¬ isC (.ins C dx (fsB cl pl)) := fun ⟨C1, dx1, v, n, z⟩ => by
  injection z with _ _ z
  injection z with z _
  injection z with z _
  exact absurd z (by decide)
theorem FrAt.clean {c : Cs} {S : Hp} {A : FAd} {f : Fm} (h : FrAt c S A f) : FrAt c (clean S) A f := by
  have sg : ∀ {as l}, Sgs S as l → Sgs (Py.clean S) as l := fun {as l} h => Ats.imp (fun a g e => clean_some e nC_tup) h
  exact ⟨clean_some h.ob (nC_len (by show ¬ (9 = 2); decide)), clean_some h.gv nC_lst, clean_some h.un nC_lst, clean_some h.sg nC_lst, sg h.sgs, clean_some h.pr nC_lst, clean_some h.tr nC_lst, clean_some h.uo nC_lst, Ats.imp (fun a k e => clean_some e nC_lst) h.uos, clean_some h.pe nC_lst, clean_some h.sa nC_lst,
    Ats.imp (fun a k ⟨bs, e1, e2⟩ => ⟨bs, clean_some e1 nC_lst, sg e2⟩) h.sas⟩
noncomputable def Gh.clean (G : Gh) : Gh := ⟨G.A, G.B, Py.clean G.S, G.d, G.dx⟩
theorem SqAt.putC {c : Cs} {H : Hp} {q : Addr} {x : List Addr} {G : Gh} {f : Fm} {s : Kgi2.St} {t : Nat} {dd : Nat → Nat → Prop} (a : SqAt c H q G f s t x dd) {r C dx : Addr} {v : V} {n : Nat} (hr : H r = some (.ins C dx (fsC v n))) (o' : HO) : SqAt c (upd H r o') q G.clean f s t x dd := by
  obtain ⟨b, kvs, ta, h⟩ := a
  have kk : ∀ {y o}, H y = some o → ¬ isC o → upd H r o' y = some o := fun {y o} e1 e2 => by
    have : y ≠ r := fun z => by rw [z, hr] at e1; cases e1; exact e2 ⟨_, _, _, _, rfl⟩
    rw [upd_ne this]; exact e1
  have bb : ∀ {B : Bd} {s : Kgi2.St}, BdAt c H B f s → BdAt c (upd H r o') B f s := fun b => ⟨kk b.ob nC_B, kk b.cl nC_lst, kk b.pl nC_lst, b.ne⟩
  have tk : ∀ {T' : TAd} {ts : Sq.TS}, TrAt c H T' G.A.p f ts → TrAt c (upd H r o') T' G.A.p f ts := fun a => by
    obtain ⟨as, h1, h2⟩ := a.nw
    exact ⟨kk a.ob (nC_len (by show ¬ (3 = 2); decide)), bb a.bd, ⟨as, kk h1 nC_lst, Ats.imp (fun _ _ e => kk e nC_tup) h2⟩, a.n1, a.n2⟩
  refine ⟨⟨⟨kk b.rd.ob (nC_len (by show ¬ (4 = 2); decide)), b.rd.fr.clean, fun y o e => ?_, bb b.rd.bd, b.rd.rt, b.rd.wf⟩, b.qu, fun y hy => (b.hx y hy).imp fun xs e => kk e nC_lst, fun y hy => ⟨clean_none (b.ax y hy).1, (b.ax y hy).2⟩, clean_none b.sq, clean_none b.sd, clean_none b.sc, clean_none b.sp⟩, kvs, ta, kk h.dic nC_dT, h.nd, h.ks, fun k v y e1 e2 e3 => ?_, h.dj⟩
  · obtain ⟨e1, e2⟩ := clean_of e
    exact kk (b.rd.sub _ _ e1) e2
  · obtain ⟨a1, ⟨u, a2, a3⟩, a4⟩ := h.live k v y e1 e2 e3
    exact ⟨a1, ⟨u, tk a2, a3⟩, fun z hz => ⟨clean_none (a4 z hz).1, (a4 z hz).2⟩⟩
theorem SqS.putC {c : Cs} {H : Hp} {q : Addr} {x : List Addr} {σ : Sq.NS} (a : SqS c H q x σ) {r C dx : Addr} {v : V} {n : Nat} (hr : H r = some (.ins C dx (fsC v n))) (o' : HO) : SqS c (upd H r o') q x σ := by
  cases σ with
  | none =>
    obtain ⟨⟨dx, d, e⟩, h⟩ := a
    have kk : ∀ {y o}, H y = some o → ¬ isC o → upd H r o' y = some o := fun {y o} e1 e2 => by
      have : y ≠ r := fun z => by rw [z, hr] at e1; cases e1; exact e2 ⟨_, _, _, _, rfl⟩
      rw [upd_ne this]; exact e1
    exact ⟨⟨dx, d, kk e (nC_len (by show ¬ (4 = 2); decide))⟩, fun b hb => (h b hb).imp fun xs e => kk e nC_lst⟩
  | some ab =>
    obtain ⟨G, t, h1, h2⟩ := a
    exact ⟨G.clean, t, h1, h2.putC hr o'⟩
theorem SqS.putX {c : Cs} {H : Hp} {q : Addr} {x : List Addr} {σ : Sq.NS} (a : SqS c H q x σ) {p : Addr} (hp : p ∈ x) (ys : List V) : SqS c (upd H p (.lst ys)) q x σ := by
  obtain ⟨zs, hz⟩ := a.hx p hp
  have hx' : ∀ b ∈ x, ∃ xs, (upd H p (.lst ys)) b = some (.lst xs) := fun b hb => by
    by_cases e : b = p
    · rw [e]; exact ⟨ys, upd_same⟩
    · rw [upd_ne e]; exact a.hx b hb
  have m : Kp [p] H (upd H p (.lst ys)) := Kp.put hz (by simp)
  cases σ with
  | none =>
    obtain ⟨⟨dx, d, e⟩, h⟩ := a
    exact ⟨⟨dx, d, m.oth _ _ e (fun _ z => by cases z)⟩, hx'⟩
  | some ab =>
    obtain ⟨G, t, h1, b, kvs, ta, h⟩ := a
    have hb := b.ax p hp
    refine ⟨G, t, h1, ⟨⟨m.oth _ _ b.rd.ob (fun _ z => by cases z), b.rd.fr, m.sub b.rd.sub (by simp; exact hb.1), b.rd.bd.kp m (by simp; exact Ne.symm hb.2.1) (by simp; exact Ne.symm hb.2.2), b.rd.rt, b.rd.wf⟩, b.qu, hx', b.ax, b.sq, b.sd, b.sc, b.sp⟩, kvs, ta, m.oth _ _ h.dic (fun _ z => by cases z), h.nd, h.ks, fun k v y e1 e2 e3 => ?_, h.dj⟩
    have l := h.live k v y e1 e2 e3
    exact l.kp m fun z hz w => (l.ap z hz).2.2.2 (by simp at w; rw [w]; exact hp)
def ScL (K : PySem.W.Frag) (H : Hp) (a : Addr) (xs : List V) : Prop := (∃ ob, H a = some (.frz ob (.lst xs))) ∨ ∀ H', SqL K H' a xs
theorem ScL.sq {K : PySem.W.Frag} {H : Hp} {a : Addr} {xs : List V} (h : ScL K H a xs) : SqL K H a xs := by
  rcases h with ⟨ob, e⟩ | h
  · exact .inl (.inr ⟨ob, e⟩)
  · exact h H
theorem ScL.keep {K : PySem.W.Frag} {H H' : Hp} {a : Addr} {xs : List V} (h : ScL K H a xs) (k : ∀ ob u, H a = some (.frz ob u) → H' a = some (.frz ob u)) : ScL K H' a xs := by
  rcases h with ⟨ob, e⟩ | h
  · exact .inl ⟨ob, k _ _ e⟩
  · exact .inr h
theorem ScL.same {K : PySem.W.Frag} {H H' : Hp} {a : Addr} {xs : List V} (h : ScL K H a xs) (m : Same H H') : ScL K H' a xs := h.keep fun _ _ e => m _ _ e
theorem ScL.ko {K : PySem.W.Frag} {x : List Addr} {H H' : Hp} {a : Addr} {xs : List V} (h : ScL K H a xs) (m : Ko x H H') : ScL K H' a xs := h.keep fun ob u e => m _ _ e (.inr (.inl ⟨ob, u, rfl⟩))
theorem ScL.put {K : PySem.W.Frag} {H : Hp} {a p : Addr} {xs : List V} {o o' : HO} (h : ScL K H a xs) (hp : H p = some o) (n : ∀ ob u, o ≠ .frz ob u) : ScL K (upd H p o') a xs := h.keep fun ob u e => by
  have : a ≠ p := fun z => by rw [z, hp] at e; cases e; exact n _ _ rfl
  rw [upd_ne this]; exact e
theorem ScL.of {K : PySem.W.Frag} {H : Hp} {a : Addr} {xs : List V} (o : Only H) (h : SqL K H a xs) : ScL K H a xs := by
  rcases h with (h | ⟨ob, h⟩) | h
  · rcases o a with z | ⟨ob, ys, z⟩
    · rw [h] at z; cases z
    · rw [h] at z; cases z
  · exact .inl ⟨ob, h⟩
  · exact .inr fun H' => .inr h
theorem drop_get {l : List Int} {n : Nat} {z : Int} {t : List Int} (h : l.drop n = z :: t) : l[n]? = some z ∧ l.drop (n + 1) = t := by
  refine ⟨?_, ?_⟩
  · have := List.head?_drop (l := l) (i := n)
    rw [h] at this; exact this.symm
  · rw [← List.drop_drop, h]; rfl
theorem get_int {l : List Int} {n : Nat} {z : Int} (h : l[n]? = some z) : atI (l.map V.int) (n : Int) = some (.int z) := atI_nat (by rw [List.getElem?_map, h]; rfl)
theorem cut_row {l row t : List Int} {n : Nat} (h : l.drop n = row ++ t) : cutV (l.map V.int) (some (n : Int)) (some ((n + row.length : Nat) : Int)) = row.map V.int ∧ l.drop (n + row.length) = t := by
  have hl : row.length + t.length = l.length - n := by rw [← List.length_append, ← h, List.length_drop]
  refine ⟨?_, by rw [← List.drop_drop, h, List.drop_left]⟩
  unfold cutV
  rw [HT.sIx_nat, HT.sIx_nat, List.length_map]
  by_cases hn : n ≤ l.length
  · rw [Nat.min_eq_left hn, Nat.min_eq_left (by omega), Nat.add_sub_cancel_left, ← List.map_drop, h, ← List.map_take, List.take_left]
  · have e : row = [] := List.length_eq_zero_iff.mp (by omega)
    subst e
    simp
end Py
namespace Py
open PySem PySem.Spec PyProof.Rows L2
open Kgi1 (cells)
open Kgi2 (at_ has unit)
def spCalls0 (c : Cs) : Sp := fun vs H Q _ => ∃ (r dx a : Addr), vs = [.ref r, .ref a] ∧ H r = some (.ins c.C dx []) ∧ Q .non (upd H r (.ins c.C dx (fsC (.ref a) 0)))
def spMore (c : Cs) (K : PySem.W.Frag) : Sp := fun vs H Q _ => ∃ (r dx a : Addr) (n : Nat) (ns : List Int), vs = [.ref r] ∧ H r = some (.ins c.C dx (fsC (.ref a) n)) ∧ ScL K H a (ns.map V.int) ∧ Q (.bl (decide (n < ns.length))) H
def spTake (c : Cs) (K : PySem.W.Frag) : Sp := fun vs H Q _ => ∃ (r dx a : Addr) (n : Nat) (ns : List Int) (z : Int), vs = [.ref r] ∧ H r = some (.ins c.C dx (fsC (.ref a) n)) ∧ ScL K H a (ns.map V.int) ∧ ns[n]? = some z ∧ Q (.int z) (upd H r (.ins c.C dx (fsC (.ref a) (n + 1))))
def spTakeRow (c : Cs) (K : PySem.W.Frag) : Sp := fun vs H Q _ => ∃ (r dx a : Addr) (n : Nat) (ns row t : List Int), vs = [.ref r] ∧ H r = some (.ins c.C dx (fsC (.ref a) n)) ∧ ScL K H a (ns.map V.int) ∧ ns.drop n = (row.length : Int) :: (row ++ t) ∧
  ∀ p, H p = none → Q (.ref p) (upd (upd H p (.lst (row.map V.int))) r (.ins c.C dx (fsC (.ref a) (n + 1 + row.length))))
section
variable {P : Program} {w : World} {K : PySem.W.Frag} {mg : Str → Option Value} {base : Heap} {c : Cs}
theorem scCalls0 : FnScope ["self", "numbers"] ["self", "numbers"] (defScope sCalls0) := ⟨rfl, rfl, rfl, by decide +kernel, rfl, by decide +kernel, by decide +kernel⟩
theorem ok_calls0 {f : Addr} {fd : FuncData} (F : Fun K "__init__" "Calls.__init__" sCalls0 f fd) (T : Txt K c) : FnOk P w K mg base CX0 1 f fd ["self", "numbers"] (spCalls0 c) := by
  refine F.ok scCalls0 (fun vs H Q E h => ?_) (fun cdv A outer s H vs Q E hr h => ?_)
  · obtain ⟨r, dx, a, rfl, _⟩ := h; rfl
  · obtain ⟨r, dx, a, rfl, hr, fin⟩ := h
    refine ⟨_, pss_cons (ps_fld (pv 0) (pv 1) rfl) (pss_one (ps_fld (pv 0) (pe_nat 0) rfl)), ?_⟩
    refine ⟨_, rfl, _, rfl, r, c.C, dx, _, rfl, hr, T.clC, T.cNumbers, (by show 0 < 1000; decide), _, rfl, r, c.C, dx, _, rfl, upd_same, T.clC, T.cAt, (by show 1 < 1000; decide), ?_⟩
    rw [upd_upd]
    exact fin
theorem scMore : FnScope ["self"] ["self"] (defScope sMore) := ⟨rfl, rfl, rfl, by decide +kernel, rfl, by decide +kernel, by decide +kernel⟩
theorem ok_more {f : Addr} {fd : FuncData} (F : Fun K "has_more" "Calls.has_more" sMore f fd) (T : Txt K c) (nl : mg "len" = none) : FnOk P w K mg base CX0 1 f fd ["self"] (spMore c K) := by
  refine F.ok scMore (fun vs H Q E h => ?_) (fun cdv A outer s H vs Q E hr h => ?_)
  · obtain ⟨r, dx, a, n, ns, rfl, _⟩ := h; rfl
  · obtain ⟨r, dx, a, n, ns, rfl, hr, sc, fin⟩ := h
    refine ⟨_, pss_one (ps_ret (pe_cmpR on_lt (pe_fld (pv 0) rfl) (pe_callB (call_lenB K) (by rfl) nl PySem.boot_len (pa_cons (pe_fld (pv 0) rfl) pa_nil)) (nomark _))), ?_⟩
    refine ⟨_, rfl, r, c.C, _, _, _, rfl, hr, T.clC, T.cAt, fsC_at _ _, _, rfl, r, c.C, _, _, _, rfl, hr, T.clC, T.cNumbers, fsC_numbers _ _, a, _, rfl, .inl sc.sq, n, ns.length, rfl, ?_, fin⟩
    rw [List.length_map]
theorem scTake : FnScope ["self", "number"] ["self"] (defScope sTake) := ⟨rfl, rfl, rfl, by decide +kernel, rfl, by decide +kernel, by decide +kernel⟩
theorem ok_take {f : Addr} {fd : FuncData} (F : Fun K "take" "Calls.take" sTake f fd) (T : Txt K c) : FnOk P w K mg base CX0 1 f fd ["self"] (spTake c K) := by
  refine F.ok scTake (fun vs H Q E h => ?_) (fun cdv A outer s H vs Q E hr h => ?_)
  · obtain ⟨r, dx, a, n, ns, z, rfl, _⟩ := h; rfl
  · obtain ⟨r, dx, a, n, ns, z, rfl, hr, sc, hz, fin⟩ := h
    refine ⟨_, pss_cons (ps_set (i := 1) scTake.nd rfl (Or.inl rfl) (pe_ix ix_list (pe_fld (pv 0) rfl) (pe_fld (pv 0) rfl) (fun _ _ => rfl)))
      (pss_cons (ps_fldaug (pv 0) (pe_nat 1) in_addN) (pss_one (ps_ret (pv 1)))), ?_⟩
    refine ⟨_, rfl, r, c.C, _, _, _, rfl, hr, T.clC, T.cNumbers, fsC_numbers _ _, _, rfl, r, c.C, _, _, _, rfl, hr, T.clC, T.cAt, fsC_at _ _, a, _, _, _, rfl, rfl, sc.sq, get_int hz, _, rfl, r, c.C, dx, _, _, rfl, hr, T.clC, T.cAt, fsC_at _ _, n, 1, rfl, rfl, dx, _, hr, (by show 2 < 1000; decide), ?_⟩
    rw [fsC_put]
    exact ⟨_, rfl, fin⟩
theorem scTakeRow : FnScope ["self", "length", "row"] ["self"] (defScope sTakeRow) := ⟨rfl, rfl, rfl, by decide +kernel, rfl, by decide +kernel, by decide +kernel⟩
theorem ok_takeRow {f : Addr} {fd : FuncData} (F : Fun K "take_row" "Calls.take_row" sTakeRow f fd) (T : Txt K c) (MT : MF P w K mg base 1 c.C "take" ["self"] (spTake c K)) : FnOk P w K mg base CX0 2 f fd ["self"] (spTakeRow c K) := by
  refine F.ok scTakeRow (fun vs H Q E h => ?_) (fun cdv A outer s H vs Q E hr h => ?_)
  · obtain ⟨r, dx, a, n, ns, row, t, rfl, _⟩ := h; rfl
  · obtain ⟨r, dx, a, n, ns, row, t, rfl, hr0, sc, hd, fin⟩ := h
    refine ⟨_, pss_cons (ps_set (i := 1) scTakeRow.nd rfl (Or.inl rfl) (pe_methG0 (pv 0) T.clC MT hr))
      (pss_cons (ps_set (i := 2) scTakeRow.nd rfl (Or.inl rfl) (pe_slice sl_list (pe_fld (pv 0) rfl) (po_some (pe_fld (pv 0) rfl)) (po_some (pe_op on_add (pe_fld (pv 0) rfl) (pv 1)))))
      (pss_cons (ps_fldaug (pv 0) (pv 1) in_addN) (pss_one (ps_ret (pv 2))))), ?_⟩
    obtain ⟨h1, h2⟩ := drop_get hd
    obtain ⟨h3, h4⟩ := cut_row h2
    refine ⟨_, rfl, _, _, _, rfl, hr0, fsC_take _ _, r, dx, a, n, ns, _, rfl, hr0, sc, h1, ?_⟩
    have sc1 := sc.put (o' := .ins c.C dx (fsC (.ref a) (n + 1))) hr0 (fun _ _ z => by cases z)
    have hr1 : (upd H r (.ins c.C dx (fsC (.ref a) (n + 1)))) r = some (.ins c.C dx (fsC (.ref a) (n + 1))) := upd_same
    refine ⟨_, rfl, r, c.C, _, _, _, rfl, hr1, T.clC, T.cNumbers, fsC_numbers _ _, _, rfl, r, c.C, _, _, _, rfl, hr1, T.clC, T.cAt, fsC_at _ _, _, rfl, _, rfl, r, c.C, _, _, _, rfl, hr1, T.clC, T.cAt, fsC_at _ _, _, rfl, n + 1, row.length, rfl, rfl, _, rfl, a, _, rfl, sc1.sq, fun p hp => ?_⟩
    rw [h3]
    have hpr : r ≠ p := ne_of_none hr1 hp
    have hp0 : H p = none := by rw [upd_ne (Ne.symm hpr)] at hp; exact hp
    have hr2 : (upd (upd H r (.ins c.C dx (fsC (.ref a) (n + 1)))) p (.lst (row.map V.int))) r = some (.ins c.C dx (fsC (.ref a) (n + 1))) := by rw [upd_ne hpr]; exact hr1
    refine ⟨_, rfl, r, c.C, dx, _, _, rfl, hr2, T.clC, T.cAt, fsC_at _ _, _, rfl, n + 1, row.length, rfl, rfl, dx, _, hr2, (by show 2 < 1000; decide), ?_⟩
    rw [fsC_put]
    refine ⟨_, rfl, ?_⟩
    have e : upd (upd (upd H r (.ins c.C dx (fsC (.ref a) (n + 1)))) p (.lst (row.map V.int))) r (.ins c.C dx (fsC (.ref a) (n + 1 + row.length))) = upd (upd H p (.lst (row.map V.int))) r (.ins c.C dx (fsC (.ref a) (n + 1 + row.length))) := by
      funext b
      by_cases z : b = r
      · rw [z, upd_same, upd_same]
      · rw [upd_ne z, upd_ne z]
        by_cases y : b = p
        · rw [y, upd_same, upd_same]
        · rw [upd_ne y, upd_ne y, upd_ne z]
    rw [e]
    exact fin p hp0
end
end Py
namespace Py
open PySem PySem.Spec PyProof.Rows L2
open Kgi1 (cells)
open Kgi2 (at_ has unit)
structure Rdr (c : Cs) (K : PySem.W.Frag) (H0 H : Hp) (q : Addr) (x : List Addr) (σ : Sq.NS) (r dx a : Addr) (m : Nat) (ns : List Int) : Prop where
  ob : H r = some (.ins c.C dx (fsC (.ref a) m))
  sc : ScL K H a (ns.map V.int)
  sq : SqS c H q x σ
  kx : ∀ b ∈ x, H b = H0 b
theorem Rdr.rx {c : Cs} {K : PySem.W.Frag} {H0 H : Hp} {q : Addr} {x : List Addr} {σ : Sq.NS} {r dx a : Addr} {m : Nat} {ns : List Int} (h : Rdr c K H0 H q x σ r dx a m ns) : r ∉ x := fun z => by
  obtain ⟨xs, e⟩ := h.sq.hx r z
  rw [h.ob] at e; cases e
theorem Rdr.take {c : Cs} {K : PySem.W.Frag} {H0 H : Hp} {q : Addr} {x : List Addr} {σ : Sq.NS} {r dx a : Addr} {m : Nat} {ns : List Int} (h : Rdr c K H0 H q x σ r dx a m ns) (m' : Nat) : Rdr c K H0 (upd H r (.ins c.C dx (fsC (.ref a) m'))) q x σ r dx a m' ns :=
  ⟨upd_same, h.sc.put h.ob (fun _ _ z => by cases z), h.sq.putC h.ob _, fun b hb => by
    have : b ≠ r := fun z => h.rx (z ▸ hb)
    rw [upd_ne this]; exact h.kx b hb⟩
theorem Rdr.row {c : Cs} {K : PySem.W.Frag} {H0 H : Hp} {q : Addr} {x : List Addr} {σ : Sq.NS} {r dx a : Addr} {m : Nat} {ns : List Int} (h : Rdr c K H0 H q x σ r dx a m ns) (m' : Nat) {p : Addr} (hp : H p = none) (l : List V) :
    Rdr c K H0 (upd (upd H p (.lst l)) r (.ins c.C dx (fsC (.ref a) m'))) q x σ r dx a m' ns ∧ (upd (upd H p (.lst l)) r (.ins c.C dx (fsC (.ref a) m'))) p = some (.lst l) ∧ ∀ b xs, H b = some (.lst xs) → (upd (upd H p (.lst l)) r (.ins c.C dx (fsC (.ref a) m'))) b = some (.lst xs) := by
  have s : Same H (upd H p (.lst l)) := same_new hp
  have hpr : r ≠ p := ne_of_none h.ob hp
  have h1 : Rdr c K H0 (upd H p (.lst l)) q x σ r dx a m ns := ⟨s _ _ h.ob, h.sc.same s, h.sq.same s, fun b hb => by rw [upd_ne (show b ≠ p from fun z => h.sq.new hp (z ▸ hb))]; exact h.kx b hb⟩
  refine ⟨h1.take m', by rw [upd_ne (Ne.symm hpr)]; exact upd_same, fun b xs e => ?_⟩
  rw [upd_ne (fun z => by rw [z, h.ob] at e; cases e)]
  exact s _ _ e
theorem Rdr.ans {c : Cs} {K : PySem.W.Frag} {H0 H H' : Hp} {q : Addr} {x : List Addr} {σ σ' : Sq.NS} {r dx a : Addr} {m : Nat} {ns : List Int} (h : Rdr c K H0 H q x σ r dx a m ns) (ko : Ko x H H') (s : SqS c H' q x σ') : Rdr c K H0 H' q x σ' r dx a m ns :=
  ⟨ko _ _ h.ob (.inr (.inr ⟨_, _, _, _, rfl⟩)), h.sc.ko ko, s, fun b hb => by
    obtain ⟨xs, e⟩ := h.sq.hx b hb
    rw [← h.kx b hb, e]; exact ko _ _ e (.inl hb)⟩
def spNext (c : Cs) (K : PySem.W.Frag) : Sp := fun vs H Q _ => ∃ (q r dx a : Addr) (x : List Addr) (σ : Sq.NS) (m : Nat) (ns t : List Int) (cl : List (List Int)), vs = [.ref q, .ref r] ∧ Rdr c K H H q x σ r dx a m ns ∧ ns.drop m = PyFlat.put1 cl ++ t ∧ Sq.CallIs cl ∧ Kgi2Neutral.asked1 cl = true ∧ (Kgi2Neutral.step σ cl).2 ≠ [] ∧
  ∀ p H', Rdr c K H H' q x (Kgi2Neutral.step σ cl).1 r dx a (m + (PyFlat.put1 cl).length) ns → p ∉ x → H' p = some (.lst ((Kgi2Neutral.step σ cl).2.map V.int)) → Q (.ref p) H'
theorem natI_map (l : List Nat) : (Sq.natI l).map V.int = nIs l := (nIs_ints l).symm
theorem map_nat {l : List Int} {m : List Nat} (h : l = Sq.natI m) : l.map V.int = nIs m := by rw [h, natI_map]
section
variable {P : Program} {w : World} {K : PySem.W.Frag} {mg : Str → Option Value} {base : Heap} {c : Cs}
theorem scNext : FnScope ["square", "calls", "call", "n", "regions", "right", "down", "given", "number"] ["square", "calls"] (defScope sNext) := ⟨rfl, rfl, rfl, by decide +kernel, rfl, by decide +kernel, by decide +kernel⟩
theorem ok_next {f : Addr} {fd : FuncData} (F : Fun K "answer_of_next" "answer_of_next" sNext f fd) (T : Txt K c) (MT : MF P w K mg base 1 c.C "take" ["self"] (spTake c K)) (MW : MF P w K mg base 2 c.C "take_row" ["self"] (spTakeRow c K))
    (MR : MF P w K mg base 6 c.S "read" ["self", "n", "regions", "right", "down", "given"] (spRead c)) (MS : MF P w K mg base 10 c.S "step" ["self", "hardest"] (spMeth c 1)) (MC : MF P w K mg base 1 c.S "cell" ["self", "k"] (spMeth c 2)) (MV : MF P w K mg base 10 c.S "solve" ["self", "hardest"] (spMeth c 3))
    (c0 : CI mg "READ" 0) (c1 : CI mg "STEP" 1) (c2 : CI mg "CELL" 2) : FnOk P w K mg base CX0 11 f fd ["square", "calls"] (spNext c K) := by
  refine F.ok scNext (fun vs H Q E h => ?_) (fun cdv A outer s H vs Q E hr h => ?_)
  · obtain ⟨q, r, dx, a, x, σ, m, ns, t, cl, rfl, _⟩ := h; rfl
  · obtain ⟨q, r, dx, a, x, σ, m, ns, t, cl, rfl, R0, hd, ci, as1, ne, fin⟩ := h
    refine ⟨_, pss_cons (ps_set (i := 2) scNext.nd rfl (Or.inl rfl) (pe_methG0 (pv 1) T.clC MT hr))
      (pss_cons (ps_if (pt_cmpR on_eq (pv 2) (pe_num c0 rfl) (nomark _))
        (pss_cons (ps_set (i := 3) scNext.nd rfl (Or.inl rfl) (pe_methG0 (pv 1) T.clC MT hr))
        (pss_cons (ps_set (i := 4) scNext.nd rfl (Or.inl rfl) (pe_methG0 (pv 1) T.clC MW hr))
        (pss_cons (ps_set (i := 5) scNext.nd rfl (Or.inl rfl) (pe_methG0 (pv 1) T.clC MW hr))
        (pss_cons (ps_set (i := 6) scNext.nd rfl (Or.inl rfl) (pe_methG0 (pv 1) T.clC MW hr))
        (pss_cons (ps_set (i := 7) scNext.nd rfl (Or.inl rfl) (pe_methG0 (pv 1) T.clC MW hr))
        (pss_one (ps_ret (pe_methG (pv 0) T.clS MR hr (pa_cons (pv 3) (pa_cons (pv 4) (pa_cons (pv 5) (pa_cons (pv 6) (pa_cons (pv 7) pa_nil))))))))))))) pss_nil)
      (pss_cons (ps_set (i := 8) scNext.nd rfl (Or.inl rfl) (pe_methG0 (pv 1) T.clC MT hr))
      (pss_cons (ps_if (pt_cmpR on_eq (pv 2) (pe_num c1 rfl) (nomark _)) (pss_one (ps_ret (pe_methG (pv 0) T.clS MS hr (pa_cons (pv 8) pa_nil)))) pss_nil)
      (pss_cons (ps_if (pt_cmpR on_eq (pv 2) (pe_num c2 rfl) (nomark _)) (pss_one (ps_ret (pe_methG (pv 0) T.clS MC hr (pa_cons (pv 8) pa_nil)))) pss_nil)
      (pss_one (ps_ret (pe_methG (pv 0) T.clS MV hr (pa_cons (pv 8) pa_nil)))))))), ?_⟩
    have hob : ∀ {H' : Hp} {σ : Sq.NS}, SqS c H' q x σ → ∃ dx v1 v2 v3 t, H' q = some (.ins c.S dx (fsS v1 v2 v3 t)) := fun h => h.ob
    cases ci with
    | read n la lb lc ld =>
      obtain ⟨hn, ⟨ea, eb, ec, ed⟩, _, hlen⟩ := Sq.read_is as1
      rw [Sq.put_read] at hd fin
      obtain ⟨g0, d0⟩ := drop_get (show ns.drop m = 0 :: (n :: (((la.length : Int) :: la ++ ((lb.length : Int) :: lb ++ ((lc.length : Int) :: lc ++ ((ld.length : Int) :: ld)))) ++ t)) from hd)
      obtain ⟨g1, d1⟩ := drop_get d0
      have d1' : ns.drop (m + 1 + 1) = (la.length : Int) :: (la ++ ((lb.length : Int) :: (lb ++ ((lc.length : Int) :: (lc ++ ((ld.length : Int) :: (ld ++ t))))))) := by rw [d1]; simp
      have d2 := (cut_row (drop_get d1').2).2
      have d3 := (cut_row (drop_get d2).2).2
      have d4 := (cut_row (drop_get d3).2).2
      refine ⟨_, rfl, _, _, _, rfl, R0.ob, fsC_take _ _, r, dx, a, m, ns, 0, rfl, R0.ob, R0.sc, g0, ?_⟩
      have R1 := R0.take (m + 1)
      refine ⟨_, rfl, 0, 0, rfl, rfl, _, rfl, ?_⟩
      refine iteT (B := _) ?_
      refine ⟨_, rfl, _, _, _, rfl, R1.ob, fsC_take _ _, r, dx, a, m + 1, ns, n, rfl, R1.ob, R1.sc, g1, ?_⟩
      have R2 := R1.take (m + 1 + 1)
      refine ⟨_, rfl, _, _, _, rfl, R2.ob, fsC_row _ _, r, dx, a, m + 1 + 1, ns, la, _, rfl, R2.ob, R2.sc, d1', fun p1 hp1 => ?_⟩
      obtain ⟨R3, e1, k1⟩ := R2.row (m + 1 + 1 + 1 + la.length) hp1 (la.map V.int)
      refine ⟨_, rfl, _, _, _, rfl, R3.ob, fsC_row _ _, r, dx, a, _, ns, lb, _, rfl, R3.ob, R3.sc, d2, fun p2 hp2 => ?_⟩
      obtain ⟨R4, e2, k2⟩ := R3.row (m + 1 + 1 + 1 + la.length + 1 + lb.length) hp2 (lb.map V.int)
      refine ⟨_, rfl, _, _, _, rfl, R4.ob, fsC_row _ _, r, dx, a, _, ns, lc, _, rfl, R4.ob, R4.sc, d3, fun p3 hp3 => ?_⟩
      obtain ⟨R5, e3, k3⟩ := R4.row (m + 1 + 1 + 1 + la.length + 1 + lb.length + 1 + lc.length) hp3 (lc.map V.int)
      refine ⟨_, rfl, _, _, _, rfl, R5.ob, fsC_row _ _, r, dx, a, _, ns, ld, _, rfl, R5.ob, R5.sc, d4, fun p4 hp4 => ?_⟩
      obtain ⟨R6, e4, k4⟩ := R5.row (m + 1 + 1 + 1 + la.length + 1 + lb.length + 1 + lc.length + 1 + ld.length) hp4 (ld.map V.int)
      have f1 := k4 _ _ (k3 _ _ (k2 _ _ e1))
      have f2 := k4 _ _ (k3 _ _ e2)
      have f3 := k4 _ _ e3
      generalize upd (upd _ p4 _) r _ = H6 at R6 e4 f1 f2 f3 ⊢
      have f4 := e4
      rw [map_nat ea] at f1
      rw [map_nat eb] at f2
      rw [map_nat ec] at f3
      rw [map_nat ed] at f4
      obtain ⟨dq, v1, v2, v3, tq, oq⟩ := R6.sq.ob
      have en : V.int n = nI (Kgi2Neutral.frame n la lb lc ld).n := by
        show V.int n = V.int ((n.toNat : Nat) : Int)
        congr 1; omega
      refine ⟨_, rfl, _, _, _, rfl, oq, fsS_read _ _ _ _, _, rfl, _, rfl, _, rfl, _, rfl, _, rfl, q, x, σ, Kgi2Neutral.frame n la lb lc ld, p1, p2, p3, p4, ?_, f1, f2, f3, f4, fun z => (hlen ⟨?_, ?_⟩).1, R6.sq, ?_⟩
      · rw [← en]; rfl
      · have := z.1
        have : 2 ≤ n.toNat := z.1
        omega
      · have : n.toNat ≤ 9 := z.2
        omega
      · rw [← Sq.step_read]
        intro p H' ko s px hp
        have R7 := R6.ans ko s
        have em : m + 1 + 1 + 1 + la.length + 1 + lb.length + 1 + lc.length + 1 + ld.length = m + (0 :: n :: ((la.length : Int) :: la ++ ((lb.length : Int) :: lb ++ ((lc.length : Int) :: lc ++ ((ld.length : Int) :: ld))))).length := by
          simp only [List.length_cons, List.length_append]; omega
        rw [em] at R7
        exact fin p H' R7 px hp
    | step h =>
      have hh := Sq.one_is (p := 1) (by decide) as1
      obtain ⟨ab, rfl⟩ : ∃ ab, σ = some ab := by
        cases σ with
        | some ab => exact ⟨ab, rfl⟩
        | none =>
          obtain ⟨_, _, _, _, _, z⟩ := Sq.step_none (.step h) ne
          injection z with _ z
          cases z
      rw [Sq.put_one] at hd fin
      obtain ⟨g0, d0⟩ := drop_get (show ns.drop m = 1 :: (h :: t) from hd)
      obtain ⟨g1, d1⟩ := drop_get d0
      refine ⟨_, rfl, _, _, _, rfl, R0.ob, fsC_take _ _, r, dx, a, m, ns, 1, rfl, R0.ob, R0.sc, g0, ?_⟩
      have R1 := R0.take (m + 1)
      refine ⟨_, rfl, 1, 0, rfl, rfl, _, rfl, ?_⟩
      refine iteF (A := _) ?_
      refine ⟨_, rfl, _, _, _, rfl, R1.ob, fsC_take _ _, r, dx, a, m + 1, ns, h, rfl, R1.ob, R1.sc, g1, ?_⟩
      have R2 := R1.take (m + 1 + 1)
      refine ⟨_, rfl, 1, 1, rfl, rfl, _, rfl, ?_⟩
      refine iteT (B := _) ?_
      obtain ⟨dq, v1, v2, v3, tq, oq⟩ := R2.sq.ob
      have en : V.int h = nI h.toNat := by
        show V.int h = V.int ((h.toNat : Nat) : Int)
        congr 1; omega
      have eh : ((h.toNat : Nat) : Int) = h := by omega
      refine ⟨_, rfl, _, _, _, rfl, oq, fsS_step _ _ _ _, _, rfl, q, x, ab, h.toNat, (by rw [← en]; rfl), by omega, R2.sq, ?_⟩
      rw [eh]
      intro p H' ko s px hp
      exact fin p H' (R2.ans ko s) px hp
    | cell h =>
      have hh := Sq.one_is (p := 2) (by decide) as1
      obtain ⟨ab, rfl⟩ : ∃ ab, σ = some ab := by
        cases σ with
        | some ab => exact ⟨ab, rfl⟩
        | none =>
          obtain ⟨_, _, _, _, _, z⟩ := Sq.step_none (.cell h) ne
          injection z with _ z
          cases z
      rw [Sq.put_one] at hd fin
      obtain ⟨g0, d0⟩ := drop_get (show ns.drop m = 2 :: (h :: t) from hd)
      obtain ⟨g1, d1⟩ := drop_get d0
      refine ⟨_, rfl, _, _, _, rfl, R0.ob, fsC_take _ _, r, dx, a, m, ns, 2, rfl, R0.ob, R0.sc, g0, ?_⟩
      have R1 := R0.take (m + 1)
      refine ⟨_, rfl, 2, 0, rfl, rfl, _, rfl, ?_⟩
      refine iteF (A := _) ?_
      refine ⟨_, rfl, _, _, _, rfl, R1.ob, fsC_take _ _, r, dx, a, m + 1, ns, h, rfl, R1.ob, R1.sc, g1, ?_⟩
      have R2 := R1.take (m + 1 + 1)
      refine ⟨_, rfl, 2, 1, rfl, rfl, _, rfl, ?_⟩
      refine iteF (A := _) ?_
      refine ⟨_, rfl, 2, 2, rfl, rfl, _, rfl, ?_⟩
      refine iteT (B := _) ?_
      obtain ⟨dq, v1, v2, v3, tq, oq⟩ := R2.sq.ob
      have en : V.int h = nI h.toNat := by
        show V.int h = V.int ((h.toNat : Nat) : Int)
        congr 1; omega
      have eh : ((h.toNat : Nat) : Int) = h := by omega
      refine ⟨_, rfl, _, _, _, rfl, oq, fsS_cell _ _ _ _, _, rfl, q, x, ab, h.toNat, (by rw [← en]; rfl), by omega, R2.sq, ?_⟩
      rw [eh]
      intro p H' ko s px hp
      exact fin p H' (R2.ans ko s) px hp
    | solve h =>
      have hh := Sq.one_is (p := 3) (by decide) as1
      obtain ⟨ab, rfl⟩ : ∃ ab, σ = some ab := by
        cases σ with
        | some ab => exact ⟨ab, rfl⟩
        | none =>
          obtain ⟨_, _, _, _, _, z⟩ := Sq.step_none (.solve h) ne
          injection z with _ z
          cases z
      rw [Sq.put_one] at hd fin
      obtain ⟨g0, d0⟩ := drop_get (show ns.drop m = 3 :: (h :: t) from hd)
      obtain ⟨g1, d1⟩ := drop_get d0
      refine ⟨_, rfl, _, _, _, rfl, R0.ob, fsC_take _ _, r, dx, a, m, ns, 3, rfl, R0.ob, R0.sc, g0, ?_⟩
      have R1 := R0.take (m + 1)
      refine ⟨_, rfl, 3, 0, rfl, rfl, _, rfl, ?_⟩
      refine iteF (A := _) ?_
      refine ⟨_, rfl, _, _, _, rfl, R1.ob, fsC_take _ _, r, dx, a, m + 1, ns, h, rfl, R1.ob, R1.sc, g1, ?_⟩
      have R2 := R1.take (m + 1 + 1)
      refine ⟨_, rfl, 3, 1, rfl, rfl, _, rfl, ?_⟩
      refine iteF (A := _) ?_
      refine ⟨_, rfl, 3, 2, rfl, rfl, _, rfl, ?_⟩
      refine iteF (A := _) ?_
      obtain ⟨dq, v1, v2, v3, tq, oq⟩ := R2.sq.ob
      have en : V.int h = nI h.toNat := by
        show V.int h = V.int ((h.toNat : Nat) : Int)
        congr 1; omega
      have eh : ((h.toNat : Nat) : Int) = h := by omega
      refine ⟨_, rfl, _, _, _, rfl, oq, fsS_solve _ _ _ _, _, rfl, q, x, ab, h.toNat, (by rw [← en]; rfl), by omega, R2.sq, ?_⟩
      rw [eh]
      intro p H' ko s px hp
      exact fin p H' (R2.ans ko s) px hp
end
end Py
namespace Py
open PySem PySem.Spec PyProof.Rows L2
open Kgi1 (cells)
open Kgi2 (at_ has unit)
theorem ans_len {σ : Sq.NS} {cl : List (List Int)} (h : Sq.CallIs cl) : (Kgi2Neutral.step σ cl).2.length ≤ 87 := by
  have i1 : ∀ z : Int, ([z] : List Int).length ≤ 87 := fun z => by simp
  cases h with
  | read n a b c d =>
    rw [Sq.step_read]
    split
    · exact i1 _
    · exact i1 _
  | step h =>
    cases σ with
    | none => exact Nat.zero_le _
    | some x =>
      rw [Sq.step_step]
      split
      · exact i1 _
      · split
        · exact i1 _
        · split
          · exact i1 _
          · rename_i t s e
            show (1 :: Kgi2Neutral.ints (Kgi2.flat t)).length ≤ 87
            unfold Kgi2Neutral.ints
            rw [List.length_cons, List.length_map, Sq.flat_len]; decide
  | cell k =>
    cases σ with
    | none => exact Nat.zero_le _
    | some x => rw [Sq.step_cell]; exact i1 _
  | solve h =>
    cases σ with
    | none => exact Nat.zero_le _
    | some x =>
      rw [Sq.step_solve]
      split
      · exact i1 _
      · show ([_, _, _] : List Int).length ≤ 87
        simp
theorem put1_pos {cl : List (List Int)} (h : Sq.CallIs cl) : 0 < (PyFlat.put1 cl).length := by
  cases h with
  | read n a b c d => rw [Sq.put_read]; simp
  | step h => rw [Sq.put_one]; simp
  | cell h => rw [Sq.put_one]; simp
  | solve h => rw [Sq.put_one]; simp
def spAnswers (K : PySem.W.Frag) : Sp := fun vs H Q _ => ∃ (a : Addr) (ns : List Int), vs = [.ref a] ∧ PyKgi2.answers_asked ns = true ∧ ScL K H a (ns.map V.int) ∧ ∀ l H', H' l = some (.lst ((PyKgi2.answers ns).map V.int)) → Q (.ref l) H'
section
variable {P : Program} {w : World} {K : PySem.W.Frag} {mg : Str → Option Value} {base : Heap} {c : Cs}
theorem scAnswers : FnScope ["calls", "square", "rest", "found", "answer"] ["calls"] (defScope sAnswers) := ⟨rfl, rfl, rfl, by decide +kernel, rfl, by decide +kernel, by decide +kernel⟩
theorem ok_answers {f : Addr} {fd : FuncData} (F : Fun K "answers" "answers" sAnswers f fd) (T : Txt K c) (CS : CF P w K mg base 1 c.S "Square" ["self"] (spSq0 c)) (CC : CF P w K mg base 1 c.C "Calls" ["self", "numbers"] (spCalls0 c)) (MM : MF P w K mg base 1 c.C "has_more" ["self"] (spMore c K))
    (GN : GF P w K mg base 11 "answer_of_next" ["square", "calls"] (spNext c K)) (nl : mg "len" = none) : FnOk P w K mg base CX0 12 f fd ["calls"] (spAnswers K) := by
  refine F.ok scAnswers (fun vs H Q E h => ?_) (fun cdv A outer s H vs Q E hr h => ?_)
  · obtain ⟨a, ns, rfl, _⟩ := h; rfl
  · obtain ⟨a, ns, rfl, ask, sc0, fin⟩ := h
    obtain ⟨cs, hput, hci, hlen, has1, hmay, hans⟩ := Sq.asked_is ask
    refine ⟨_, pss_cons (ps_set (i := 1) scAnswers.nd rfl (Or.inl rfl) (pe_makeG0 CS hr rfl))
      (pss_cons (ps_set (i := 2) scAnswers.nd rfl (Or.inl rfl) (pe_makeG CC hr rfl (pa_cons (pv 0) pa_nil)))
      (pss_cons (ps_set (i := 3) scAnswers.nd rfl (Or.inl rfl) (pe_lst pa_nil))
      (pss_cons (ps_while PassesOwn.never (pt_val (pe_methG0 (pv 2) T.clC MM hr))
        (pss_cons (ps_set (i := 4) scAnswers.nd rfl (Or.inl rfl) (pe_callG GN hr rfl (pa_cons (pv 1) (pa_cons (pv 2) pa_nil))))
        (pss_cons (ps_expr (pe_bm PySem.F.plainAttrs_list PySem.F.slot_list_append PySem.F.type_list_append mt_append (pv 3) (pa_cons (pe_callB (call_lenB K) (by rfl) nl PySem.boot_len (pa_cons (pv 4) pa_nil)) pa_nil)))
        (pss_one (ps_expr (pe_bm PySem.F.plainAttrs_list PySem.F.slot_list_extend PySem.F.type_list_extend mt_extend (pv 3) (pa_cons (pv 4) pa_nil)))))))
      (pss_one (ps_ret (pv 3)))))), ?_⟩
    intro q dq nq ndq neq
    refine ⟨q, dq, rfl, upd_same, fun d H1 e1 nw1 => ⟨rfl, ?_⟩⟩
    have sc1 : ScL K H1 a (ns.map V.int) := sc0.keep fun ob u e => nw1 _ _ (by rw [upd_ne (ne_of_none e nq), upd_ne (ne_of_none e ndq)]; exact e) (ne_of_none e nq)
    refine ⟨_, rfl, ?_⟩
    intro r dr nr ndr ner
    refine ⟨r, dr, a, rfl, upd_same, rfl, ?_⟩
    have s2 := same_made (a := .own r) (b := .ins c.C dr []) (o := .ins c.C dr (fsC (.ref a) 0)) nr ndr
    have ob2 : (upd (upd (upd H1 dr (.own r)) r (.ins c.C dr [])) r (.ins c.C dr (fsC (.ref a) 0))) r = some (.ins c.C dr (fsC (.ref a) 0)) := upd_same
    generalize upd (upd (upd H1 dr (.own r)) r (.ins c.C dr [])) r (.ins c.C dr (fsC (.ref a) 0)) = H2 at s2 ob2 ⊢
    refine ⟨Nat.zero_le _, fun fl hfl => ?_⟩
    have s3 : Same H2 (upd H2 fl (.lst [])) := same_new hfl
    have e3 : (upd H2 fl (.lst [])) fl = some (.lst []) := upd_same
    generalize upd H2 fl (.lst []) = H3 at s3 e3 ⊢
    have R3 : Rdr c K H3 H3 q [fl] none r dr a 0 ns := ⟨s3 _ _ ob2, (sc1.same s2).same s3, ⟨⟨dq, d, s3 _ _ (s2 _ _ e1)⟩, fun b hb => by rw [List.mem_singleton.mp hb]; exact ⟨_, e3⟩⟩, fun _ _ => rfl⟩
    refine ⟨fun m σv H' => ∃ (rest : List (List (List Int))) (σ : Sq.NS) (n : Nat) (out : List Int) (v4 : Option V), σv = [some (.ref a), some (.ref q), some (.ref r), some (.ref fl), v4] ∧ m = rest.length ∧ Rdr c K H' H' q [fl] σ r dr a n ns ∧ ns.drop n = PyFlat.put rest ∧ n ≤ ns.length ∧ (∀ c ∈ rest, Sq.CallIs c) ∧ (∀ c ∈ rest, Kgi2Neutral.asked1 c = true) ∧ Kgi2Neutral.may σ rest = true ∧
      PyKgi2.answers ns = out ++ PyFlat.told (PyFlat.played Kgi2Neutral.step σ rest) ∧ out.length + 88 * rest.length ≤ 88000 ∧ H' fl = some (.lst (out.map V.int)), ⟨_, cs, none, 0, [], none, rfl, rfl, R3, hput, Nat.zero_le _, hci, has1, hmay, hans, by simp; omega, e3⟩, ?_⟩
    rintro m σv H4 ⟨rest, σ, n, out, v4, rfl, rfl, R4, hd, hn, ci, as1, may, ea, hl, e4⟩
    refine ⟨_, rfl, _, _, _, rfl, R4.ob, fsC_more _ _, r, dr, a, n, ns, rfl, R4.ob, R4.sc, _, rfl, iteB (fun cc => ?_) (fun cc => ?_)⟩
    · have hlt : n < ns.length := of_decide_eq_true cc
      cases rest with
      | nil =>
        have : (ns.drop n).length = 0 := by rw [hd]; rfl
        rw [List.length_drop] at this
        omega
      | cons cl rest =>
        obtain ⟨ne, may'⟩ := Sq.may_cons may
        rw [Sq.put_cons] at hd
        rw [Sq.played_cons, Sq.told_cons] at ea
        have hal := ans_len (σ := σ) (ci cl List.mem_cons_self)
        rw [List.length_cons] at hl
        refine ⟨fun σv H' => ∃ (rest' : List (List (List Int))) (σ : Sq.NS) (n : Nat) (out : List Int) (v4 : Option V), σv = [some (.ref a), some (.ref q), some (.ref r), some (.ref fl), v4] ∧ rest'.length < (cl :: rest).length ∧ Rdr c K H' H' q [fl] σ r dr a n ns ∧ ns.drop n = PyFlat.put rest' ∧ n ≤ ns.length ∧ (∀ c ∈ rest', Sq.CallIs c) ∧ (∀ c ∈ rest', Kgi2Neutral.asked1 c = true) ∧ Kgi2Neutral.may σ rest' = true ∧
          PyKgi2.answers ns = out ++ PyFlat.told (PyFlat.played Kgi2Neutral.step σ rest') ∧ out.length + 88 * rest'.length ≤ 88000 ∧ H' fl = some (.lst (out.map V.int)), fun σ' H' ⟨rest', σ, n, out, v4, z1, z2, z3⟩ => ⟨_, z2, rest', σ, n, out, v4, z1, rfl, z3⟩, ?_⟩
        refine ⟨_, rfl, _, rfl, q, r, dr, a, [fl], σ, n, ns, _, cl, rfl, R4, hd, ci cl List.mem_cons_self, as1 cl List.mem_cons_self, ne, fun p H5 R5 px e5 => ?_⟩
        have f5 : H5 fl = some (.lst (out.map V.int)) := (R5.kx fl (by simp)).trans e4
        have pfl : p ≠ fl := fun z => px (by simp [z])
        generalize hst : (Kgi2Neutral.step σ cl).2 = an at *
        refine ⟨_, rfl, .inl ⟨rfl, _, SqL.of f5⟩, _, rfl, p, _, rfl, .inl (SqL.of e5), fl, _, _, rfl, rfl, f5, ?_, ?_⟩
        · rw [List.length_map]; exact Nat.lt_of_lt_of_le (show out.length < 88000 by omega) (by decide)
        have e6 : (upd H5 fl (.lst (out.map V.int ++ [V.int ((an.map V.int).length : Int)]))) p = some (.lst (an.map V.int)) := by rw [upd_ne pfl]; exact e5
        refine ⟨_, rfl, .inl ⟨rfl, _, SqL.of upd_same⟩, _, rfl, fl, p, _, _, rfl, rfl, upd_same, e6, ?_, ?_⟩
        · rw [List.length_append, List.length_map, List.length_map]
          exact Nat.le_trans (show out.length + 1 + an.length ≤ 88000 by omega) (by decide)
        rw [upd_upd]
        have el : out.map V.int ++ [V.int ((an.map V.int).length : Int)] ++ an.map V.int = (out ++ ((an.length : Int) :: an)).map V.int := by rw [List.map_append, List.map_cons, List.length_map, List.append_assoc]; rfl
        rw [el]
        obtain ⟨h1, h2⟩ : ns.drop (n + (PyFlat.put1 cl).length) = PyFlat.put rest ∧ n + (PyFlat.put1 cl).length ≤ ns.length := by
          refine ⟨by rw [← List.drop_drop, hd, List.drop_left], ?_⟩
          have := congrArg List.length hd
          rw [List.length_drop, List.length_append] at this
          omega
        refine ⟨rest, _, n + (PyFlat.put1 cl).length, out ++ ((an.length : Int) :: an), _, rfl, by simp, ⟨?_, R5.sc.put f5 (fun _ _ z => by cases z), R5.sq.putX (by simp) _, fun _ _ => rfl⟩, h1, h2, fun c hc => ci c (List.mem_cons_of_mem _ hc), fun c hc => as1 c (List.mem_cons_of_mem _ hc), may', ?_, ?_, upd_same⟩
        · rw [upd_ne (fun z => R5.rx (by simp [z]))]; exact R5.ob
        · rw [ea, List.append_assoc]
        · rw [List.length_append, List.length_cons]; omega
    · have hge : ¬ n < ns.length := of_decide_eq_false cc
      cases rest with
      | nil =>
        have : PyKgi2.answers ns = out := by rw [ea]; exact List.append_nil _
        exact ⟨_, rfl, fin fl H4 (by rw [this]; exact e4)⟩
      | cons cl rest =>
        have := congrArg List.length hd
        rw [Sq.put_cons, List.length_drop, List.length_append] at this
        have := put1_pos (ci cl List.mem_cons_self)
        omega
end
end Py
namespace L2
open PySem PySem.Spec PyProof.Rows
theorem spec_call {P : Program} {w : World} {K : PySem.W.Frag} {mg mb : Str → Option Value} {k : Nat} {fa a : Addr} {fd : FuncData} {x : Str} {sp : Sp} {s₁ : Shared} {vs : List Value} {ns ys : List Int}
    (KX : K.In s₁.heap) (hns : s₁.heap.Ns mainGlobals mg) (hb : s₁.heap.Ns builtinsNs mb) (hbb : ∀ x : Str, x ≠ "__name__" → mb x = bootBuiltins x) (hlim : s₁.heap.NoLimit) (hg : s₁.gens = #[])
    (ha : s₁.heap.get? a = some { cls := .type "list", data := .seq vs.toArray }) (hi : IntsAre vs ns) (hl : ns.length ≤ sizeLine) (hr : Room k callerA)
    (F : ∀ base : Heap, K.In base → base.Ns mainGlobals mg → FnOk P w K mg base CX0 k fa fd [x] sp) (hbind : ∀ (s : Shared) (u : Value), BindsTo s fd ⟨[u], []⟩ [(x, u)])
    (hsp : ∀ H : Hp, Only H → SqL K H a (ns.map V.int) → sp [.ref a] H (fun v H' => ∃ l, v = .ref l ∧ H' l = some (.lst (ys.map V.int))) fun _ _ _ => False) :
    codeAny (model P w) callerA (.call (.ref fa) ⟨[.ref a], []⟩) (fun r s' => (∃ l its n, r = .ok (.ret (.ref l)) ∧ s'.heap.get? l = some { cls := .type "list", data := .seq its n } ∧ IntsAre its.toList ys) ∧ OldK s₁.heap s'.heap ∧ s'.os = s₁.os ∧ AllBare s'.gens) s₁ := by
  have rv := vals_ints hi
  have lenV := hi.length
  have core : ∀ H : Hp, Only H → SqL K H a (ns.map V.int) → HOk P w H s₁.heap → (∀ b, H b ≠ none → b = a) → (H a ≠ none → K.lookup a = none) →
      codeAny (model P w) callerA (.call (.ref fa) ⟨[.ref a], []⟩) (fun r s' => (∃ l its n, r = .ok (.ret (.ref l)) ∧ s'.heap.get? l = some { cls := .type "list", data := .seq its n } ∧ IntsAre its.toList ys) ∧ OldK s₁.heap s'.heap ∧ s'.os = s₁.os ∧ AllBare s'.gens) s₁ := by
    intro H hO hS hok hA hK
    have base_of : ∀ {b : Addr} {o : Obj}, s₁.heap.get? b = some o → H b = none → (hidT s₁.heap H).get? b = some o := fun e n => hidT_get e n
    have noA : ∀ {b : Addr} {o : Obj} {es : Array DictEntry} {ep : Nat}, s₁.heap.get? b = some o → o.data = .dict es ep → H b = none := fun {b o es ep} e d => by
      cases q : H b with
      | none => rfl
      | some u =>
        have e' : b = a := hA b (by rw [q]; simp)
        subst e'
        rw [ha] at e; cases e
        have d' : Data.seq vs.toArray _ = Data.dict es ep := d
        cases d'
    have nsK : ∀ {b : Addr} {m : Str → Option Value}, s₁.heap.Ns b m → (hidT s₁.heap H).Ns b m := fun {b m} ⟨o, es, ep, e, d, r⟩ => ⟨o, es, ep, base_of e (noA e d), d, r⟩
    have hKb : K.In (hidT s₁.heap H) := fun b o e => base_of (KX b o e) (by
      cases q : H b with
      | none => rfl
      | some u =>
        have e' : b = a := hA b (by rw [q]; simp)
        subst e'
        rw [hK (by rw [q]; simp)] at e; cases e)
    have hM : Mod K mg (hidT s₁.heap H) := ⟨hKb, nsK hns, ⟨mb, nsK hb, hbb⟩, let ⟨mc, h1, h2⟩ := hlim; ⟨mc, nsK h1, h2⟩⟩
    have e0 : Env0 P w K mg (hidT s₁.heap H) callerA [] s₁ H := ⟨rfl, hM, fun b o e => of_hidT e, Nat.le_of_eq (hidT_size _ _), trivial, fun b hb => absurd (show b ∈ ([] : List Addr) from hb) (by simp), hok, .of_eq hg⟩
    refine codeAny_mono ((F _ hKb (nsK hns)).run callerA [] s₁ H ⟨[.ref a], []⟩ [.ref a] [.ref a] _ _ hr e0 (hbind s₁ (.ref a)) (.cons rfl .nil) (hsp H hO hS)) fun r s' h => ?_
    cases r with
    | error e => exact False.elim h
    | ok fl =>
      cases fl with
      | next => exact False.elim h
      | brk => exact False.elim h
      | cont => exact False.elim h
      | ret u =>
        obtain ⟨v, H', os, bare, un, hok', r', l, q1, q2⟩ := h
        subst q1
        obtain rfl : u = Value.ref l := r'
        obtain ⟨_, its, n, rr, e1⟩ := hok' l _ q2
        refine ⟨⟨l, its.toArray, n, rfl, e1, by simpa using Vals.ints rr⟩, OldK.of_keep fun b o e => ?_, os, bare⟩
        cases q : H b with
        | none => exact un.keep b o e q (by intro z; exact absurd (show b ∈ ([] : List Addr) from z) (by simp)) (by simp)
        | some u =>
          rcases hO b with z | ⟨ob, xs, z⟩
          · rw [q] at z; cases z
          · have z2 := un.frzs b ob _ z
            obtain ⟨e1, _⟩ := hok b _ z
            obtain ⟨e2, _⟩ := hok' b _ z2
            rw [e] at e1; cases e1
            exact e2
  cases hk : K.lookup a with
  | some o =>
    have e := KX a o hk
    rw [ha] at e
    cases e
    refine core (fun _ => none) (fun _ => .inl rfl) (.inr ⟨_, vs.toArray, _, hk, rfl, rfl, rfl, by rw [List.size_toArray, lenV]; exact hl, by simpa using rv⟩) (fun b u z => by have z' : (none : Option HO) = some u := z; cases z') (fun b z => absurd rfl z) fun z => absurd rfl z
  | none =>
    refine core (fun b => if b = a then some (.frz { cls := .type "list", data := .seq vs.toArray } (.lst (ns.map V.int))) else none) (fun b => ?_) (.inl (.inr ⟨{ cls := .type "list", data := .seq vs.toArray }, if_pos rfl⟩)) (fun b u z => ?_) (fun b z => ?_) fun _ => hk
    · by_cases hb : b = a
      · exact .inr ⟨_, _, if_pos hb⟩
      · exact .inl (if_neg hb)
    · by_cases hb : b = a
      · have z' := (if_pos hb).symm.trans z
        cases z'
        subst hb
        exact ⟨ha, by rw [List.length_map]; exact hl, vs, _, rv, ha⟩
      · have z' := (if_neg hb).symm.trans z
        cases z'
    · by_cases hb : b = a
      · exact hb
      · exact absurd (if_neg hb) z
theorem reads_ints {R : PySem.W.WRecords} {cl : Str → Option Addr} {h : Heap} : ∀ {vs : List Value} {ys : List Int}, IntsAre vs ys → PySem.W.ReadsAllW R cl h vs (ys.map PySem.W.WData.int) []
  | _, _, .nil => .nil
  | _, _, .cons n t r => .cons (as := []) (bs := []) (.int n t) (reads_ints r)
end L2
namespace Py
open PySem PySem.Spec PyProof.Rows L2
abbrev row : PySem.W.OpenSpec := PySem.Challenge.rw_strikesquare_s01_answers
theorem arg_of {args : List PySem.W.WData} (said : row.wellSaid = true) (h : row.pre args = true) : ∃ ns : List Int, args = [.list (ns.map .int)] ∧ ns.length ≤ 30000 ∧ (∀ x ∈ ns, 0 ≤ x ∧ x ≤ 4294967295) ∧ PyKgi2.answers_asked ns = true ∧
    ∀ ys : List Int, ys = PyKgi2.answers ns → row.post args (.list (ys.map .int)) = true := by
  obtain ⟨⟨ns, u⟩, h1, h2, h3⟩ := PySem.W.os_pre said h
  subst h3
  have h1' : (PySem.W.Codec.inList 0 30000 (PySem.W.Codec.inInt 0 4294967295) ns && true) = true := h1
  rw [Bool.and_true] at h1'
  obtain ⟨a, b⟩ := PySem.W.Codec.and_of h1'
  refine ⟨ns, rfl, (PySem.W.Codec.inNat_iff.mp a).2, fun x hx => PySem.W.Codec.inInt_iff.mp (List.all_eq_true.mp b x hx), h2, fun ys e => ?_⟩
  exact PySem.W.os_shut said h1 (by subst e; rfl)
theorem walk_spec {q : Program} {loose : List Str} {XP : (Str → Option Value) → Heap → Prop} {YP : World → Heap → Prop} {d : DefRec} {K : Params → PySem.W.Frag} {k : Nat} {x : Str} {sp : PySem.W.Frag → Sp}
    (said : row.wellSaid = true) (hdf : d.params.defaults = []) (hr : Room k callerA) (hY : ∀ (w : World) (h : Heap), YP w h → (K w.params).In h)
    (F : ∀ (w : World) (mg : Str → Option Value) (fa : Addr) (h : Heap), (K w.params).In h → h.Ns mainGlobals mg → mg d.name = some (.ref fa) →
      ∃ fd : FuncData, (∀ (s : Shared) (u : Value), BindsTo s fd ⟨[u], []⟩ [(x, u)]) ∧ ∀ base : Heap, (K w.params).In base → base.Ns mainGlobals mg → FnOk row.prog w (K w.params) mg base CX0 k fa fd [x] (sp (K w.params)))
    (hsp : ∀ (K : PySem.W.Frag) (H : Hp) (a : Addr) (ns : List Int), ns.length ≤ 30000 → (∀ x ∈ ns, 0 ≤ x ∧ x ≤ 4294967295) → PyKgi2.answers_asked ns = true → Only H → SqL K H a (ns.map V.int) →
      sp K [.ref a] H (fun v H' => ∃ l, v = .ref l ∧ H' l = some (.lst ((PyKgi2.answers ns).map V.int))) fun _ _ _ => False) :
    PySem.W.WalkOS q loose XP YP row d [] (fun f vs => PySem.call f vs) := by
  intro w s₀ s₁ mg mb G Y fa o pm cd doc dV kV ho hd hcd hD hmg hg args vals as hpre hlay hrd hwl hlo
  obtain ⟨ns, rfl, hlen, hbd, hask, hpost⟩ := arg_of said hpre
  cases hwl with
  | cons w1 w2 =>
    cases w2
    cases w1 with
    | list hobj hall =>
      have hints := Att.ints_of_wellAll ns _ hall
      have KX := hY w _ Y
      obtain ⟨fd, hb, hF⟩ := F w mg fa _ KX G.T.g hmg
      refine PySem.W.enter_call (codeAny_mono (spec_call (ys := PyKgi2.answers ns) KX G.T.g G.T.b G.T.builtins G.T.nolimit hg hobj hints (Nat.le_trans hlen (by decide)) hr hF hb fun H hO hS => hsp _ H _ ns hlen hbd hask hO hS) fun r s' hq => ?_)
      obtain ⟨⟨l, its, n, rfl, e1, hi⟩, h2, h3, h4⟩ := hq
      exact ⟨.inl ⟨.ref l, .list ((PyKgi2.answers ns).map .int), _, rfl, fun _ => rfl, .list e1 rfl rfl (reads_ints hi), hpost _ rfl, fun z => absurd z Bool.false_ne_true⟩, h2, h3, h4⟩
end Py
namespace Py
open PySem PySem.Spec PyProof.Rows L2
open PySem.W (nsIn findIn isFn fnOf codeIn keepIn plainGet hasDictIn plainOver makesIn mg_of mg_none_of)
theorem all_mk {w : World} {K : PySem.W.Frag} {h : Heap} {mg : Str → Option Value} {fa fin cB cF cT cP cS cC f1 f2 f3 f4 f5 f6 f7 f8 f9 f10 f11 f12 f13 f14 f15 f16 f17 f18 f19 f20 f21 f22 f23 f24 f25 f26 f27 f28 f29 f30 f31 f32 f33 f34 f35 f36 f37 f38 f39 f40 f41 f42 f43 f44 f45 f46 f47 f48 f49 f50 f51 f52 f53 f54 f55 f56 : Addr} (X : K.In h) (G : h.Ns mainGlobals mg) (hfa : mg "answers" = some (.ref fa))
    {odF d1 d2 d3 d4 d5 d6 d7 d8 d9 d10 d11 d12 d13 d14 d15 d16 d17 d18 d19 d20 d21 d22 d23 d24 d25 d26 d27 d28 d29 d30 d31 d32 d33 d34 d35 d36 d37 d38 d39 d40 d41 d42 d43 d44 d45 d46 d47 d48 d49 d50 d51 d52 d53 d54 d55 d56 e1 e2 e3 e4 e5 e6 e7 e8 e9 e10 e11 e12 e13 e14 e15 e16 e17 e18 e19 e20 e21 e22 e23 e24 e25 e26 e27 e28 e29 e30 e31 e32 e33 e34 e35 e36 e37 e38 e39 e40 e41 e42 e43 e44 e45 e46 e47 e48 e49 e50 e51 e52 e53 e54 e55 e56 : Option Addr} {slF z1 z2 z3 z4 z5 z6 z7 z8 z9 z10 z11 z12 z13 z14 z15 z16 z17 z18 z19 z20 z21 z22 z23 z24 z25 z26 z27 z28 z29 z30 z31 z32 z33 z34 z35 z36 z37 z38 z39 z40 z41 z42 z43 z44 z45 z46 z47 z48 z49 z50 z51 z52 z53 z54 z55 z56 : Array (Option Value)} {o1 o2 o3 o4 o5 o6 o7 o8 o9 o10 o11 o12 o13 o14 o15 o16 o17 o18 o19 o20 o21 o22 o23 o24 o25 o26 o27 o28 o29 o30 o31 o32 o33 o34 o35 o36 o37 o38 o39 o40 o41 o42 o43 o44 o45 o46 o47 o48 o49 o50 o51 o52 o53 o54 o55 o56 v1 v2 v3 v4 v5 v6 v7 v8 v9 v10 v11 v12 v13 v14 v15 v16 v17 v18 v19 v20 v21 v22 v23 v24 v25 v26 v27 v28 v29 v30 v31 v32 v33 v34 v35 v36 v37 v38 v39 v40 v41 v42 v43 v44 v45 v46 v47 v48 v49 v50 v51 v52 v53 v54 v55 v56 y1 y2 y3 y4 y5 y6 y7 y8 y9 y10 y11 y12 y13 y14 y15 y16 y17 y18 y19 y20 y21 y22 y23 y24 y25 y26 y27 y28 y29 y30 y31 y32 y33 y34 y35 y36 y37 y38 y39 y40 y41 y42 y43 y44 y45 y46 y47 y48 y49 y50 y51 y52 y53 y54 y55 y56 p1 p2 p3 p4 p5 p6 p7 p8 p9 p10 p11 p12 p13 p14 p15 p16 p17 p18 p19 p20 p21 p22 p23 p24 p25 p26 p27 p28 p29 p30 p31 p32 p33 p34 p35 p36 p37 p38 p39 p40 p41 p42 p43 p44 p45 p46 p47 p48 p49 p50 p51 p52 p53 p54 p55 p56 x1 x2 x3 x4 x5 x6 x7 x8 x9 x10 x11 x12 x13 x14 x15 x16 x17 x18 x19 x20 x21 x22 x23 x24 x25 x26 x27 x28 x29 x30 x31 x32 x33 x34 x35 x36 x37 x38 x39 x40 x41 x42 x43 x44 x45 x46 x47 x48 x49 x50 x51 x52 x53 x54 x55 x56 u1 u2 u3 u4 u5 u6 u7 u8 u9 u10 u11 u12 u13 u14 u15 u16 u17 u18 u19 u20 u21 u22 u23 u24 u25 u26 u27 u28 u29 u30 u31 u32 u33 u34 u35 u36 u37 u38 u39 u40 u41 u42 u43 u44 u45 u46 u47 u48 u49 u50 u51 u52 u53 u54 u55 u56 : Value} {nF t0 t1 t2 t3 t4 t5 t6 t7 t8 t9 t10 t11 t12 t13 t14 t15 t16 t17 t18 t19 t20 t21 t22 : Nat}
    (AB : nsIn K mainGlobals "Board" = some (some (.ref cB))) (AF : nsIn K mainGlobals "Frame" = some (some (.ref cF))) (AT : nsIn K mainGlobals "Trial" = some (some (.ref cT))) (AP : nsIn K mainGlobals "Step" = some (some (.ref cP))) (AS : nsIn K mainGlobals "Square" = some (some (.ref cS)))
    (AC : nsIn K mainGlobals "Calls" = some (some (.ref cC))) (A1 : nsIn K mainGlobals "is_single" = some (some (.ref f1))) (L1 : K.lookup f1 = some ⟨o1, d1, .func (fnOf "is_single" "is_single" (defArgs sSingle) (defBody sSingle) (defScope sSingle) .none v1 y1 p1 e1 x1 u1), z1⟩) (C1 : codeIn K x1 "is_single" = true) (K1 : keepIn K (.ref f1) = true)
    (A2 : nsIn K mainGlobals "least" = some (some (.ref f2))) (L2 : K.lookup f2 = some ⟨o2, d2, .func (fnOf "least" "least" (defArgs sLeast) (defBody sLeast) (defScope sLeast) .none v2 y2 p2 e2 x2 u2), z2⟩) (C2 : codeIn K x2 "least" = true) (K2 : keepIn K (.ref f2) = true) (A3 : nsIn K mainGlobals "greatest" = some (some (.ref f3)))
    (L3 : K.lookup f3 = some ⟨o3, d3, .func (fnOf "greatest" "greatest" (defArgs sGreatest) (defBody sGreatest) (defScope sGreatest) .none v3 y3 p3 e3 x3 u3), z3⟩) (C3 : codeIn K x3 "greatest" = true) (K3 : keepIn K (.ref f3) = true) (A4 : nsIn K mainGlobals "members" = some (some (.ref f4))) (L4 : K.lookup f4 = some ⟨o4, d4, .func (fnOf "members" "members" (defArgs sMembers) (defBody sMembers) (defScope sMembers) .none v4 y4 p4 e4 x4 u4), z4⟩)
    (C4 : codeIn K x4 "members" = true) (K4 : keepIn K (.ref f4) = true) (A5 : nsIn K mainGlobals "sets_of" = some (some (.ref f5))) (L5 : K.lookup f5 = some ⟨o5, d5, .func (fnOf "sets_of" "sets_of" (defArgs sSets) (defBody sSets) (defScope sSets) .none v5 y5 p5 e5 x5 u5), z5⟩) (C5 : codeIn K x5 "sets_of" = true)
    (K5 : keepIn K (.ref f5) = true) (A6 : findIn K (.ref cB) "__init__" = some (some (.ref f6))) (S6 : isFn K (.ref f6) = true) (L6 : K.lookup f6 = some ⟨o6, d6, .func (fnOf "__init__" "Board.__init__" (defArgs sBoard0) (defBody sBoard0) (defScope sBoard0) .none v6 y6 p6 e6 x6 u6), z6⟩) (C6 : codeIn K x6 "Board.__init__" = true)
    (K6 : keepIn K (.ref f6) = true) (A7 : findIn K (.ref cB) "twin" = some (some (.ref f7))) (S7 : isFn K (.ref f7) = true) (L7 : K.lookup f7 = some ⟨o7, d7, .func (fnOf "twin" "Board.twin" (defArgs sTwin) (defBody sTwin) (defScope sTwin) .none v7 y7 p7 e7 x7 u7), z7⟩) (C7 : codeIn K x7 "Board.twin" = true)
    (K7 : keepIn K (.ref f7) = true) (A8 : findIn K (.ref cB) "strike" = some (some (.ref f8))) (S8 : isFn K (.ref f8) = true) (L8 : K.lookup f8 = some ⟨o8, d8, .func (fnOf "strike" "Board.strike" (defArgs sStrike) (defBody sStrike) (defScope sStrike) .none v8 y8 p8 e8 x8 u8), z8⟩) (C8 : codeIn K x8 "Board.strike" = true)
    (K8 : keepIn K (.ref f8) = true) (A9 : nsIn K mainGlobals "strikes_of" = some (some (.ref f9))) (L9 : K.lookup f9 = some ⟨o9, d9, .func (fnOf "strikes_of" "strikes_of" (defArgs sStrikesOf) (defBody sStrikesOf) (defScope sStrikesOf) .none v9 y9 p9 e9 x9 u9), z9⟩) (C9 : codeIn K x9 "strikes_of" = true) (K9 : keepIn K (.ref f9) = true)
    (A10 : nsIn K mainGlobals "strikes_by_sign" = some (some (.ref f10))) (L10 : K.lookup f10 = some ⟨o10, d10, .func (fnOf "strikes_by_sign" "strikes_by_sign" (defArgs sBySign) (defBody sBySign) (defScope sBySign) .none v10 y10 p10 e10 x10 u10), z10⟩) (C10 : codeIn K x10 "strikes_by_sign" = true) (K10 : keepIn K (.ref f10) = true) (A11 : nsIn K mainGlobals "is_broken" = some (some (.ref f11)))
    (L11 : K.lookup f11 = some ⟨o11, d11, .func (fnOf "is_broken" "is_broken" (defArgs sBroken) (defBody sBroken) (defScope sBroken) .none v11 y11 p11 e11 x11 u11), z11⟩) (C11 : codeIn K x11 "is_broken" = true) (K11 : keepIn K (.ref f11) = true) (A12 : nsIn K mainGlobals "board_at_first" = some (some (.ref f12))) (L12 : K.lookup f12 = some ⟨o12, d12, .func (fnOf "board_at_first" "board_at_first" (defArgs sFirst) (defBody sFirst) (defScope sFirst) .none v12 y12 p12 e12 x12 u12), z12⟩)
    (C12 : codeIn K x12 "board_at_first" = true) (K12 : keepIn K (.ref f12) = true) (A13 : nsIn K mainGlobals "regions_fit" = some (some (.ref f13))) (L13 : K.lookup f13 = some ⟨o13, d13, .func (fnOf "regions_fit" "regions_fit" (defArgs sRegionsFit) (defBody sRegionsFit) (defScope sRegionsFit) .none v13 y13 p13 e13 x13 u13), z13⟩) (C13 : codeIn K x13 "regions_fit" = true)
    (K13 : keepIn K (.ref f13) = true) (A14 : nsIn K mainGlobals "signs_fit" = some (some (.ref f14))) (L14 : K.lookup f14 = some ⟨o14, d14, .func (fnOf "signs_fit" "signs_fit" (defArgs sSignsFit) (defBody sSignsFit) (defScope sSignsFit) .none v14 y14 p14 e14 x14 u14), z14⟩) (C14 : codeIn K x14 "signs_fit" = true) (K14 : keepIn K (.ref f14) = true)
    (A15 : nsIn K mainGlobals "refusal" = some (some (.ref f15))) (L15 : K.lookup f15 = some ⟨o15, d15, .func (fnOf "refusal" "refusal" (defArgs sRefusal) (defBody sRefusal) (defScope sRefusal) .none v15 y15 p15 e15 x15 u15), z15⟩) (C15 : codeIn K x15 "refusal" = true) (K15 : keepIn K (.ref f15) = true) (A16 : nsIn K mainGlobals "units_of_frame" = some (some (.ref f16)))
    (L16 : K.lookup f16 = some ⟨o16, d16, .func (fnOf "units_of_frame" "units_of_frame" (defArgs sUnits) (defBody sUnits) (defScope sUnits) .none v16 y16 p16 e16 x16 u16), z16⟩) (C16 : codeIn K x16 "units_of_frame" = true) (K16 : keepIn K (.ref f16) = true) (A17 : nsIn K mainGlobals "one_sign" = some (some (.ref f17))) (L17 : K.lookup f17 = some ⟨o17, d17, .func (fnOf "one_sign" "one_sign" (defArgs sOne) (defBody sOne) (defScope sOne) .none v17 y17 p17 e17 x17 u17), z17⟩)
    (C17 : codeIn K x17 "one_sign" = true) (K17 : keepIn K (.ref f17) = true) (A18 : nsIn K mainGlobals "signs_of_frame" = some (some (.ref f18))) (L18 : K.lookup f18 = some ⟨o18, d18, .func (fnOf "signs_of_frame" "signs_of_frame" (defArgs sSigns) (defBody sSigns) (defScope sSigns) .none v18 y18 p18 e18 x18 u18), z18⟩) (C18 : codeIn K x18 "signs_of_frame" = true)
    (K18 : keepIn K (.ref f18) = true) (A19 : findIn K (.ref cF) "units_with" = some (some (.ref f19))) (S19 : isFn K (.ref f19) = true) (L19 : K.lookup f19 = some ⟨o19, d19, .func (fnOf "units_with" "Frame.units_with" (defArgs sUnitsWith) (defBody sUnitsWith) (defScope sUnitsWith) .none v19 y19 p19 e19 x19 u19), z19⟩) (C19 : codeIn K x19 "Frame.units_with" = true)
    (K19 : keepIn K (.ref f19) = true) (A20 : findIn K (.ref cF) "peers_of" = some (some (.ref f20))) (S20 : isFn K (.ref f20) = true) (L20 : K.lookup f20 = some ⟨o20, d20, .func (fnOf "peers_of" "Frame.peers_of" (defArgs sPeersOf) (defBody sPeersOf) (defScope sPeersOf) .none v20 y20 p20 e20 x20 u20), z20⟩) (C20 : codeIn K x20 "Frame.peers_of" = true)
    (K20 : keepIn K (.ref f20) = true) (A21 : findIn K (.ref cF) "signs_with" = some (some (.ref f21))) (S21 : isFn K (.ref f21) = true) (L21 : K.lookup f21 = some ⟨o21, d21, .func (fnOf "signs_with" "Frame.signs_with" (defArgs sSignsWith) (defBody sSignsWith) (defScope sSignsWith) .none v21 y21 p21 e21 x21 u21), z21⟩) (C21 : codeIn K x21 "Frame.signs_with" = true)
    (K21 : keepIn K (.ref f21) = true) (A22 : findIn K (.ref cF) "cells_of" = some (some (.ref f22))) (S22 : isFn K (.ref f22) = true) (L22 : K.lookup f22 = some ⟨o22, d22, .func (fnOf "cells_of" "Frame.cells_of" (defArgs sCellsOf) (defBody sCellsOf) (defScope sCellsOf) .none v22 y22 p22 e22 x22 u22), z22⟩) (C22 : codeIn K x22 "Frame.cells_of" = true)
    (K22 : keepIn K (.ref f22) = true) (A23 : findIn K (.ref cF) "__init__" = some (some (.ref f23))) (S23 : isFn K (.ref f23) = true) (L23 : K.lookup f23 = some ⟨o23, d23, .func (fnOf "__init__" "Frame.__init__" (defArgs sFrame0) (defBody sFrame0) (defScope sFrame0) .none v23 y23 p23 e23 x23 u23), z23⟩) (C23 : codeIn K x23 "Frame.__init__" = true)
    (K23 : keepIn K (.ref f23) = true) (A24 : findIn K (.ref cP) "__init__" = some (some (.ref f24))) (S24 : isFn K (.ref f24) = true) (L24 : K.lookup f24 = some ⟨o24, d24, .func (fnOf "__init__" "Step.__init__" (defArgs sStep0) (defBody sStep0) (defScope sStep0) .none v24 y24 p24 e24 x24 u24), z24⟩) (C24 : codeIn K x24 "Step.__init__" = true)
    (K24 : keepIn K (.ref f24) = true) (A25 : nsIn K mainGlobals "told" = some (some (.ref f25))) (L25 : K.lookup f25 = some ⟨o25, d25, .func (fnOf "told" "told" (defArgs sTold) (defBody sTold) (defScope sTold) .none v25 y25 p25 e25 x25 u25), z25⟩) (C25 : codeIn K x25 "told" = true) (K25 : keepIn K (.ref f25) = true)
    (A26 : nsIn K mainGlobals "first_settled" = some (some (.ref f26))) (L26 : K.lookup f26 = some ⟨o26, d26, .func (fnOf "first_settled" "first_settled" (defArgs sSettled) (defBody sSettled) (defScope sSettled) .none v26 y26 p26 e26 x26 u26), z26⟩) (C26 : codeIn K x26 "first_settled" = true) (K26 : keepIn K (.ref f26) = true) (A27 : nsIn K mainGlobals "first_only_place" = some (some (.ref f27)))
    (L27 : K.lookup f27 = some ⟨o27, d27, .func (fnOf "first_only_place" "first_only_place" (defArgs sOnly) (defBody sOnly) (defScope sOnly) .none v27 y27 p27 e27 x27 u27), z27⟩) (C27 : codeIn K x27 "first_only_place" = true) (K27 : keepIn K (.ref f27) = true) (A28 : nsIn K mainGlobals "first_sign" = some (some (.ref f28))) (L28 : K.lookup f28 = some ⟨o28, d28, .func (fnOf "first_sign" "first_sign" (defArgs sSign) (defBody sSign) (defScope sSign) .none v28 y28 p28 e28 x28 u28), z28⟩)
    (C28 : codeIn K x28 "first_sign" = true) (K28 : keepIn K (.ref f28) = true) (A29 : nsIn K mainGlobals "first_locked_between" = some (some (.ref f29))) (L29 : K.lookup f29 = some ⟨o29, d29, .func (fnOf "first_locked_between" "first_locked_between" (defArgs sBetween) (defBody sBetween) (defScope sBetween) .none v29 y29 p29 e29 x29 u29), z29⟩) (C29 : codeIn K x29 "first_locked_between" = true)
    (K29 : keepIn K (.ref f29) = true) (A30 : nsIn K mainGlobals "first_locked" = some (some (.ref f30))) (L30 : K.lookup f30 = some ⟨o30, d30, .func (fnOf "first_locked" "first_locked" (defArgs sLocked) (defBody sLocked) (defScope sLocked) .none v30 y30 p30 e30 x30 u30), z30⟩) (C30 : codeIn K x30 "first_locked" = true) (K30 : keepIn K (.ref f30) = true)
    (A31 : nsIn K mainGlobals "first_few_in_unit" = some (some (.ref f31))) (L31 : K.lookup f31 = some ⟨o31, d31, .func (fnOf "first_few_in_unit" "first_few_in_unit" (defArgs sFewIn) (defBody sFewIn) (defScope sFewIn) .none v31 y31 p31 e31 x31 u31), z31⟩) (C31 : codeIn K x31 "first_few_in_unit" = true) (K31 : keepIn K (.ref f31) = true) (A32 : nsIn K mainGlobals "first_few_for_few" = some (some (.ref f32)))
    (L32 : K.lookup f32 = some ⟨o32, d32, .func (fnOf "first_few_for_few" "first_few_for_few" (defArgs sFew) (defBody sFew) (defScope sFew) .none v32 y32 p32 e32 x32 u32), z32⟩) (C32 : codeIn K x32 "first_few_for_few" = true) (K32 : keepIn K (.ref f32) = true) (A33 : findIn K (.ref cT) "strike_here" = some (some (.ref f33))) (S33 : isFn K (.ref f33) = true)
    (L33 : K.lookup f33 = some ⟨o33, d33, .func (fnOf "strike_here" "Trial.strike_here" (defArgs sHere) (defBody sHere) (defScope sHere) .none v33 y33 p33 e33 x33 u33), z33⟩) (C33 : codeIn K x33 "Trial.strike_here" = true) (K33 : keepIn K (.ref f33) = true) (A34 : findIn K (.ref cT) "strike_all" = some (some (.ref f34))) (S34 : isFn K (.ref f34) = true)
    (L34 : K.lookup f34 = some ⟨o34, d34, .func (fnOf "strike_all" "Trial.strike_all" (defArgs sAll) (defBody sAll) (defScope sAll) .none v34 y34 p34 e34 x34 u34), z34⟩) (C34 : codeIn K x34 "Trial.strike_all" = true) (K34 : keepIn K (.ref f34) = true) (A35 : findIn K (.ref cT) "follow" = some (some (.ref f35))) (S35 : isFn K (.ref f35) = true)
    (L35 : K.lookup f35 = some ⟨o35, d35, .func (fnOf "follow" "Trial.follow" (defArgs sFollow) (defBody sFollow) (defScope sFollow) .none v35 y35 p35 e35 x35 u35), z35⟩) (C35 : codeIn K x35 "Trial.follow" = true) (K35 : keepIn K (.ref f35) = true) (A36 : findIn K (.ref cT) "__init__" = some (some (.ref f36))) (S36 : isFn K (.ref f36) = true)
    (L36 : K.lookup f36 = some ⟨o36, d36, .func (fnOf "__init__" "Trial.__init__" (defArgs sTrial0) (defBody sTrial0) (defScope sTrial0) .none v36 y36 p36 e36 x36 u36), z36⟩) (C36 : codeIn K x36 "Trial.__init__" = true) (K36 : keepIn K (.ref f36) = true) (A37 : findIn K (.ref cT) "look_at_cell" = some (some (.ref f37))) (S37 : isFn K (.ref f37) = true)
    (L37 : K.lookup f37 = some ⟨o37, d37, .func (fnOf "look_at_cell" "Trial.look_at_cell" (defArgs sLookC) (defBody sLookC) (defScope sLookC) .none v37 y37 p37 e37 x37 u37), z37⟩) (C37 : codeIn K x37 "Trial.look_at_cell" = true) (K37 : keepIn K (.ref f37) = true) (A38 : findIn K (.ref cT) "look_at_unit" = some (some (.ref f38))) (S38 : isFn K (.ref f38) = true)
    (L38 : K.lookup f38 = some ⟨o38, d38, .func (fnOf "look_at_unit" "Trial.look_at_unit" (defArgs sLookU) (defBody sLookU) (defScope sLookU) .none v38 y38 p38 e38 x38 u38), z38⟩) (C38 : codeIn K x38 "Trial.look_at_unit" = true) (K38 : keepIn K (.ref f38) = true) (A39 : findIn K (.ref cT) "ends_broken" = some (some (.ref f39))) (S39 : isFn K (.ref f39) = true)
    (L39 : K.lookup f39 = some ⟨o39, d39, .func (fnOf "ends_broken" "Trial.ends_broken" (defArgs sEnds) (defBody sEnds) (defScope sEnds) .none v39 y39 p39 e39 x39 u39), z39⟩) (C39 : codeIn K x39 "Trial.ends_broken" = true) (K39 : keepIn K (.ref f39) = true) (A40 : nsIn K mainGlobals "trial_of" = some (some (.ref f40))) (L40 : K.lookup f40 = some ⟨o40, d40, .func (fnOf "trial_of" "trial_of" (defArgs sTrialOf) (defBody sTrialOf) (defScope sTrialOf) .none v40 y40 p40 e40 x40 u40), z40⟩)
    (C40 : codeIn K x40 "trial_of" = true) (K40 : keepIn K (.ref f40) = true) (A41 : nsIn K mainGlobals "first_trial" = some (some (.ref f41))) (L41 : K.lookup f41 = some ⟨o41, d41, .func (fnOf "first_trial" "first_trial" (defArgs sTrial) (defBody sTrial) (defScope sTrial) .none v41 y41 p41 e41 x41 u41), z41⟩) (C41 : codeIn K x41 "first_trial" = true)
    (K41 : keepIn K (.ref f41) = true) (A42 : nsIn K mainGlobals "is_kind" = some (some (.ref f42))) (L42 : K.lookup f42 = some ⟨o42, d42, .func (fnOf "is_kind" "is_kind" (defArgs sKind) (defBody sKind) (defScope sKind) .none v42 y42 p42 e42 x42 u42), z42⟩) (C42 : codeIn K x42 "is_kind" = true) (K42 : keepIn K (.ref f42) = true)
    (A43 : findIn K (.ref cS) "first_step" = some (some (.ref f43))) (S43 : isFn K (.ref f43) = true) (L43 : K.lookup f43 = some ⟨o43, d43, .func (fnOf "first_step" "Square.first_step" (defArgs sFirstStep) (defBody sFirstStep) (defScope sFirstStep) .none v43 y43 p43 e43 x43 u43), z43⟩) (C43 : codeIn K x43 "Square.first_step" = true) (K43 : keepIn K (.ref f43) = true)
    (A44 : findIn K (.ref cS) "make" = some (some (.ref f44))) (S44 : isFn K (.ref f44) = true) (L44 : K.lookup f44 = some ⟨o44, d44, .func (fnOf "make" "Square.make" (defArgs sMake) (defBody sMake) (defScope sMake) .none v44 y44 p44 e44 x44 u44), z44⟩) (C44 : codeIn K x44 "Square.make" = true) (K44 : keepIn K (.ref f44) = true)
    (A45 : findIn K (.ref cS) "end" = some (some (.ref f45))) (S45 : isFn K (.ref f45) = true) (L45 : K.lookup f45 = some ⟨o45, d45, .func (fnOf "end" "Square.end" (defArgs sEnd) (defBody sEnd) (defScope sEnd) .none v45 y45 p45 e45 x45 u45), z45⟩) (C45 : codeIn K x45 "Square.end" = true) (K45 : keepIn K (.ref f45) = true)
    (A46 : findIn K (.ref cS) "cell" = some (some (.ref f46))) (S46 : isFn K (.ref f46) = true) (L46 : K.lookup f46 = some ⟨o46, d46, .func (fnOf "cell" "Square.cell" (defArgs sCell) (defBody sCell) (defScope sCell) .none v46 y46 p46 e46 x46 u46), z46⟩) (C46 : codeIn K x46 "Square.cell" = true) (K46 : keepIn K (.ref f46) = true)
    (A47 : findIn K (.ref cS) "step" = some (some (.ref f47))) (S47 : isFn K (.ref f47) = true) (L47 : K.lookup f47 = some ⟨o47, d47, .func (fnOf "step" "Square.step" (defArgs sStep) (defBody sStep) (defScope sStep) .none v47 y47 p47 e47 x47 u47), z47⟩) (C47 : codeIn K x47 "Square.step" = true) (K47 : keepIn K (.ref f47) = true)
    (A48 : findIn K (.ref cS) "solve" = some (some (.ref f48))) (S48 : isFn K (.ref f48) = true) (L48 : K.lookup f48 = some ⟨o48, d48, .func (fnOf "solve" "Square.solve" (defArgs sSolve) (defBody sSolve) (defScope sSolve) .none v48 y48 p48 e48 x48 u48), z48⟩) (C48 : codeIn K x48 "Square.solve" = true) (K48 : keepIn K (.ref f48) = true)
    (A49 : findIn K (.ref cS) "__init__" = some (some (.ref f49))) (S49 : isFn K (.ref f49) = true) (L49 : K.lookup f49 = some ⟨o49, d49, .func (fnOf "__init__" "Square.__init__" (defArgs sSquare0) (defBody sSquare0) (defScope sSquare0) .none v49 y49 p49 e49 x49 u49), z49⟩) (C49 : codeIn K x49 "Square.__init__" = true) (K49 : keepIn K (.ref f49) = true)
    (A50 : findIn K (.ref cS) "read" = some (some (.ref f50))) (S50 : isFn K (.ref f50) = true) (L50 : K.lookup f50 = some ⟨o50, d50, .func (fnOf "read" "Square.read" (defArgs sRead) (defBody sRead) (defScope sRead) .none v50 y50 p50 e50 x50 u50), z50⟩) (C50 : codeIn K x50 "Square.read" = true) (K50 : keepIn K (.ref f50) = true)
    (A51 : findIn K (.ref cC) "__init__" = some (some (.ref f51))) (S51 : isFn K (.ref f51) = true) (L51 : K.lookup f51 = some ⟨o51, d51, .func (fnOf "__init__" "Calls.__init__" (defArgs sCalls0) (defBody sCalls0) (defScope sCalls0) .none v51 y51 p51 e51 x51 u51), z51⟩) (C51 : codeIn K x51 "Calls.__init__" = true) (K51 : keepIn K (.ref f51) = true)
    (A52 : findIn K (.ref cC) "has_more" = some (some (.ref f52))) (S52 : isFn K (.ref f52) = true) (L52 : K.lookup f52 = some ⟨o52, d52, .func (fnOf "has_more" "Calls.has_more" (defArgs sMore) (defBody sMore) (defScope sMore) .none v52 y52 p52 e52 x52 u52), z52⟩) (C52 : codeIn K x52 "Calls.has_more" = true) (K52 : keepIn K (.ref f52) = true)
    (A53 : findIn K (.ref cC) "take" = some (some (.ref f53))) (S53 : isFn K (.ref f53) = true) (L53 : K.lookup f53 = some ⟨o53, d53, .func (fnOf "take" "Calls.take" (defArgs sTake) (defBody sTake) (defScope sTake) .none v53 y53 p53 e53 x53 u53), z53⟩) (C53 : codeIn K x53 "Calls.take" = true) (K53 : keepIn K (.ref f53) = true)
    (A54 : findIn K (.ref cC) "take_row" = some (some (.ref f54))) (S54 : isFn K (.ref f54) = true) (L54 : K.lookup f54 = some ⟨o54, d54, .func (fnOf "take_row" "Calls.take_row" (defArgs sTakeRow) (defBody sTakeRow) (defScope sTakeRow) .none v54 y54 p54 e54 x54 u54), z54⟩) (C54 : codeIn K x54 "Calls.take_row" = true) (K54 : keepIn K (.ref f54) = true)
    (A55 : nsIn K mainGlobals "answer_of_next" = some (some (.ref f55))) (L55 : K.lookup f55 = some ⟨o55, d55, .func (fnOf "answer_of_next" "answer_of_next" (defArgs sNext) (defBody sNext) (defScope sNext) .none v55 y55 p55 e55 x55 u55), z55⟩) (C55 : codeIn K x55 "answer_of_next" = true) (K55 : keepIn K (.ref f55) = true) (A56 : nsIn K mainGlobals "answers" = some (some (.ref f56)))
    (L56 : K.lookup f56 = some ⟨o56, d56, .func (fnOf "answers" "answers" (defArgs sAnswers) (defBody sAnswers) (defScope sAnswers) .none v56 y56 p56 e56 x56 u56), z56⟩) (C56 : codeIn K x56 "answers" = true) (K56 : keepIn K (.ref f56) = true) (pgB : plainGet K cB Str.empty = true) (hdB : hasDictIn K cB = true)
    (poB : plainOver K cB = true) (saB : findIn K (.ref cB) "__setattr__" = some (some (.builtin "object.__setattr__"))) (mkB : makesIn K cB = true) (kcB : keepIn K (.ref cB) = true) (nB0 : findIn K (.ref cB) "cells" = some none)
    (nB1 : findIn K (.ref cB) "places" = some none) (pgF : plainGet K cF Str.empty = true) (hdF : hasDictIn K cF = true) (poF : plainOver K cF = true) (saF : findIn K (.ref cF) "__setattr__" = some (some (.builtin "object.__setattr__")))
    (mkF : makesIn K cF = true) (kcF : keepIn K (.ref cF) = true) (nF0 : findIn K (.ref cF) "n" = some none) (nF1 : findIn K (.ref cF) "given" = some none) (nF2 : findIn K (.ref cF) "units" = some none)
    (nF3 : findIn K (.ref cF) "signs" = some none) (nF4 : findIn K (.ref cF) "pairs" = some none) (nF5 : findIn K (.ref cF) "triples" = some none) (nF6 : findIn K (.ref cF) "units_of" = some none) (nF7 : findIn K (.ref cF) "peers" = some none)
    (nF8 : findIn K (.ref cF) "signs_at" = some none) (pgT : plainGet K cT Str.empty = true) (hdT : hasDictIn K cT = true) (poT : plainOver K cT = true) (saT : findIn K (.ref cT) "__setattr__" = some (some (.builtin "object.__setattr__")))
    (mkT : makesIn K cT = true) (kcT : keepIn K (.ref cT) = true) (nT0 : findIn K (.ref cT) "frame" = some none) (nT1 : findIn K (.ref cT) "board" = some none) (nT2 : findIn K (.ref cT) "news" = some none)
    (pgP : plainGet K cP Str.empty = true) (hdP : hasDictIn K cP = true) (poP : plainOver K cP = true) (saP : findIn K (.ref cP) "__setattr__" = some (some (.builtin "object.__setattr__"))) (mkP : makesIn K cP = true)
    (kcP : keepIn K (.ref cP) = true) (nP0 : findIn K (.ref cP) "kind" = some none) (nP1 : findIn K (.ref cP) "place" = some none) (nP2 : findIn K (.ref cP) "other" = some none) (nP3 : findIn K (.ref cP) "numbers" = some none)
    (nP4 : findIn K (.ref cP) "strikes" = some none) (pgS : plainGet K cS Str.empty = true) (hdS : hasDictIn K cS = true) (poS : plainOver K cS = true) (saS : findIn K (.ref cS) "__setattr__" = some (some (.builtin "object.__setattr__")))
    (mkS : makesIn K cS = true) (kcS : keepIn K (.ref cS) = true) (nS0 : findIn K (.ref cS) "frame" = some none) (nS1 : findIn K (.ref cS) "board" = some none) (nS2 : findIn K (.ref cS) "trials" = some none)
    (nS3 : findIn K (.ref cS) "quiet" = some none) (pgC : plainGet K cC Str.empty = true) (hdC : hasDictIn K cC = true) (poC : plainOver K cC = true) (saC : findIn K (.ref cC) "__setattr__" = some (some (.builtin "object.__setattr__")))
    (mkC : makesIn K cC = true) (kcC : keepIn K (.ref cC) = true) (nC0 : findIn K (.ref cC) "numbers" = some none) (nC1 : findIn K (.ref cC) "at" = some none) (V0 : nsIn K mainGlobals "NO_REGION" = some (some (.int 255 t0)))
    (V1 : nsIn K mainGlobals "LESS" = some (some (.int 1 t1))) (V2 : nsIn K mainGlobals "RIGHT" = some (some (.int 0 t2))) (V3 : nsIn K mainGlobals "DOWN" = some (some (.int 1 t3))) (V4 : nsIn K mainGlobals "WRONG_NUMBER" = some (some (.int (-22) t4))) (V5 : nsIn K mainGlobals "WRONG_REGIONS" = some (some (.int (-71) t5)))
    (V6 : nsIn K mainGlobals "WRONG_SIGN" = some (some (.int (-72) t6))) (V7 : nsIn K mainGlobals "WRONG_GIVEN" = some (some (.int (-73) t7))) (V8 : nsIn K mainGlobals "SETTLED" = some (some (.int 1 t8))) (V9 : nsIn K mainGlobals "ONLY_PLACE" = some (some (.int 2 t9))) (V10 : nsIn K mainGlobals "SIGN" = some (some (.int 3 t10)))
    (V11 : nsIn K mainGlobals "LOCKED" = some (some (.int 4 t11))) (V12 : nsIn K mainGlobals "FEW_FOR_FEW" = some (some (.int 5 t12))) (V13 : nsIn K mainGlobals "TRIAL" = some (some (.int 6 t13))) (V14 : nsIn K mainGlobals "CELLS_TOLD" = some (some (.int 81 t14))) (V15 : nsIn K mainGlobals "NO_CELL" = some (some (.int (-2) t15)))
    (V16 : nsIn K mainGlobals "BROKEN" = some (some (.int (-33) t16))) (V17 : nsIn K mainGlobals "READ" = some (some (.int 0 t17))) (V18 : nsIn K mainGlobals "STEP" = some (some (.int 1 t18))) (V19 : nsIn K mainGlobals "CELL" = some (some (.int 2 t19))) (V20 : nsIn K mainGlobals "END_OPEN" = some (some (.int 0 t20)))
    (V21 : nsIn K mainGlobals "END_FILLED" = some (some (.int 1 t21))) (V22 : nsIn K mainGlobals "END_BROKEN" = some (some (.int 2 t22))) (M0 : nsIn K mainGlobals "range" = some none) (M1 : nsIn K mainGlobals "len" = some none) (M2 : nsIn K mainGlobals "list" = some none)
    (M3 : nsIn K mainGlobals "enumerate" = some none) (M4 : nsIn K mainGlobals "all" = some none) (M5 : nsIn K mainGlobals "max" = some none) (Af : nsIn K mainGlobals "FINDERS" = some (some (.ref fin))) (Lf : K.lookup fin = some ⟨.type "tuple", odF, .seq #[.ref f26, .ref f27, .ref f28, .ref f30, .ref f32, .ref f41] nF, slF⟩)
    : ∃ fd : FuncData, (∀ (s : Shared) (v : Value), BindsTo s fd ⟨[v], []⟩ [("calls", v)]) ∧ ∀ base : Heap, K.In base → base.Ns mainGlobals mg → FnOk row.prog w K mg base CX0 12 fa fd ["calls"] (spAnswers K) := by
  have e := hfa.symm.trans (mg_of X G A56)
  cases e
  obtain ⟨c, hc⟩ : ∃ c : Cs, c = ⟨cB, cF, cT, cP, cS, cC⟩ := ⟨_, rfl⟩
  obtain rfl : cB = c.B := by rw [hc]
  obtain rfl : cF = c.F := by rw [hc]
  obtain rfl : cT = c.T := by rw [hc]
  obtain rfl : cP = c.P := by rw [hc]
  obtain rfl : cS = c.S := by rw [hc]
  obtain rfl : cC = c.C := by rw [hc]
  have T : Txt K c := ⟨⟨pgB, hdB, poB, saB⟩, nB0, nB1, ⟨pgF, hdF, poF, saF⟩, nF0, nF1, nF2, nF3, nF4, nF5, nF6, nF7, nF8, ⟨pgT, hdT, poT, saT⟩, nT0, nT1, nT2, ⟨pgP, hdP, poP, saP⟩, nP0, nP1, nP2, nP3, nP4, ⟨pgS, hdS, poS, saS⟩, nS0, nS1, nS2, nS3, ⟨pgC, hdC, poC, saC⟩, nC0, nC1⟩
  have F1 := fun_mk (st := sSingle) L1 C1 K1
  have B1 := F1.binds (ps := ["bits"]) fun _ _ _ _ _ _ us hl => match us, hl with | [_], _ => rfl
  have F2 := fun_mk (st := sLeast) L2 C2 K2
  have B2 := F2.binds (ps := ["bits"]) fun _ _ _ _ _ _ us hl => match us, hl with | [_], _ => rfl
  have F3 := fun_mk (st := sGreatest) L3 C3 K3
  have B3 := F3.binds (ps := ["bits"]) fun _ _ _ _ _ _ us hl => match us, hl with | [_], _ => rfl
  have F4 := fun_mk (st := sMembers) L4 C4 K4
  have B4 := F4.binds (ps := ["bits"]) fun _ _ _ _ _ _ us hl => match us, hl with | [_], _ => rfl
  have F5 := fun_mk (st := sSets) L5 C5 K5
  have B5 := F5.binds (ps := ["m", "n"]) fun _ _ _ _ _ _ us hl => match us, hl with | [_, _], _ => rfl
  have F6 := fun_mk (st := sBoard0) L6 C6 K6
  have B6 := F6.binds (ps := ["self", "cells", "places"]) fun _ _ _ _ _ _ us hl => match us, hl with | [_, _, _], _ => rfl
  have F7 := fun_mk (st := sTwin) L7 C7 K7
  have B7 := F7.binds (ps := ["self"]) fun _ _ _ _ _ _ us hl => match us, hl with | [_], _ => rfl
  have F8 := fun_mk (st := sStrike) L8 C8 K8
  have B8 := F8.binds (ps := ["self", "k", "numbers"]) fun _ _ _ _ _ _ us hl => match us, hl with | [_, _, _], _ => rfl
  have F9 := fun_mk (st := sStrikesOf) L9 C9 K9
  have B9 := F9.binds (ps := ["board", "cells", "numbers"]) fun _ _ _ _ _ _ us hl => match us, hl with | [_, _, _], _ => rfl
  have F10 := fun_mk (st := sBySign) L10 C10 K10
  have B10 := F10.binds (ps := ["board", "sign"]) fun _ _ _ _ _ _ us hl => match us, hl with | [_, _], _ => rfl
  have F11 := fun_mk (st := sBroken) L11 C11 K11
  have B11 := F11.binds (ps := ["frame", "board"]) fun _ _ _ _ _ _ us hl => match us, hl with | [_, _], _ => rfl
  have F12 := fun_mk (st := sFirst) L12 C12 K12
  have B12 := F12.binds (ps := ["frame"]) fun _ _ _ _ _ _ us hl => match us, hl with | [_], _ => rfl
  have F13 := fun_mk (st := sRegionsFit) L13 C13 K13
  have B13 := F13.binds (ps := ["n", "regions"]) fun _ _ _ _ _ _ us hl => match us, hl with | [_, _], _ => rfl
  have F14 := fun_mk (st := sSignsFit) L14 C14 K14
  have B14 := F14.binds (ps := ["n", "right", "down"]) fun _ _ _ _ _ _ us hl => match us, hl with | [_, _, _], _ => rfl
  have F15 := fun_mk (st := sRefusal) L15 C15 K15
  have B15 := F15.binds (ps := ["n", "regions", "right", "down", "given"]) fun _ _ _ _ _ _ us hl => match us, hl with | [_, _, _, _, _], _ => rfl
  have F16 := fun_mk (st := sUnits) L16 C16 K16
  have B16 := F16.binds (ps := ["n", "regions"]) fun _ _ _ _ _ _ us hl => match us, hl with | [_, _], _ => rfl
  have F17 := fun_mk (st := sOne) L17 C17 K17
  have B17 := F17.binds (ps := ["k", "direction", "sign", "neighbour"]) fun _ _ _ _ _ _ us hl => match us, hl with | [_, _, _, _], _ => rfl
  have F18 := fun_mk (st := sSigns) L18 C18 K18
  have B18 := F18.binds (ps := ["n", "right", "down"]) fun _ _ _ _ _ _ us hl => match us, hl with | [_, _, _], _ => rfl
  have F19 := fun_mk (st := sUnitsWith) L19 C19 K19
  have B19 := F19.binds (ps := ["self", "k"]) fun _ _ _ _ _ _ us hl => match us, hl with | [_, _], _ => rfl
  have F20 := fun_mk (st := sPeersOf) L20 C20 K20
  have B20 := F20.binds (ps := ["self", "k"]) fun _ _ _ _ _ _ us hl => match us, hl with | [_, _], _ => rfl
  have F21 := fun_mk (st := sSignsWith) L21 C21 K21
  have B21 := F21.binds (ps := ["self", "k"]) fun _ _ _ _ _ _ us hl => match us, hl with | [_, _], _ => rfl
  have F22 := fun_mk (st := sCellsOf) L22 C22 K22
  have B22 := F22.binds (ps := ["self", "u"]) fun _ _ _ _ _ _ us hl => match us, hl with | [_, _], _ => rfl
  have F23 := fun_mk (st := sFrame0) L23 C23 K23
  have B23 := F23.binds (ps := ["self", "n", "regions", "right", "down", "given"]) fun _ _ _ _ _ _ us hl => match us, hl with | [_, _, _, _, _, _], _ => rfl
  have F24 := fun_mk (st := sStep0) L24 C24 K24
  have B24 := F24.binds (ps := ["self", "kind", "place", "other", "numbers", "strikes"]) fun _ _ _ _ _ _ us hl => match us, hl with | [_, _, _, _, _, _], _ => rfl
  have F25 := fun_mk (st := sTold) L25 C25 K25
  have B25 := F25.binds (ps := ["step"]) fun _ _ _ _ _ _ us hl => match us, hl with | [_], _ => rfl
  have F26 := fun_mk (st := sSettled) L26 C26 K26
  have B26 := F26.binds (ps := ["square"]) fun _ _ _ _ _ _ us hl => match us, hl with | [_], _ => rfl
  have F27 := fun_mk (st := sOnly) L27 C27 K27
  have B27 := F27.binds (ps := ["square"]) fun _ _ _ _ _ _ us hl => match us, hl with | [_], _ => rfl
  have F28 := fun_mk (st := sSign) L28 C28 K28
  have B28 := F28.binds (ps := ["square"]) fun _ _ _ _ _ _ us hl => match us, hl with | [_], _ => rfl
  have F29 := fun_mk (st := sBetween) L29 C29 K29
  have B29 := F29.binds (ps := ["square", "u", "w"]) fun _ _ _ _ _ _ us hl => match us, hl with | [_, _, _], _ => rfl
  have F30 := fun_mk (st := sLocked) L30 C30 K30
  have B30 := F30.binds (ps := ["square"]) fun _ _ _ _ _ _ us hl => match us, hl with | [_], _ => rfl
  have F31 := fun_mk (st := sFewIn) L31 C31 K31
  have B31 := F31.binds (ps := ["square", "u", "m", "sets"]) fun _ _ _ _ _ _ us hl => match us, hl with | [_, _, _, _], _ => rfl
  have F32 := fun_mk (st := sFew) L32 C32 K32
  have B32 := F32.binds (ps := ["square"]) fun _ _ _ _ _ _ us hl => match us, hl with | [_], _ => rfl
  have F33 := fun_mk (st := sHere) L33 C33 K33
  have B33 := F33.binds (ps := ["self", "k", "numbers"]) fun _ _ _ _ _ _ us hl => match us, hl with | [_, _, _], _ => rfl
  have F34 := fun_mk (st := sAll) L34 C34 K34
  have B34 := F34.binds (ps := ["self", "strikes"]) fun _ _ _ _ _ _ us hl => match us, hl with | [_, _], _ => rfl
  have F35 := fun_mk (st := sFollow) L35 C35 K35
  have B35 := F35.binds (ps := ["self", "board"]) fun _ _ _ _ _ _ us hl => match us, hl with | [_, _], _ => rfl
  have F36 := fun_mk (st := sTrial0) L36 C36 K36
  have B36 := F36.binds (ps := ["self", "frame", "board", "k", "v"]) fun _ _ _ _ _ _ us hl => match us, hl with | [_, _, _, _, _], _ => rfl
  have F37 := fun_mk (st := sLookC) L37 C37 K37
  have B37 := F37.binds (ps := ["self", "k"]) fun _ _ _ _ _ _ us hl => match us, hl with | [_, _], _ => rfl
  have F38 := fun_mk (st := sLookU) L38 C38 K38
  have B38 := F38.binds (ps := ["self", "u", "v"]) fun _ _ _ _ _ _ us hl => match us, hl with | [_, _, _], _ => rfl
  have F39 := fun_mk (st := sEnds) L39 C39 K39
  have B39 := F39.binds (ps := ["self"]) fun _ _ _ _ _ _ us hl => match us, hl with | [_], _ => rfl
  have F40 := fun_mk (st := sTrialOf) L40 C40 K40
  have B40 := F40.binds (ps := ["square", "k", "v"]) fun _ _ _ _ _ _ us hl => match us, hl with | [_, _, _], _ => rfl
  have F41 := fun_mk (st := sTrial) L41 C41 K41
  have B41 := F41.binds (ps := ["square"]) fun _ _ _ _ _ _ us hl => match us, hl with | [_], _ => rfl
  have F42 := fun_mk (st := sKind) L42 C42 K42
  have B42 := F42.binds (ps := ["hardest"]) fun _ _ _ _ _ _ us hl => match us, hl with | [_], _ => rfl
  have F43 := fun_mk (st := sFirstStep) L43 C43 K43
  have B43 := F43.binds (ps := ["self", "hardest"]) fun _ _ _ _ _ _ us hl => match us, hl with | [_, _], _ => rfl
  have F44 := fun_mk (st := sMake) L44 C44 K44
  have B44 := F44.binds (ps := ["self", "step"]) fun _ _ _ _ _ _ us hl => match us, hl with | [_, _], _ => rfl
  have F45 := fun_mk (st := sEnd) L45 C45 K45
  have B45 := F45.binds (ps := ["self"]) fun _ _ _ _ _ _ us hl => match us, hl with | [_], _ => rfl
  have F46 := fun_mk (st := sCell) L46 C46 K46
  have B46 := F46.binds (ps := ["self", "k"]) fun _ _ _ _ _ _ us hl => match us, hl with | [_, _], _ => rfl
  have F47 := fun_mk (st := sStep) L47 C47 K47
  have B47 := F47.binds (ps := ["self", "hardest"]) fun _ _ _ _ _ _ us hl => match us, hl with | [_, _], _ => rfl
  have F48 := fun_mk (st := sSolve) L48 C48 K48
  have B48 := F48.binds (ps := ["self", "hardest"]) fun _ _ _ _ _ _ us hl => match us, hl with | [_, _], _ => rfl
  have F49 := fun_mk (st := sSquare0) L49 C49 K49
  have B49 := F49.binds (ps := ["self"]) fun _ _ _ _ _ _ us hl => match us, hl with | [_], _ => rfl
  have F50 := fun_mk (st := sRead) L50 C50 K50
  have B50 := F50.binds (ps := ["self", "n", "regions", "right", "down", "given"]) fun _ _ _ _ _ _ us hl => match us, hl with | [_, _, _, _, _, _], _ => rfl
  have F51 := fun_mk (st := sCalls0) L51 C51 K51
  have B51 := F51.binds (ps := ["self", "numbers"]) fun _ _ _ _ _ _ us hl => match us, hl with | [_, _], _ => rfl
  have F52 := fun_mk (st := sMore) L52 C52 K52
  have B52 := F52.binds (ps := ["self"]) fun _ _ _ _ _ _ us hl => match us, hl with | [_], _ => rfl
  have F53 := fun_mk (st := sTake) L53 C53 K53
  have B53 := F53.binds (ps := ["self"]) fun _ _ _ _ _ _ us hl => match us, hl with | [_], _ => rfl
  have F54 := fun_mk (st := sTakeRow) L54 C54 K54
  have B54 := F54.binds (ps := ["self"]) fun _ _ _ _ _ _ us hl => match us, hl with | [_], _ => rfl
  have F55 := fun_mk (st := sNext) L55 C55 K55
  have B55 := F55.binds (ps := ["square", "calls"]) fun _ _ _ _ _ _ us hl => match us, hl with | [_, _], _ => rfl
  have F56 := fun_mk (st := sAnswers) L56 C56 K56
  have I0 : CI mg "NO_REGION" 255 := ⟨_, mg_of X G V0⟩
  have I1 : CI mg "LESS" 1 := ⟨_, mg_of X G V1⟩
  have I2 : CI mg "RIGHT" 0 := ⟨_, mg_of X G V2⟩
  have I3 : CI mg "DOWN" 1 := ⟨_, mg_of X G V3⟩
  have I4 : CI mg "WRONG_NUMBER" (-22) := ⟨_, mg_of X G V4⟩
  have I5 : CI mg "WRONG_REGIONS" (-71) := ⟨_, mg_of X G V5⟩
  have I6 : CI mg "WRONG_SIGN" (-72) := ⟨_, mg_of X G V6⟩
  have I7 : CI mg "WRONG_GIVEN" (-73) := ⟨_, mg_of X G V7⟩
  have I8 : CI mg "SETTLED" 1 := ⟨_, mg_of X G V8⟩
  have I9 : CI mg "ONLY_PLACE" 2 := ⟨_, mg_of X G V9⟩
  have I10 : CI mg "SIGN" 3 := ⟨_, mg_of X G V10⟩
  have I11 : CI mg "LOCKED" 4 := ⟨_, mg_of X G V11⟩
  have I12 : CI mg "FEW_FOR_FEW" 5 := ⟨_, mg_of X G V12⟩
  have I13 : CI mg "TRIAL" 6 := ⟨_, mg_of X G V13⟩
  have I14 : CI mg "CELLS_TOLD" 81 := ⟨_, mg_of X G V14⟩
  have I15 : CI mg "NO_CELL" (-2) := ⟨_, mg_of X G V15⟩
  have I16 : CI mg "BROKEN" (-33) := ⟨_, mg_of X G V16⟩
  have I17 : CI mg "READ" 0 := ⟨_, mg_of X G V17⟩
  have I18 : CI mg "STEP" 1 := ⟨_, mg_of X G V18⟩
  have I19 : CI mg "CELL" 2 := ⟨_, mg_of X G V19⟩
  have I20 : CI mg "END_OPEN" 0 := ⟨_, mg_of X G V20⟩
  have I21 : CI mg "END_FILLED" 1 := ⟨_, mg_of X G V21⟩
  have I22 : CI mg "END_BROKEN" 2 := ⟨_, mg_of X G V22⟩
  have N0 := mg_none_of X G M0
  have N1 := mg_none_of X G M1
  have N2 := mg_none_of X G M2
  have N3 := mg_none_of X G M3
  have N4 := mg_none_of X G M4
  have N5 := mg_none_of X G M5
  have FT : FinT K mg [f26, f27, f28, f30, f32, f41] := ⟨fin, mg_of X G Af, fun H => .inr ⟨_, _, _, Lf, rfl, rfl, (by show 6 ≤ sizeLine; decide), .cons rfl (.cons rfl (.cons rfl (.cons rfl (.cons rfl (.cons rfl .nil)))))⟩⟩
  have f6 : [f26, f27, f28, f30, f32, f41].length = 6 := rfl
  refine ⟨fnOf "answers" "answers" (defArgs sAnswers) (defBody sAnswers) (defScope sAnswers) .none v56 y56 p56 e56 x56 u56, fun s v => .of_eq rfl, fun base _ _ => ?_⟩
  have O1 : GF row.prog w K mg base 1 "is_single" ["bits"] spSingle := ⟨_, _, ok_single F1, mg_of X G A1, K1, B1⟩
  have O2 : GF row.prog w K mg base 1 "least" ["bits"] spLeast := ⟨_, _, ok_least F2, mg_of X G A2, K2, B2⟩
  have O3 : GF row.prog w K mg base 1 "greatest" ["bits"] spGreatest := ⟨_, _, ok_greatest F3, mg_of X G A3, K3, B3⟩
  have O4 : GF row.prog w K mg base 2 "members" ["bits"] spMembers := ⟨_, _, ok_members F4 O2, mg_of X G A4, K4, B4⟩
  have O5 : GF row.prog w K mg base 3 "sets_of" ["m", "n"] spSets := ⟨_, _, ok_sets F5 O4 N0 N1, mg_of X G A5, K5, B5⟩
  have O6 : CF row.prog w K mg base 1 c.B "Board" ["self", "cells", "places"] (spBoard0 c) := ⟨_, _, ok_board0 F6 T, ⟨mkB, A6, S6, kcB⟩, mg_of X G AB, B6⟩
  have O7 : MF row.prog w K mg base 3 c.B "twin" ["self"] (spTwin c) := ⟨_, _, ok_twin F7 T O6 N2, ⟨A7, S7, K7⟩, B7⟩
  have O8 : MF row.prog w K mg base 3 c.B "strike" ["self", "k", "numbers"] (spStrike c) := ⟨_, _, ok_strike F8 T O4, ⟨A8, S8, K8⟩, B8⟩
  have O9 : GF row.prog w K mg base 1 "strikes_of" ["board", "cells", "numbers"] (spStrikesOf c K) := ⟨_, _, ok_strikesOf F9 T, mg_of X G A9, K9, B9⟩
  have O10 : GF row.prog w K mg base 2 "strikes_by_sign" ["board", "sign"] (spBySign c) := ⟨_, _, ok_bySign F10 T O2 O3 O9, mg_of X G A10, K10, B10⟩
  have O11 : GF row.prog w K mg base 1 "is_broken" ["frame", "board"] (spBroken c) := ⟨_, _, ok_broken F11 T N0, mg_of X G A11, K11, B11⟩
  have O12 : GF row.prog w K mg base 3 "board_at_first" ["frame"] (spFirst c) := ⟨_, _, ok_first F12 T O4 O6 N3, mg_of X G A12, K12, B12⟩
  have O13 : GF row.prog w K mg base 1 "regions_fit" ["n", "regions"] (spRegionsFit c) := ⟨_, _, ok_regionsFit F13 I0 N0 N4, mg_of X G A13, K13, B13⟩
  have O14 : GF row.prog w K mg base 1 "signs_fit" ["n", "right", "down"] (spSignsFit c) := ⟨_, _, ok_signsFit F14 N0, mg_of X G A14, K14, B14⟩
  have O15 : GF row.prog w K mg base 2 "refusal" ["n", "regions", "right", "down", "given"] (spRefusal c) := ⟨_, _, ok_refusal F15 O13 O14 I4 I5 I6 I7 N5, mg_of X G A15, K15, B15⟩
  have O16 : GF row.prog w K mg base 1 "units_of_frame" ["n", "regions"] (spUnits c) := ⟨_, _, ok_units F16 I0 N0, mg_of X G A16, K16, B16⟩
  have O17 : GF row.prog w K mg base 1 "one_sign" ["k", "direction", "sign", "neighbour"] spOne := ⟨_, _, ok_one F17 I1, mg_of X G A17, K17, B17⟩
  have O18 : GF row.prog w K mg base 2 "signs_of_frame" ["n", "right", "down"] spSigns := ⟨_, _, ok_signs F18 O17 I2 I3 N0, mg_of X G A18, K18, B18⟩
  have O19 : MF row.prog w K mg base 1 c.F "units_with" ["self", "k"] (spUnitsWith c) := ⟨_, _, ok_unitsWith F19 T N3, ⟨A19, S19, K19⟩, B19⟩
  have O20 : MF row.prog w K mg base 1 c.F "peers_of" ["self", "k"] (spPeers c) := ⟨_, _, ok_peers F20 T, ⟨A20, S20, K20⟩, B20⟩
  have O21 : MF row.prog w K mg base 1 c.F "signs_with" ["self", "k"] (spSignsWith c) := ⟨_, _, ok_signsWith F21 T, ⟨A21, S21, K21⟩, B21⟩
  have O22 : MF row.prog w K mg base 3 c.F "cells_of" ["self", "u"] (spCellsOf c) := ⟨_, _, ok_cellsOf F22 T O4, ⟨A22, S22, K22⟩, B22⟩
  have O23 : CF row.prog w K mg base 4 c.F "Frame" ["self", "n", "regions", "right", "down", "given"] (spFrame0 c) := ⟨_, _, ok_frame0 F23 T O16 O18 O5 O19 O20 O21 N0 N2, ⟨mkF, A23, S23, kcF⟩, mg_of X G AF, B23⟩
  have O24 : CF row.prog w K mg base 1 c.P "Step" ["self", "kind", "place", "other", "numbers", "strikes"] (spStep0 c) := ⟨_, _, ok_step0 F24 T, ⟨mkP, A24, S24, kcP⟩, mg_of X G AP, B24⟩
  have O25 : GF row.prog w K mg base 1 "told" ["step"] (spTold c) := ⟨_, _, ok_told F25 T I14, mg_of X G A25, K25, B25⟩
  have O29 : GF row.prog w K mg base 3 "first_locked_between" ["square", "u", "w"] (spBetween c) := ⟨_, _, ok_between F29 T O4 O9 O24 I11 N0, mg_of X G A29, K29, B29⟩
  have O31 : GF row.prog w K mg base 4 "first_few_in_unit" ["square", "u", "m", "sets"] (spFewIn c) := ⟨_, _, ok_fewIn F31 T O22 O9 O24 I12 N1, mg_of X G A31, K31, B31⟩
  have O33 : MF row.prog w K mg base 4 c.T "strike_here" ["self", "k", "numbers"] (spHere c) := ⟨_, _, ok_here F33 T O8, ⟨A33, S33, K33⟩, B33⟩
  have O34 : MF row.prog w K mg base 5 c.T "strike_all" ["self", "strikes"] (spAll c) := ⟨_, _, ok_all F34 T O33, ⟨A34, S34, K34⟩, B34⟩
  have O35 : MF row.prog w K mg base 5 c.T "follow" ["self", "board"] (spFollow c) := ⟨_, _, ok_follow F35 T O33 N3, ⟨A35, S35, K35⟩, B35⟩
  have O36 : CF row.prog w K mg base 5 c.T "Trial" ["self", "frame", "board", "k", "v"] (spTrial0 c) := ⟨_, _, ok_trial0 F36 T O7 O33, ⟨mkT, A36, S36, kcT⟩, mg_of X G AT, B36⟩
  have O37 : MF row.prog w K mg base 6 c.T "look_at_cell" ["self", "k"] (spLookC c) := ⟨_, _, ok_lookC F37 T O1 O2 O4 O9 O10 O34, ⟨A37, S37, K37⟩, B37⟩
  have O38 : MF row.prog w K mg base 6 c.T "look_at_unit" ["self", "u", "v"] (spLookU c) := ⟨_, _, ok_lookU F38 T O1 O2 O4 O9 O33 O34, ⟨A38, S38, K38⟩, B38⟩
  have O39 : MF row.prog w K mg base 7 c.T "ends_broken" ["self"] (spEnds c) := ⟨_, _, ok_ends F39 T O4 O37 O38, ⟨A39, S39, K39⟩, B39⟩
  have O40 : GF row.prog w K mg base 7 "trial_of" ["square", "k", "v"] (spTrialOf c) := ⟨_, _, ok_trialOf F40 T O36 O35, mg_of X G A40, K40, B40⟩
  have hf : ∀ i a, [f26, f27, f28, f30, f32, f41][i]? = some a → ∃ fn, Kgi2.kinds[i]? = some fn ∧ VF row.prog w K mg base 8 ["square"] a (spF c i fn) := by
    intro i a h
    match i, h with
    | 0, h => cases h; exact ⟨_, rfl, _, ((ok_settled F26 T O1 O2 O4 O9 O24 I8 N3).imp spF_of).mono (by decide), K26, B26⟩
    | 1, h => cases h; exact ⟨_, rfl, _, ((ok_only F27 T O1 O4 O9 O24 I9 N3 N0).imp spF_of).mono (by decide), K27, B27⟩
    | 2, h => cases h; exact ⟨_, rfl, _, ((ok_sign F28 T O10 O24 I10).imp spF_of).mono (by decide), K28, B28⟩
    | 3, h => cases h; exact ⟨_, rfl, _, ((ok_locked F30 T O29 N3).imp spF_of).mono (by decide), K30, B30⟩
    | 4, h => cases h; exact ⟨_, rfl, _, ((ok_few F32 T O31 N0 N1).imp spF_of).mono (by decide), K32, B32⟩
    | 5, h => cases h; exact ⟨_, rfl, _, ok_trial F41 T O1 O4 O40 O39 O24 I13 N3, K41, B41⟩
    | n + 6, h => simp at h
  have O42 : GF row.prog w K mg base 1 "is_kind" ["hardest"] spKind := ⟨_, _, ok_kind F42 FT f6 N1, mg_of X G A42, K42, B42⟩
  have O43 : MF row.prog w K mg base 9 c.S "first_step" ["self", "hardest"] (spFirstStep c) := ⟨_, _, ok_firstStep F43 T FT f6 hf N0, ⟨A43, S43, K43⟩, B43⟩
  have O44 : MF row.prog w K mg base 4 c.S "make" ["self", "step"] (spMake c) := ⟨_, _, ok_make F44 T O8, ⟨A44, S44, K44⟩, B44⟩
  have O45 : MF row.prog w K mg base 2 c.S "end" ["self"] (spEnd c) := ⟨_, _, ok_end F45 T O11 O1 N4 I20 I21 I22, ⟨A45, S45, K45⟩, B45⟩
  have O46 : MF row.prog w K mg base 1 c.S "cell" ["self", "k"] (spMeth c 2) := ⟨_, _, ok_cell F46 T N1 I15, ⟨A46, S46, K46⟩, B46⟩
  have O47 : MF row.prog w K mg base 10 c.S "step" ["self", "hardest"] (spMeth c 1) := ⟨_, _, ok_step F47 T O42 O11 O43 O44 O25 I4 I16, ⟨A47, S47, K47⟩, B47⟩
  have O48 : MF row.prog w K mg base 10 c.S "solve" ["self", "hardest"] (spMeth c 3) := ⟨_, _, ok_solve F48 T O42 O11 O43 O44 O45 I4 N5, ⟨A48, S48, K48⟩, B48⟩
  have O49 : CF row.prog w K mg base 1 c.S "Square" ["self"] (spSq0 c) := ⟨_, _, ok_square0 F49 T, ⟨mkS, A49, S49, kcS⟩, mg_of X G AS, B49⟩
  have O50 : MF row.prog w K mg base 6 c.S "read" ["self", "n", "regions", "right", "down", "given"] (spRead c) := ⟨_, _, ok_read F50 T O15 O23 O12, ⟨A50, S50, K50⟩, B50⟩
  have O51 : CF row.prog w K mg base 1 c.C "Calls" ["self", "numbers"] (spCalls0 c) := ⟨_, _, ok_calls0 F51 T, ⟨mkC, A51, S51, kcC⟩, mg_of X G AC, B51⟩
  have O52 : MF row.prog w K mg base 1 c.C "has_more" ["self"] (spMore c K) := ⟨_, _, ok_more F52 T N1, ⟨A52, S52, K52⟩, B52⟩
  have O53 : MF row.prog w K mg base 1 c.C "take" ["self"] (spTake c K) := ⟨_, _, ok_take F53 T, ⟨A53, S53, K53⟩, B53⟩
  have O54 : MF row.prog w K mg base 2 c.C "take_row" ["self"] (spTakeRow c K) := ⟨_, _, ok_takeRow F54 T O53, ⟨A54, S54, K54⟩, B54⟩
  have O55 : GF row.prog w K mg base 11 "answer_of_next" ["square", "calls"] (spNext c K) := ⟨_, _, ok_next F55 T O53 O54 O50 O47 O46 O48 I17 I18 I19, mg_of X G A55, K55, B55⟩
  exact ok_answers F56 T O49 O51 O52 O55 N1
end Py
namespace PySem.W.Fast
def tw17899481121436577570 : Nat := 0
def tw196155303951751465 : Nat := 0
def tw8929843184192601571 : Nat := 0
def tw846186227581439000 : Nat := 0
def tw80260432623692346 : Nat := 0
def tw4146839632775095530 : Nat := 0
def tw5574842155151080236 : Nat := 0
def tw234944384100163486 : Nat := 0
def tw620141268029275790 : Nat := 0
def tw12476918525719495255 : Nat := 0
def tw5324504019002061909 : Nat := 0
def tw18153781191562445521 : Nat := 0
def tw9520518300498479701 : Nat := 0
def tw842027404306120435 : Nat := 0
def tw245952656469723516 : Nat := 0
def tw9460376945907256740 : Nat := 0
def tw9243595110717443578 : Nat := 0
def tw3905191995563935656 : Nat := 0
def tw6567611887279694932 : Nat := 0
def tw7461458786371674661 : Nat := 0
def tw2882998357397522743 : Nat := 0
def tw214001830812009119 : Nat := 0
def tw13703513879704461004 : Nat := 0
def tw11909720075048039606 : Nat := 0
def tw8087627115610331919 : Nat := 0
def tw15215540352046035454 : Nat := 0
def tw6187090779114142227 : Nat := 0
def tw16485168922334531542 : Nat := 0
def tw17184013698517737085 : Nat := 0
def tw5856169682897882616 : Nat := 0
def tw6074903942732025913 : Nat := 0
def tw11699578963294639118 : Nat := 0
def tw10201075941259743931 : Nat := 0
def tw15234941698436270247 : Nat := 0
def tw12280396222919634042 : Nat := 0
def tw6834687430359139339 : Nat := 0
def tw5148380709880817734 : Nat := 0
def tw2611651619851928 : Nat := 0
def tw16231055060841793000 : Nat := 0
def tw8210929343058609888 : Nat := 0
def tw5449667747144836004 : Nat := 0
def tw11948258210685449859 : Nat := 0
def tw7997936956035190570 : Nat := 0
def tw16457323087234031947 : Nat := 0
def tw163423684162701917 : Nat := 0
def tw8243807757733344796 : Nat := 0
def tw15480980886594773062 : Nat := 0
def tw3819396803298283066 : Nat := 0
def tw5192286383211067848 : Nat := 0
def tw12822998996268042343 : Nat := 0
def tw156320804532891456 : Nat := 0
def tw12071542511138906658 : Nat := 0
def tw9673527943392975984 : Nat := 0
def tw15695637898264822548 : Nat := 0
def tw16028768549175011252 : Nat := 0
def tw6979432832017016229 : Nat := 0
def tw11094699897200599851 : Nat := 0
def tw4683365333285512289 : Nat := 0
def tw16635874919824330010 : Nat := 0
def tw5636946317612033543 : Nat := 0
def tw15250162157098133959 : Nat := 0
def tw13515583348335749658 : Nat := 0
def tw4781305229690182871 : Nat := 0
def tw6239498411614771109 : Nat := 0
def tw13897948084097490908 : Nat := 0
def tw8898421065864681342 : Nat := 0
def tw3415783187087438471 : Nat := 0
def tw1159084702382129508 : Nat := 0
def tw17132475702365432817 : Nat := 0
def tw14817662051868578459 : Nat := 0
def tw9461587068247544643 : Nat := 0
def tw18090281452128518528 : Nat := 0
def tw3724010939630858076 : Nat := 0
def tw8653401068637344026 : Nat := 0
def tw11503331178397861640 : Nat := 0
end PySem.W.Fast
open PySem PySem.W PyProof.Rows
set_option maxRecDepth 100000 in
set_option maxHeartbeats 0 in
theorem PySem.Challenge.cw_strikesquare_s01_answers_holds : PySem.Challenge.rw_strikesquare_s01_answers.Holds := by
  w_on; k_headS; (case hw => exact ⟨[.list [.int 0, .int 0, .int 0, .int 0, .int 0, .int 0]], by decide +kernel, by decide +kernel⟩)
  k_fillS
  refine Py.walk_spec (k := 12) (x := "calls") (sp := fun K => Py.spAnswers K) (by decide +kernel) rfl ⟨rfl, by decide, by decide⟩ (fun w h Y => PySem.W.kIn_of Y) ?F (fun K H a ns _ _ ask o hS => ⟨a, ns, rfl, ask, Py.ScL.of o hS, fun l H' e => ⟨l, rfl, e⟩⟩)
  case F =>
    intro w mg fa h KX G hmg
    refine' Py.all_mk KX G hmg ?AB ?AF ?AT ?AP ?AS ?AC ?A1 ?L1 ?C1 ?K1 ?A2 ?L2 ?C2 ?K2 ?A3 ?L3 ?C3 ?K3 ?A4 ?L4 ?C4 ?K4 ?A5 ?L5 ?C5 ?K5 ?A6 ?S6 ?L6 ?C6 ?K6 ?A7 ?S7 ?L7 ?C7 ?K7 ?A8 ?S8 ?L8 ?C8 ?K8 ?A9 ?L9 ?C9 ?K9 ?A10 ?L10 ?C10 ?K10 ?A11 ?L11 ?C11 ?K11 ?A12 ?L12 ?C12 ?K12 ?A13 ?L13 ?C13 ?K13 ?A14 ?L14 ?C14 ?K14 ?A15 ?L15 ?C15 ?K15 ?A16 ?L16 ?C16 ?K16 ?A17 ?L17 ?C17 ?K17 ?A18 ?L18 ?C18 ?K18 ?A19 ?S19 ?L19 ?C19 ?K19 ?A20 ?S20 ?L20 ?C20 ?K20 ?A21 ?S21 ?L21 ?C21 ?K21 ?A22 ?S22 ?L22 ?C22 ?K22 ?A23 ?S23 ?L23 ?C23 ?K23 ?A24 ?S24 ?L24 ?C24 ?K24 ?A25 ?L25 ?C25 ?K25 ?A26 ?L26 ?C26 ?K26 ?A27 ?L27 ?C27 ?K27 ?A28 ?L28 ?C28 ?K28 ?A29 ?L29 ?C29 ?K29 ?A30 ?L30 ?C30 ?K30 ?A31 ?L31 ?C31 ?K31 ?A32 ?L32 ?C32 ?K32 ?A33 ?S33 ?L33 ?C33 ?K33 ?A34 ?S34 ?L34 ?C34 ?K34 ?A35 ?S35 ?L35 ?C35 ?K35 ?A36 ?S36 ?L36 ?C36 ?K36 ?A37 ?S37 ?L37 ?C37 ?K37 ?A38 ?S38 ?L38 ?C38 ?K38 ?A39 ?S39 ?L39 ?C39 ?K39 ?A40 ?L40 ?C40 ?K40 ?A41 ?L41 ?C41 ?K41 ?A42 ?L42 ?C42 ?K42 ?A43 ?S43 ?L43 ?C43 ?K43 ?A44 ?S44 ?L44 ?C44 ?K44 ?A45 ?S45 ?L45 ?C45 ?K45 ?A46 ?S46 ?L46 ?C46 ?K46 ?A47 ?S47 ?L47 ?C47 ?K47 ?A48 ?S48 ?L48 ?C48 ?K48 ?A49 ?S49 ?L49 ?C49 ?K49 ?A50 ?S50 ?L50 ?C50 ?K50 ?A51 ?S51 ?L51 ?C51 ?K51 ?A52 ?S52 ?L52 ?C52 ?K52 ?A53 ?S53 ?L53 ?C53 ?K53 ?A54 ?S54 ?L54 ?C54 ?K54 ?A55 ?L55 ?C55 ?K55 ?A56 ?L56 ?C56 ?K56 ?pgB ?hdB ?poB ?saB ?mkB ?kcB ?nB0 ?nB1 ?pgF ?hdF ?poF ?saF ?mkF ?kcF ?nF0 ?nF1 ?nF2 ?nF3 ?nF4 ?nF5 ?nF6 ?nF7 ?nF8 ?pgT ?hdT ?poT ?saT ?mkT ?kcT ?nT0 ?nT1 ?nT2 ?pgP ?hdP ?poP ?saP ?mkP ?kcP ?nP0 ?nP1 ?nP2 ?nP3 ?nP4 ?pgS ?hdS ?poS ?saS ?mkS ?kcS ?nS0 ?nS1 ?nS2 ?nS3 ?pgC ?hdC ?poC ?saC ?mkC ?kcC ?nC0 ?nC1 ?V0 ?V1 ?V2 ?V3 ?V4 ?V5 ?V6 ?V7 ?V8 ?V9 ?V10 ?V11 ?V12 ?V13 ?V14 ?V15 ?V16 ?V17 ?V18 ?V19 ?V20 ?V21 ?V22 ?M0 ?M1 ?M2 ?M3 ?M4 ?M5 ?Af ?Lf
    (case AB | AF | AT | AP | AS | AC | A1 | L1 | C1 | K1 | A2 | L2 | C2 | K2 | A3 | L3 | C3 | K3 | A4 | L4 | C4 | K4 | A5 | L5 | C5 | K5 | A6 | S6 | L6 | C6 | K6 | A7 | S7 | L7 | C7 | K7 | A8 | S8 | L8 | C8 => k_is)
    (case K8 | A9 | L9 | C9 | K9 | A10 | L10 | C10 | K10 | A11 | L11 | C11 | K11 | A12 | L12 | C12 | K12 | A13 | L13 | C13 | K13 | A14 | L14 | C14 | K14 | A15 | L15 | C15 | K15 | A16 | L16 | C16 | K16 | A17 | L17 | C17 | K17 | A18 | L18 | C18 => k_is)
    (case K18 | A19 | S19 | L19 | C19 | K19 | A20 | S20 | L20 | C20 | K20 | A21 | S21 | L21 | C21 | K21 | A22 | S22 | L22 | C22 | K22 | A23 | S23 | L23 | C23 | K23 | A24 | S24 | L24 | C24 | K24 | A25 | L25 | C25 | K25 | A26 | L26 | C26 | K26 | A27 => k_is)
    (case L27 | C27 | K27 | A28 | L28 | C28 | K28 | A29 | L29 | C29 | K29 | A30 | L30 | C30 | K30 | A31 | L31 | C31 | K31 | A32 | L32 | C32 | K32 | A33 | S33 | L33 | C33 | K33 | A34 | S34 | L34 | C34 | K34 | A35 | S35 | L35 | C35 | K35 | A36 | S36 => k_is)
    (case L36 | C36 | K36 | A37 | S37 | L37 | C37 | K37 | A38 | S38 | L38 | C38 | K38 | A39 | S39 | L39 | C39 | K39 | A40 | L40 | C40 | K40 | A41 | L41 | C41 | K41 | A42 | L42 | C42 | K42 | A43 | S43 | L43 | C43 | K43 | A44 | S44 | L44 | C44 | K44 => k_is)
    (case A45 | S45 | L45 | C45 | K45 | A46 | S46 | L46 | C46 | K46 | A47 | S47 | L47 | C47 | K47 | A48 | S48 | L48 | C48 | K48 | A49 | S49 | L49 | C49 | K49 | A50 | S50 | L50 | C50 | K50 | A51 | S51 | L51 | C51 | K51 | A52 | S52 | L52 | C52 | K52 => k_is)
    (case A53 | S53 | L53 | C53 | K53 | A54 | S54 | L54 | C54 | K54 | A55 | L55 | C55 | K55 | A56 | L56 | C56 | K56 | pgB | hdB | poB | saB | mkB | kcB | nB0 | nB1 | pgF | hdF | poF | saF | mkF | kcF | nF0 | nF1 | nF2 | nF3 | nF4 | nF5 | nF6 | nF7 => k_is)
    (case nF8 | pgT | hdT | poT | saT | mkT | kcT | nT0 | nT1 | nT2 | pgP | hdP | poP | saP | mkP | kcP | nP0 | nP1 | nP2 | nP3 | nP4 | pgS | hdS | poS | saS | mkS | kcS | nS0 | nS1 | nS2 | nS3 | pgC | hdC | poC | saC | mkC | kcC | nC0 | nC1 | V0 => k_is)
    (case V1 | V2 | V3 | V4 | V5 | V6 | V7 | V8 | V9 | V10 | V11 | V12 | V13 | V14 | V15 | V16 | V17 | V18 | V19 | V20 | V21 | V22 | M0 | M1 | M2 | M3 | M4 | M5 | Af | Lf => k_is)
