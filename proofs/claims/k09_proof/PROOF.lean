import PyProof.Rows.All
import Wide.All
import OpenK.AllK
import Wide.FinOn
import PyProof.EqAt
import PyProof.EqKinds
import PyProof.TupleCall
import PyProof.Rows.MinMaxN
import KE.KMinKey
import PyProof.ExcArgs
import Lean
import PySem.Challenge.RW_makeyard_k09_by_hand
set_option Elab.async false
set_option linter.all false
set_option maxRecDepth 100000
namespace L2
open PySem PySem.Spec PyProof.Rows
abbrev Key := Sum Int Str
def keyIs : Key → Value → Bool
  | .inl k, v => Value.isInt k v
  | .inr x, v => Value.isStrOf x v
def keyH (w : World) : Key → Int
  | .inl k => hashInt k
  | .inr x => hashStr w x
theorem keyIs_shape : ∀ {k : Key} {v : Value}, keyIs k v = true → (∃ i t, k = Sum.inl i ∧ v = Value.int i t) ∨ (∃ x t, k = Sum.inr x ∧ v = Value.str x t)
  | .inl i, v, h => by
    obtain ⟨t, e⟩ := Value.isInt_shape (k := i) (v := v) h
    exact .inl ⟨i, t, rfl, e⟩
  | .inr x, v, h => by
    obtain ⟨t, e⟩ := Value.isStrOf_shape (x := x) (v := v) h
    exact .inr ⟨x, t, rfl, e⟩
theorem keyIs_int (i : Int) (t : Tok) : keyIs (.inl i) (.int i t) = true := by simp [keyIs, Value.isInt]
theorem keyIs_str (x : Str) (t : Tok) : keyIs (.inr x) (.str x t) = true := by simp [keyIs, Value.isStrOf]
theorem key_ll (a b : Int) : decide ((Sum.inl a : Key) = Sum.inl b) = (a == b) := by
  by_cases e : a = b
  · subst e; simp
  · have h : ¬ (Sum.inl a : Key) = Sum.inl b := fun q => e (Sum.inl.inj q)
    rw [decide_eq_false h]
    exact (beq_eq_false_iff_ne.mpr e).symm
theorem key_rr (a b : Str) : decide ((Sum.inr a : Key) = Sum.inr b) = decide (a = b) := by
  by_cases e : a = b
  · subst e; simp
  · have h : ¬ (Sum.inr a : Key) = Sum.inr b := fun q => e (Sum.inr.inj q)
    rw [decide_eq_false h, decide_eq_false e]
theorem key_lr (a : Int) (b : Str) : decide ((Sum.inl a : Key) = Sum.inr b) = false := decide_eq_false (fun q => nomatch q)
theorem key_rl (a : Str) (b : Int) : decide ((Sum.inr a : Key) = Sum.inl b) = false := decide_eq_false (fun q => nomatch q)
def mixKind (prog : Program) (w : World) : PySem.KeyKind prog w Key where
  is := keyIs
  hash := keyH w
  inj := fun v a b ha hb => by
    rcases keyIs_shape ha with ⟨i, t, rfl, rfl⟩ | ⟨x, t, rfl, rfl⟩
    · rcases keyIs_shape hb with ⟨j, u, rfl, e⟩ | ⟨y, u, rfl, e⟩
      · injection e with e1 _; rw [e1]
      · exact nomatch e
    · rcases keyIs_shape hb with ⟨j, u, rfl, e⟩ | ⟨y, u, rfl, e⟩
      · exact nomatch e
      · injection e with e1 _; rw [e1]
  byValue := fun k v h => by
    rcases keyIs_shape h with ⟨i, t, rfl, rfl⟩ | ⟨x, t, rfl, rfl⟩ <;> rfl
  pyHash := fun hv h => by
    rcases keyIs_shape hv with ⟨i, t, rfl, rfl⟩ | ⟨x, t, rfl, rfl⟩
    · exact wpAny_pyHash_int h
    · exact wpAny_pyHash_str h
  eqBool := fun hu hv h => by
    rcases keyIs_shape hu with ⟨i, t, rfl, rfl⟩ | ⟨x, t, rfl, rfl⟩
    · rcases keyIs_shape hv with ⟨j, u, rfl, rfl⟩ | ⟨y, u, rfl, rfl⟩
      · rw [key_ll] at h; exact wpAny_eqBool_int h
      · rw [key_lr] at h; exact SeqAt.EqAt.int_str i t y u _ _ _ _ h
    · rcases keyIs_shape hv with ⟨j, u, rfl, rfl⟩ | ⟨y, u, rfl, rfl⟩
      · rw [key_rl] at h; exact SeqAt.EqAt.str_int x t j u _ _ _ _ h
      · rw [key_rr] at h; exact wpAny_eqBool_str h
  «strs» := fun k x t v h => by
    rcases keyIs_shape h with ⟨i, u, rfl, e⟩ | ⟨y, u, rfl, e⟩
    · exact nomatch e
    · injection e with e1 _
      subst e1
      cases v <;> rfl
theorem mixKind_int (prog : Program) (w : World) (i : Int) (t : Tok) : (mixKind prog w).is (.inl i) (.int i t) = true := keyIs_int i t
theorem mixKind_str (prog : Program) (w : World) (x : Str) (t : Tok) : (mixKind prog w).is (.inr x) (.str x t) = true := keyIs_str x t
end L2
namespace L2
open PySem PySem.Spec PyProof.Rows
inductive V where
  | non | bl (b : Bool) | int (i : Int) | str (x : Str) | byt (b : Array UInt8) | flt (b : UInt64) | ref (a : Addr) | ty (n : String)
  deriving DecidableEq
def RelV : V → Value → Prop
  | .non, u => u = Value.none
  | .bl b, u => u = Value.bool b
  | .int i, u => ∃ t, u = Value.int i t
  | .str x, u => ∃ t, u = Value.str x t
  | .byt b, u => ∃ t, u = Value.bytes b t
  | .flt b, u => ∃ t, u = Value.float b t
  | .ref a, u => u = Value.ref a
  | .ty n, u => u = Value.type n
abbrev Vals : List V → List Value → Prop := Paired RelV
theorem Vals.length {xs : List V} {us : List Value} (r : Vals xs us) : xs.length = us.length := Paired.length r
theorem Vals.get : ∀ {xs : List V} {us : List Value} {i : Nat} {x : V}, Vals xs us → xs[i]? = some x → ∃ u, us[i]? = some u ∧ RelV x u
  | _, _, _, _, .nil, e => by simp at e
  | _, _, 0, _, .cons r _, e => by simp at e; subst e; exact ⟨_, rfl, r⟩
  | _, _, i + 1, x, .cons _ t, e => by
    obtain ⟨u, h1, h2⟩ := Vals.get (i := i) (x := x) t (by simpa using e)
    exact ⟨u, by simpa using h1, h2⟩
theorem Vals.set {x : V} {u : Value} (r : RelV x u) : ∀ {xs : List V} {us : List Value} (i : Nat), Vals xs us → Vals (xs.set i x) (us.set i u)
  | _, _, _, .nil => .nil
  | _, _, 0, .cons _ t => .cons r t
  | _, _, i + 1, .cons q t => .cons q (Vals.set r i t)
theorem Vals.append : ∀ {xs ys : List V} {us ws : List Value}, Vals xs us → Vals ys ws → Vals (xs ++ ys) (us ++ ws)
  | _, _, _, _, .nil, s => s
  | _, _, _, _, .cons r t, s => .cons r (Vals.append t s)
theorem Vals.take : ∀ {xs : List V} {us : List Value} (n : Nat), Vals xs us → Vals (xs.take n) (us.take n)
  | _, _, 0, _ => .nil
  | _, _, _ + 1, .nil => .nil
  | _, _, n + 1, .cons r t => .cons r (Vals.take n t)
theorem Vals.drop : ∀ {xs : List V} {us : List Value} (n : Nat), Vals xs us → Vals (xs.drop n) (us.drop n)
  | _, _, 0, r => r
  | _, _, _ + 1, .nil => .nil
  | _, _, n + 1, .cons _ t => Vals.drop n t
theorem Vals.none_of : ∀ {xs : List V} {us : List Value} {i : Nat}, Vals xs us → xs[i]? = none → us[i]? = none := fun {xs us i} r e => by
  have h1 := r.length
  have h2 : xs.length ≤ i := List.getElem?_eq_none_iff.mp e
  exact List.getElem?_eq_none_iff.mpr (by omega)
def RelO : Option V → Option Value → Prop
  | some v, some u => RelV v u
  | none, none => True
  | _, _ => False
def KV {κ : Type} : List (κ × V) → List (κ × Value) → Prop := Paired fun (p : κ × V) (q : κ × Value) => p.1 = q.1 ∧ RelV p.2 q.2
def kV : Key → V
  | .inl i => .int i
  | .inr x => .str x
inductive HO where
  | lst (xs : List V)
  | tup (xs : List V)
  | dK (kvs : List (Key × V)) | dT (kvs : List (List Key × V))
  | set (S : Int → Bool) (n : Nat)
  | ins (C dx : Addr) (fs : List (Str × V))
  | own (x : Addr)
  | xd (fs : List (Str × V))
  | met (f x : Addr)
  | rng (lo hi : Int)
  | frz (o : Obj) (u : HO)
  | tbl (ps : Array Value)
  | ext (φ : Heap → Prop)
abbrev Hp := Addr → Option HO
def upd (H : Hp) (a : Addr) (o : HO) : Hp := fun b => if b = a then some o else H b
theorem upd_same {H : Hp} {a : Addr} {o : HO} : upd H a o a = some o := by unfold upd; rw [if_pos rfl]
theorem upd_ne {H : Hp} {a b : Addr} {o : HO} (h : b ≠ a) : upd H a o b = H b := by unfold upd; rw [if_neg h]
theorem upd_upd {H : Hp} {a : Addr} {o u : HO} : upd (upd H a o) a u = upd H a u := by
  funext b; unfold upd; split <;> rfl
theorem ne_of {H : Hp} {a b : Addr} {o u : HO} (h : H a = some o) (h' : H b = some u) (d : o ≠ u) : a ≠ b := by
  intro e; subst e; rw [h] at h'; exact d (Option.some.inj h')
theorem ne_of_none {H : Hp} {a b : Addr} {o : HO} (h : H a = some o) (h' : H b = none) : a ≠ b := by
  intro e; subst e; rw [h] at h'; cases h'
section
variable (P : Program) (w : World)
def ObjOk (H : Hp) (h : Heap) (a : Addr) : HO → Prop
  | .lst xs => xs.length ≤ sizeLine ∧ ∃ (its : List Value) (n : Nat), Vals xs its ∧ h.get? a = some { cls := .type "list", data := .seq its.toArray n }
  | .tup xs => xs.length ≤ sizeLine ∧ ∃ its : List Value, Vals xs its ∧ IsTup h a its.toArray
  | .dK kvs => kvs.length ≤ sizeLine ∧ (a == sysModules) = false ∧ ∃ vs, KV kvs vs ∧ h.DictOf (mixKind P w) a vs
  | .dT kvs => kvs.length ≤ sizeLine ∧ (a == sysModules) = false ∧ ∃ xs : List (List Key × Addr × Value),
      Paired (fun (p : List Key × V) (q : List Key × Addr × Value) => p.1 = q.1 ∧ H q.2.1 = some (.tup (p.1.map kV)) ∧ RelV p.2 q.2.2) kvs xs ∧
      ∃ o es ep, h.get? a = some o ∧ o.ExactDict ∧ o.data = .dict es ep ∧ es.toList = xs.map (entryOfKey (tupleKind (mixKind P w))) ∧ (xs.map (·.1)).Nodup
  | .set S n => h.SetOf (intKind P w) a S n
  | .ins C dx fs => H dx = some (.own a) ∧ fs.length ≤ 1000 ∧ dx ≠ a ∧ h.get? a = some (PySem.W.instObj C dx) ∧
      ∃ mA, h.Ns1 dx mA ∧ (∀ f, RelO (fs.lookup f) (mA f)) ∧ PySem.Within mA (fs.map (·.1))
  | .own _ => ∃ o, h.get? a = some o
  | .xd fs => ∃ mA, h.Ns1 a mA ∧ ∀ f, RelO (fs.lookup f) (mA f)
  | .rng lo hi => ∃ t u v, h.get? a = some { cls := .type "range", data := .fields #[.int lo t, .int hi u, .int 1 v] }
  | .frz o u => h.get? a = some o ∧ ObjOk H h a u
  | .tbl ps => h.get? a = some { cls := .none, data := .fields ps }
  | .met f x => h.get? a = some (PySem.W.methodObj (.ref f) (.ref x))
  | .ext φ => φ h ∧ (∃ o, h.get? a = some o) ∧ ∀ h1 h2 : Heap, φ h1 → (∀ o, h1.get? a = some o → h2.get? a = some o) → φ h2
def HOk (H : Hp) (h : Heap) : Prop := ∀ a o, H a = some o → ObjOk P w H h a o
end
section
variable {P : Program} {w : World} {H H' : Hp} {h h' : Heap} {a : Addr} {o : HO}
theorem ObjOk.lt (x : ObjOk P w H h a o) : a < h.objs.size := by
  cases o with
  | lst xs => obtain ⟨_, _, _, _, e⟩ := x; exact Heap.lt_size e
  | tup xs => obtain ⟨_, _, _, p⟩ := x; exact p.lt
  | dK kvs => obtain ⟨_, _, _, _, o, _, _, e, _⟩ := x; exact Heap.lt_size e
  | dT kvs => obtain ⟨_, _, _, _, o, _, _, e, _⟩ := x; exact Heap.lt_size e
  | set S n => obtain ⟨o, _, _, _, e, _⟩ := x; exact Heap.lt_size e
  | ins C dx fs => obtain ⟨_, _, _, e, _⟩ := x; exact Heap.lt_size e
  | own y => obtain ⟨_, e⟩ := x; exact Heap.lt_size e
  | xd fs => obtain ⟨_, ⟨_, _, _, e, _⟩, _⟩ := x; exact Heap.lt_size e
  | rng lo hi => obtain ⟨_, _, _, e⟩ := x; exact Heap.lt_size e
  | frz ob u => obtain ⟨e, _⟩ := x; exact Heap.lt_size e
  | tbl ps => exact Heap.lt_size (show h.get? a = some _ from x)
  | met f y => exact Heap.lt_size (show h.get? a = some _ from x)
  | ext φ => obtain ⟨_, ⟨_, e⟩, _⟩ := x; exact Heap.lt_size e
theorem Paired.mapP {α β : Type} {F G : α → β → Prop} : ∀ {l₁ : List α} {l₂ : List β}, Paired F l₁ l₂ → (∀ a b, F a b → G a b) → Paired G l₁ l₂
  | _, _, .nil, _ => .nil
  | _, _, .cons r t, f => .cons (f _ _ r) (Paired.mapP t f)
theorem ObjOk.stay (x : ObjOk P w H h a o) (k : ∀ b u, (b = a ∨ H b = some (.own a)) → h.get? b = some u → h'.get? b = some u)
    (ho : ∀ b, H b = some (.own a) → H' b = some (.own a)) (ht : ∀ b xs, H b = some (.tup xs) → H' b = some (.tup xs)) : ObjOk P w H' h' a o := by
  induction o with
  | lst xs => obtain ⟨z, its, n, r, e⟩ := x; exact ⟨z, its, n, r, k _ _ (.inl rfl) e⟩
  | tup xs => obtain ⟨z, its, r, ob, e, c⟩ := x; exact ⟨z, its, r, ob, k _ _ (.inl rfl) e, c⟩
  | dK kvs => obtain ⟨z, y, vs, r, ob, es, ep, e, c⟩ := x; exact ⟨z, y, vs, r, ob, es, ep, k _ _ (.inl rfl) e, c⟩
  | dT kvs =>
    obtain ⟨z, y, xs, r, ob, es, ep, e, c⟩ := x
    exact ⟨z, y, xs, Paired.mapP r fun p q z => ⟨z.1, ht _ _ z.2.1, z.2.2⟩, ob, es, ep, k _ _ (.inl rfl) e, c⟩
  | set S n => obtain ⟨ob, es, ep, t, e, c⟩ := x; exact ⟨ob, es, ep, t, k _ _ (.inl rfl) e, c⟩
  | ins C dx fs =>
    obtain ⟨d, z, ne, e, mA, ⟨od, es, ep, e2, c⟩, r⟩ := x
    exact ⟨ho _ d, z, ne, k _ _ (.inl rfl) e, mA, ⟨od, es, ep, k _ _ (.inr d) e2, c⟩, r⟩
  | own y => obtain ⟨ob, e⟩ := x; exact ⟨ob, k _ _ (.inl rfl) e⟩
  | xd fs => obtain ⟨mA, ⟨od, es, ep, e, c⟩, r⟩ := x; exact ⟨mA, ⟨od, es, ep, k _ _ (.inl rfl) e, c⟩, r⟩
  | rng lo hi => obtain ⟨t, u, v, e⟩ := x; exact ⟨t, u, v, k _ _ (.inl rfl) e⟩
  | frz ob u ih => obtain ⟨e, q⟩ := x; exact ⟨k _ _ (.inl rfl) e, ih q⟩
  | tbl ps =>
    have e : h.get? a = some { cls := .none, data := .fields ps } := x
    show h'.get? a = some { cls := .none, data := .fields ps }
    exact k a _ (.inl rfl) e
  | met f y =>
    have e : h.get? a = some (PySem.W.methodObj (.ref f) (.ref y)) := x
    show h'.get? a = some (PySem.W.methodObj (.ref f) (.ref y))
    exact k a _ (.inl rfl) e
  | ext φ => obtain ⟨p, ⟨o, e⟩, st⟩ := x; exact ⟨st _ _ p fun o q => k _ _ (.inl rfl) q, ⟨o, k _ _ (.inl rfl) e⟩, st⟩
theorem HOk.lt (x : HOk P w H h) (e : H a = some o) : a < h.objs.size := (x a o e).lt
theorem HOk.fresh (x : HOk P w H h) (e : h.objs.size ≤ a) : H a = none := by
  cases q : H a with
  | none => rfl
  | some u => exact absurd (Nat.lt_of_lt_of_le (x.lt q) e) (Nat.lt_irrefl _)
theorem HOk.kept (x : HOk P w H h) (k : ∀ b u, h.get? b = some u → h'.get? b = some u) : HOk P w H h' := fun a o e =>
  (x a o e).stay (fun b u _ q => k b u q) (fun _ q => q) fun _ _ q => q
theorem HOk.laid (x : HOk P w H h) (k : ∀ b u, h.get? b = some u → h'.get? b = some u) (hp : h.objs.size ≤ a) (new : ObjOk P w (upd H a o) h' a o) : HOk P w (upd H a o) h' := fun b u e => by
  have hn := x.fresh hp
  by_cases hb : b = a
  · subst hb; rw [upd_same] at e; cases e; exact new
  · rw [upd_ne hb] at e
    exact (x b u e).stay (fun c v _ q => k c v q) (fun c q => by rw [upd_ne (ne_of_none q hn)]; exact q) fun c xs q => by rw [upd_ne (ne_of_none q hn)]; exact q
end
def Rd (H : Hp) (a : Addr) (u : HO) : Prop := H a = some u ∨ ∃ o, H a = some (.frz o u)
theorem Rd.of {H : Hp} {a : Addr} {u : HO} (h : H a = some u) : Rd H a u := .inl h
theorem Rd.ok {P : Program} {w : World} {H : Hp} {h : Heap} {a : Addr} {u : HO} (r : Rd H a u) (x : HOk P w H h) : ObjOk P w H h a u := by
  rcases r with r | ⟨o, r⟩
  · exact x a u r
  · obtain ⟨_, q⟩ := x a _ r
    exact q
def Mut : Option HO → Prop
  | some (.lst _) => True
  | some (.dK _) => True
  | some (.dT _) => True
  | some (.set _ _) => True
  | some (.ins _ _ _) => True
  | some (.ext _) => True
  | _ => False
section
variable {P : Program} {w : World} {H : Hp} {h h' : Heap} {x e : Addr} {o' : HO}
theorem HOk.write (ok : HOk P w H h) (mu : Mut (H x)) (he : e = x ∨ H e = some (.own x)) (k : ∀ b u, b ≠ e → h.get? b = some u → h'.get? b = some u) (heo : ∃ u, h'.get? e = some u)
    (new : ObjOk P w (upd H x o') h' x o') : HOk P w (upd H x o') h' := fun b u q => by
  have nown : ∀ c y, H c = some (.own y) → c ≠ x := fun c y r z => by subst z; rw [r] at mu; exact mu
  have ntup : ∀ c xs, H c = some (.tup xs) → c ≠ x := fun c xs r z => by subst z; rw [r] at mu; exact mu
  by_cases hb : b = x
  · subst hb; rw [upd_same] at q; cases q; exact new
  · rw [upd_ne hb] at q
    by_cases hbe : b = e
    · have q' : H b = some (.own x) := by
        rcases he with z | z
        · exact absurd (hbe.trans z) hb
        · rw [hbe]; exact z
      rw [q] at q'; cases q'
      obtain ⟨v, hv⟩ := heo
      exact ⟨v, by rw [hbe]; exact hv⟩
    · refine (ok b u q).stay (fun c v hc r => k c v ?_ r) (fun c r => by rw [upd_ne (nown c b r)]; exact r) fun c xs r => by rw [upd_ne (ntup c xs r)]; exact r
      rcases hc with rfl | hc
      · exact hbe
      · rintro rfl
        rcases he with z | z
        · exact nown c b hc z
        · rw [hc] at z; cases z; exact hb rfl
end
structure Un (fs ex : List Addr) (H H' : Hp) (h h' : Heap) : Prop where
  keep : ∀ b o, h.get? b = some o → H b = none → b ∉ fs → b ∉ ex → h'.get? b = some o
  slot : ∀ b o, h.get? b = some o → H b = none → b ∈ fs → b ∉ ex → ∃ sl, h'.get? b = some { o with slots := sl }
  free : ∀ b o, h.get? b = some o → H b = none → b ∉ ex → H' b = none
  there : ∀ b o, h.get? b = some o → b ∉ ex → ∃ o', h'.get? b = some o'
  tups : ∀ b xs, H b = some (.tup xs) → H' b = some (.tup xs)
  frzs : ∀ b o u, H b = some (.frz o u) → H' b = some (.frz o u)
  tbls : ∀ b ps, H b = some (.tbl ps) → ∃ more, H' b = some (.tbl (ps ++ more))
section
variable {fs fs' ex ex' : List Addr} {H H1 H2 : Hp} {h h1 h2 h' : Heap} {a x e : Addr} {o : HO}
theorem Un.any (u : Un fs ex H H1 h h1) {b : Addr} {ob : Obj} (q : h.get? b = some ob) (n : H b = none) (hx : b ∉ ex) : ∃ sl, h1.get? b = some { ob with slots := sl } := by
  by_cases hb : b ∈ fs
  · exact u.slot b ob q n hb hx
  · exact ⟨ob.slots, u.keep b ob q n hb hx⟩
theorem Un.trans (a : Un fs ex H H1 h h1) (b : Un fs ex H1 H2 h1 h2) : Un fs ex H H2 h h2 where
  keep := fun c ob q n hc hx => b.keep c ob (a.keep c ob q n hc hx) (a.free c ob q n hx) hc hx
  slot := fun c ob q n hc hx => by
    obtain ⟨sl, e1⟩ := a.slot c ob q n hc hx
    obtain ⟨sl', e2⟩ := b.slot c _ e1 (a.free c ob q n hx) hc hx
    exact ⟨sl', e2⟩
  free := fun c ob q n hx => by
    obtain ⟨o', e1⟩ := a.there c ob q hx
    exact b.free c o' e1 (a.free c ob q n hx) hx
  there := fun c ob q hx => by
    obtain ⟨o', e1⟩ := a.there c ob q hx
    exact b.there c o' e1 hx
  tups := fun c xs q => b.tups c xs (a.tups c xs q)
  frzs := fun c ob xs q => b.frzs c ob xs (a.frzs c ob xs q)
  tbls := fun c ps q => by
    obtain ⟨m1, e1⟩ := a.tbls c ps q
    obtain ⟨m2, e2⟩ := b.tbls c _ e1
    exact ⟨m1 ++ m2, by rw [e2, Array.append_assoc]⟩
theorem Un.kept (k : ∀ b u, h.get? b = some u → h'.get? b = some u) : Un fs ex H H h h' :=
  ⟨fun b ob q _ _ _ => k b ob q, fun b ob q _ _ _ => ⟨ob.slots, k b ob q⟩, fun _ _ _ n _ => n, fun b ob q _ => ⟨ob, k b ob q⟩, fun _ _ q => q, fun _ _ _ q => q, fun _ ps q => ⟨#[], by rw [q]; simp⟩⟩
theorem Un.refl : Un fs ex H H h h := Un.kept fun _ _ q => q
theorem Un.laid (k : ∀ b u, h.get? b = some u → h'.get? b = some u) (hp : h.objs.size ≤ a) (hn : H a = none) : Un fs ex H (upd H a o) h h' where
  keep := fun b u q _ _ _ => k b u q
  slot := fun b u q _ _ _ => ⟨u.slots, k b u q⟩
  free := fun b u q n _ => by rw [upd_ne (Nat.ne_of_lt (Nat.lt_of_lt_of_le (Heap.lt_size q) hp))]; exact n
  there := fun b u q _ => ⟨u, k b u q⟩
  tups := fun b xs q => by rw [upd_ne (ne_of_none q hn)]; exact q
  frzs := fun b u xs q => by rw [upd_ne (ne_of_none q hn)]; exact q
  tbls := fun b ps q => ⟨#[], by rw [upd_ne (ne_of_none q hn), q]; simp⟩
theorem Un.write (mu : Mut (H x)) (he : e = x ∨ H e = some (.own x)) (k : ∀ b u, b ≠ e → h.get? b = some u → h'.get? b = some u) (heo : ∃ u, h'.get? e = some u) : Un fs ex H (upd H x o) h h' := by
  have hx : ∀ b, H b = none → b ≠ x := fun b n z => by subst z; rw [n] at mu; exact mu
  have hb : ∀ b, H b = none → b ≠ e := fun b n z => by
    subst z
    rcases he with r | r
    · exact hx b n r
    · rw [n] at r; cases r
  have hm : ∀ b u, H b = some u → ¬ Mut (some u) → b ≠ x := fun b u q nm z => by subst z; rw [q] at mu; exact nm mu
  refine ⟨fun b u q n _ _ => k b u (hb b n) q, fun b u q n _ _ => ⟨u.slots, k b u (hb b n) q⟩, fun b u q n _ => by rw [upd_ne (hx b n)]; exact n, fun b u q _ => ?_,
    fun b xs q => by rw [upd_ne (hm b _ q fun z => z)]; exact q, fun b u xs q => by rw [upd_ne (hm b _ q fun z => z)]; exact q, fun b ps q => ⟨#[], by rw [upd_ne (hm b _ q fun z => z), q]; simp⟩⟩
  by_cases hbe : b = e
  · subst hbe; exact heo
  · exact ⟨u, k b u hbe q⟩
theorem Un.mono (u : Un fs ex H H1 h h1) (hs : ∀ b ∈ fs, b ∈ fs') (hx : ∀ b ∈ ex, b ∈ ex') : Un fs' ex' H H1 h h1 :=
  ⟨fun b ob q n hb he => u.keep b ob q n (fun z => hb (hs b z)) fun z => he (hx b z), fun _ _ q n _ he => u.any q n fun z => he (hx _ z), fun b ob q n he => u.free b ob q n fun z => he (hx b z), fun b ob q he => u.there b ob q fun z => he (hx b z), u.tups, u.frzs, u.tbls⟩
end
def trk (h : Heap) (H : Hp) : List Addr := (List.range h.objs.size).filter fun a => (H a).isSome
def hidT (h : Heap) (H : Hp) : Heap := PySem.W.hideAll h (trk h H)
theorem hidT_size (h : Heap) (H : Hp) : (hidT h H).objs.size = h.objs.size := PySem.W.hideAll_size _ _
theorem hidT_get {h : Heap} {H : Hp} {b : Addr} {o : Obj} (e : h.get? b = some o) (n : H b = none) : (hidT h H).get? b = some o :=
  PySem.W.hideAll_get _ e fun hm => by
    have q : (H b).isSome = true := (List.mem_filter.mp hm).2
    rw [n] at q; simp at q
theorem of_hidT {h : Heap} {H : Hp} {b : Addr} {o : Obj} (e : (hidT h H).get? b = some o) : h.get? b = some o ∧ H b = none := by
  have e' : h.get? b = some o := PySem.W.of_hideAll (trk h H) e
  refine ⟨e', ?_⟩
  cases q : H b with
  | none => rfl
  | some x =>
    have hm : b ∈ trk h H := List.mem_filter.mpr ⟨List.mem_range.mpr (Heap.lt_size e'), by simp [q]⟩
    have z : (hidT h H).get? b = none := PySem.W.hideAll_none (trk h H) hm
    rw [z] at e; cases e
def allNews (g h : Heap) (L : Addr) : List (Addr × Obj) := (List.range h.objs.size).filterMap fun a => if a = L ∨ (g.get? a).isSome = true then none else (h.get? a).map fun o => (a, o)
def rest (g h : Heap) (L d : Addr) : List (Addr × Obj) := (allNews g h L).filter fun p => decide (p.1 ≠ d)
end L2
namespace L2
open PySem PySem.Spec PyProof.Rows
structure Mod (K : PySem.W.Frag) (mg : Str → Option Value) (base : Heap) : Prop where
  kin : K.In base
  glob : base.Ns mainGlobals mg
  blt : ∃ mb, base.Ns builtinsNs mb ∧ ∀ x : Str, x ≠ "__name__" → mb x = bootBuiltins x
  nolimit : base.NoLimit
structure Cx where
  prog : Program
  w : World
  K : PySem.W.Frag
  mg : Str → Option Value
  base : Heap
  A : Around
  N : List Str
  s₀ : Shared
  H₀ : Hp
  env : Env
  outer : List Env
  stack : List Env
  ex : List Addr
  fn : Str → Bool
  calm : Bool
  pn : List (Addr × Obj)
  xe : Value → Shared → Prop
def frs (l : List Env) : List Addr := l.filterMap (·.frame)
abbrev Cx.fs (X : Cx) : List Addr := frs X.outer
def Vis (sc : Scope) (x : Str) : Prop := sc.names.lookup x = some .local ∨ sc.names.lookup x = some .cell ∨ sc.names.lookup x = some .free
def Loc (sc : Scope) (x : Str) : Prop := sc.names.lookup x = some .local ∨ sc.names.lookup x = some .cell
def Look (env : Env) (h : Heap) (m : Str → Option Value) (x : Str) (u : Value) : Prop :=
  (env.kindOf x = some .local ∧ m x = some u) ∨ ((env.kindOf x = some .cell ∨ env.kindOf x = some .free) ∧ ∃ c, env.cells.lookup x = some c ∧ h.IsCell c (some u))
structure Cx.Ok (X : Cx) : Prop where
  mod : Mod X.K X.mg X.base
  kind : X.env.scope.kind = .function
  glob : X.env.globals = mainGlobals
  blt : X.env.builtins = builtinsNs
  above : X.s₀.heap.objs.size ≤ X.env.locals
  inj : ∀ x y c, X.env.cells.lookup x = some c → X.env.cells.lookup y = some c → x = y
  has : ∀ x, (X.env.kindOf x = some .cell ∨ X.env.kindOf x = some .free) → ∃ c, X.env.cells.lookup x = some c
  cab : ∀ x c, X.fn x = true → X.env.cells.lookup x = some c → X.s₀.heap.objs.size ≤ c
  hd : X.calm = true → X.A.handled = none
  frames : X.A.frames = some X.stack
  stk : X.stack = X.outer ∨ (X.stack = X.env :: X.outer ∧ X.env.frame = some X.env.locals)
  exf : ∀ b ∈ X.ex, b ≠ X.env.locals ∧ ∀ x c, X.env.cells.lookup x = some c → c ≠ b
  bs : ∀ b o, X.base.get? b = some o → X.s₀.heap.get? b = some o ∧ X.H₀ b = none
  bsz : X.base.objs.size ≤ X.s₀.heap.objs.size
  noex : ∀ b o, X.base.get? b = some o → b ∉ X.ex
  exfs : ∀ b ∈ X.ex, b ∉ X.fs
  funs : X.s₀.heap.FunFrames X.base X.outer
  frf : ∀ b ∈ X.fs, X.H₀ b = none
structure Inv (X : Cx) (pins : List (Addr × Obj)) (σ : List (Option V)) (H : Hp) (s : Shared) : Prop where
  ok : X.Ok
  os : s.os = X.s₀.os
  bare : AllBare s.gens
  base : Un X.fs X.ex X.H₀ H X.s₀.heap s.heap
  loc : ∃ m, s.heap.Ns X.env.locals m ∧ ∀ (i : Nat) (x : Str) (v : V), X.N[i]? = some x → σ[i]? = some (some v) → Vis X.env.scope x → ∃ u, RelV v u ∧ Look X.env s.heap m x u
  cell : ∀ x c, X.env.cells.lookup x = some c → ∃ v, s.heap.IsCell c v
  free : H X.env.locals = none
  freeC : ∀ x c, X.env.cells.lookup x = some c → H c = none
  pin : ∀ p ∈ X.pn ++ pins, s.heap.get? p.1 = some p.2 ∧ H p.1 = none ∧ p.1 ≠ X.env.locals ∧ p.1 ∉ X.fs ∧ ∀ v, p.2.data ≠ .cell v
  hok : HOk X.prog X.w H s.heap
  len : σ.length = X.N.length
section
variable {X : Cx} {pins : List (Addr × Obj)} {σ : List (Option V)} {H H' : Hp} {s : Shared} {h' : Heap}
theorem Cx.Ok.nofr (ok : X.Ok) {b : Addr} {o : Obj} (e : X.base.get? b = some o) : b ∉ X.fs := fun hb => by
  have := (ok.funs.mem hb).1
  rw [e] at this; cases this
theorem Inv.bs (I : Inv X pins σ H s) : ∀ b o, X.base.get? b = some o → s.heap.get? b = some o ∧ H b = none := fun b o e =>
  ⟨I.base.keep b o (I.ok.bs b o e).1 (I.ok.bs b o e).2 (I.ok.nofr e) (I.ok.noex b o e), I.base.free b o (I.ok.bs b o e).1 (I.ok.bs b o e).2 (I.ok.noex b o e)⟩
theorem Inv.bk (I : Inv X pins σ H s) : ∀ b o, X.base.get? b = some o → s.heap.get? b = some o := fun b o e => (I.bs b o e).1
theorem Inv.mod (I : Inv X pins σ H s) : Mod X.K X.mg X.base := I.ok.mod
theorem Inv.kIn (I : Inv X pins σ H s) : X.K.In s.heap := I.ok.mod.kin.keeps I.bk
theorem Inv.nolimit (I : Inv X pins σ H s) : s.heap.NoLimit := I.ok.mod.nolimit.keeps I.bk
theorem Inv.fr (I : Inv X pins σ H s) : ∃ m, Fr X.base X.env.locals s.heap m :=
  let ⟨m, hn, _⟩ := I.loc
  ⟨m, hn, I.bk, Nat.le_trans I.ok.bsz I.ok.above⟩
theorem Inv.lt (I : Inv X pins σ H s) : X.env.locals < s.heap.objs.size := let ⟨_, hn, _⟩ := I.loc; hn.lt
theorem Inv.sz (I : Inv X pins σ H s) : X.s₀.heap.objs.size ≤ s.heap.objs.size := Nat.le_trans I.ok.above (Nat.le_of_lt I.lt)
theorem Inv.nofs (I : Inv X pins σ H s) {a : Addr} (h : s.heap.objs.size ≤ a) : a ∉ X.fs := fun hb => by
  obtain ⟨_, o, ho, _⟩ := I.ok.funs.mem hb
  exact absurd (Nat.lt_of_lt_of_le (Heap.lt_size ho) (Nat.le_trans I.sz h)) (Nat.lt_irrefl _)
theorem Inv.cne (I : Inv X pins σ H s) : ∀ x c, X.env.cells.lookup x = some c → c ≠ X.env.locals := fun x c e z => by
  obtain ⟨v, o, ho, hd⟩ := I.cell x c e
  obtain ⟨m, ⟨o', es, ep, ho', hd', _⟩, _⟩ := I.loc
  rw [z, ho'] at ho; cases ho; rw [hd'] at hd; cases hd
theorem Inv.funs (I : Inv X pins σ H s) : s.heap.FunFrames X.base X.outer := by
  have all : ∀ (l : List Env), (∀ b ∈ frs l, b ∈ X.fs) → X.s₀.heap.FunFrames X.base l → s.heap.FunFrames X.base l := by
    intro l
    induction l with
    | nil => intro _ _; trivial
    | cons env r ih =>
      intro hs hl
      obtain ⟨hk, ⟨L, o, hf, hn, ho, hd⟩, hr⟩ := hl
      have hL : L ∈ X.fs := hs L (by unfold frs; rw [List.filterMap_cons, hf]; exact List.mem_cons_self)
      obtain ⟨sl, e⟩ := I.base.slot L o ho (I.ok.frf L hL) hL fun z => I.ok.exfs L z hL
      exact ⟨hk, ⟨L, _, hf, hn, e, hd⟩, ih (fun b hb => hs b (by unfold frs; rw [List.filterMap_cons, hf]; exact List.mem_cons_of_mem _ hb)) hr⟩
  exact all X.outer (fun _ hb => hb) I.ok.funs
theorem Inv.stack (I : Inv X pins σ H s) : s.heap.FunFrames X.base X.stack := by
  rcases I.ok.stk with e | ⟨e, hf⟩
  · rw [e]; exact I.funs
  · rw [e]
    obtain ⟨m, hn, _⟩ := I.loc
    refine .cons (by rw [I.ok.kind]; decide) hf hn ?_ I.funs
    exact Heap.get?_none_of_le (Nat.le_trans I.ok.bsz I.ok.above)
theorem Inv.stkSub (I : Inv X pins σ H s) : ∀ b ∈ frs X.stack, b ∈ X.env.locals :: X.fs := fun b hb => by
  rcases I.ok.stk with e | ⟨e, hf⟩
  · rw [e] at hb; exact List.mem_cons_of_mem _ hb
  · rw [e] at hb
    unfold frs at hb
    rw [List.filterMap_cons, hf] at hb
    exact hb
theorem Inv.stkFree (I : Inv X pins σ H s) : ∀ b ∈ frs X.stack, H b = none := fun b hb => by
  rcases List.mem_cons.mp (I.stkSub b hb) with e | hb
  · rw [e]; exact I.free
  · obtain ⟨_, o, ho, _⟩ := I.ok.funs.mem hb
    exact I.base.free b o ho (I.ok.frf b hb) fun z => I.ok.exfs b z hb
theorem Inv.step {g' : Array GenState} {t' : Nat} {d' : Drawn} {ch : List Addr} (I : Inv X pins σ H s)
    (hch : ∀ b ∈ ch, (b ∈ X.ex ∨ X.s₀.heap.objs.size ≤ b) ∧ b ≠ X.env.locals ∧ (∀ x c, X.env.cells.lookup x = some c → c ≠ b) ∧ ∀ p ∈ X.pn ++ pins, p.1 ≠ b)
    (keep : ∀ b o, b ≠ X.env.locals → b ∉ X.fs → b ∉ ch → s.heap.get? b = some o → H b = none → h'.get? b = some o)
    (slot : ∀ b o, b ≠ X.env.locals → b ∈ X.fs → b ∉ ch → s.heap.get? b = some o → H b = none → ∃ sl, h'.get? b = some { o with slots := sl }) (free : ∀ b o, b ∉ ch → s.heap.get? b = some o → H b = none → H' b = none)
    (there : ∀ b o, b ∉ ch → s.heap.get? b = some o → ∃ o', h'.get? b = some o')
    (tups : ∀ b xs, H b = some (.tup xs) → H' b = some (.tup xs)) (frzs : ∀ b o u, H b = some (.frz o u) → H' b = some (.frz o u)) (tbls : ∀ b ps, H b = some (.tbl ps) → ∃ more, H' b = some (.tbl (ps ++ more)))
    (ns : ∀ m, s.heap.Ns X.env.locals m → h'.Ns X.env.locals m) (hok : HOk X.prog X.w H' h') (hg : AllBare g') :
    Inv X pins σ H' { s with heap := h', gens := g', drawn := d', toks := t' } := by
  have neL : ∀ b o, X.s₀.heap.get? b = some o → b ≠ X.env.locals := fun b o e => Nat.ne_of_lt (Nat.lt_of_lt_of_le (Heap.lt_size e) I.ok.above)
  have neC : ∀ b o, X.s₀.heap.get? b = some o → b ∉ X.ex → b ∉ ch := fun b o e hx hb => by
    rcases (hch b hb).1 with z | z
    · exact hx z
    · exact absurd (Nat.lt_of_lt_of_le (Heap.lt_size e) z) (Nat.lt_irrefl _)
  have cellK : ∀ x c, X.env.cells.lookup x = some c → ∀ v, s.heap.IsCell c v → h'.IsCell c v := fun x c e v ⟨o, ho, hd⟩ => by
    have nch : c ∉ ch := fun z => (hch c z).2.2.1 x c e rfl
    by_cases hc : c ∈ X.fs
    · obtain ⟨sl, q⟩ := slot c o (I.cne x c e) hc nch ho (I.freeC x c e)
      exact ⟨_, q, hd⟩
    · exact ⟨o, keep c o (I.cne x c e) hc nch ho (I.freeC x c e), hd⟩
  refine ⟨I.ok, I.os, hg, ⟨fun b o e n hb hx => ?_, fun b o e n hb hx => ?_, fun b o e n hx => ?_, fun b o e hx => ?_, fun b xs e => tups b xs (I.base.tups b xs e), fun b o xs e => frzs b o xs (I.base.frzs b o xs e), fun b ps e => ?_⟩, ?_, fun x c e => ?_, ?_, fun x c e => ?_, fun p hp => ?_, hok, I.len⟩
  · exact keep b o (neL b o e) hb (neC b o e hx) (I.base.keep b o e n hb hx) (I.base.free b o e n hx)
  · obtain ⟨sl, e1⟩ := I.base.slot b o e n hb hx
    obtain ⟨sl', e2⟩ := slot b _ (neL b o e) hb (neC b o e hx) e1 (I.base.free b o e n hx)
    exact ⟨sl', e2⟩
  · obtain ⟨o', e1⟩ := I.base.there b o e hx
    exact free b o' (neC b o e hx) e1 (I.base.free b o e n hx)
  · obtain ⟨o', e1⟩ := I.base.there b o e hx
    exact there b o' (neC b o e hx) e1
  · obtain ⟨m1, e1⟩ := I.base.tbls b ps e
    obtain ⟨m2, e2⟩ := tbls b _ e1
    exact ⟨m1 ++ m2, by rw [e2, Array.append_assoc]⟩
  · obtain ⟨m, hn, hl⟩ := I.loc
    refine ⟨m, ns m hn, fun i x v e1 e2 e3 => ?_⟩
    obtain ⟨u, r, l⟩ := hl i x v e1 e2 e3
    refine ⟨u, r, ?_⟩
    rcases l with l | ⟨k, c, e, z⟩
    · exact .inl l
    · exact .inr ⟨k, c, e, cellK x c e _ z⟩
  · obtain ⟨v, z⟩ := I.cell x c e
    exact ⟨v, cellK x c e v z⟩
  · obtain ⟨m, ⟨o, _, _, ho, _⟩, _⟩ := I.loc
    exact free _ o (fun z => (hch _ z).2.1 rfl) ho I.free
  · obtain ⟨v, o, ho, hd⟩ := I.cell x c e
    exact free c o (fun z => (hch c z).2.2.1 x c e rfl) ho (I.freeC x c e)
  · obtain ⟨e, n, ne, nf, d⟩ := I.pin p hp
    have nch : p.1 ∉ ch := fun z => (hch p.1 z).2.2.2 p hp rfl
    exact ⟨keep p.1 p.2 ne nf nch e n, free p.1 p.2 nch e n, ne, nf, d⟩
theorem Inv.un {t' : Nat} (I : Inv X pins σ H s) (u : Un X.fs [] H H' s.heap h') (hok : HOk X.prog X.w H' h') : Inv X pins σ H' { s with heap := h', toks := t' } := by
  obtain ⟨m, ⟨o, es, ep, ho, r⟩, _⟩ := id I.loc
  obtain ⟨sl, hL⟩ := u.any ho I.free (by simp)
  exact I.step (g' := s.gens) (d' := s.drawn) (ch := []) (fun _ z => nomatch z) (fun b o _ hb _ e n => u.keep b o e n hb (by simp)) (fun b o _ hb _ e n => u.slot b o e n hb (by simp)) (fun b o _ e n => u.free b o e n (by simp)) (fun b o _ e => u.there b o e (by simp)) u.tups u.frzs u.tbls (fun m' hm => by
    obtain ⟨o', es', ep', ho', r'⟩ := hm
    rw [ho] at ho'; cases ho'
    exact ⟨_, es', ep', hL, r'⟩) hok I.bare
theorem Inv.call {g' : Array GenState} {t' : Nat} {d' : Drawn} {ch : List Addr} (I : Inv X pins σ H s) (u : Un (frs X.stack) ch H H' s.heap h') (hok : HOk X.prog X.w H' h') (hg : AllBare g')
    (hch : ∀ b ∈ ch, (b ∈ X.ex ∨ X.s₀.heap.objs.size ≤ b) ∧ b ≠ X.env.locals ∧ (∀ x c, X.env.cells.lookup x = some c → c ≠ b) ∧ ∀ p ∈ X.pn ++ pins, p.1 ≠ b) :
    Inv X pins σ H' { s with heap := h', gens := g', drawn := d', toks := t' } := by
  obtain ⟨m, ⟨o, es, ep, ho, r⟩, _⟩ := id I.loc
  obtain ⟨sl, hL⟩ := u.any ho I.free fun z => (hch _ z).2.1 rfl
  exact I.step (ch := ch) hch (fun b o hL hb hc e n => u.keep b o e n (fun z => (List.mem_cons.mp (I.stkSub b z)).elim hL hb) hc) (fun b o _ _ hc e n => u.any e n hc) (fun b o hc e n => u.free b o e n hc) (fun b o hc e => u.there b o e hc) u.tups u.frzs u.tbls (fun m' hm => by
    obtain ⟨o', es', ep', ho', r'⟩ := hm
    rw [ho] at ho'; cases ho'
    exact ⟨_, es', ep', hL, r'⟩) hok hg
theorem Inv.turned {t' : Nat} {it : Addr} (I : Inv X pins σ H s) (k : ∀ b o, b ≠ it → s.heap.get? b = some o → h'.get? b = some o) (hn : H it = none) (hL : it ≠ X.env.locals)
    (h1 : it ∈ X.ex ∨ X.s₀.heap.objs.size ≤ it) (h2 : ∀ x c, X.env.cells.lookup x = some c → c ≠ it) (h3 : ∀ p ∈ X.pn ++ pins, p.1 ≠ it) : Inv X pins σ H { s with heap := h', toks := t' } := by
  have nit : ∀ b u, H b = some u → b ≠ it := fun b u e z => by rw [z, hn] at e; cases e
  refine I.step (g' := s.gens) (d' := s.drawn) (ch := [it]) (fun b hb => ?_) (fun b o _ _ hc e _ => k b o (fun z => hc (by simp [z])) e) (fun b o _ _ hc e _ => ⟨o.slots, k b o (fun z => hc (by simp [z])) e⟩) (fun _ _ _ _ n => n)
    (fun b o hc e => ⟨o, k b o (fun z => hc (by simp [z])) e⟩) (fun _ _ e => e) (fun _ _ _ e => e) (fun b ps e => ⟨#[], by rw [e]; simp⟩) (fun m hm => ?_) (fun b u e => ?_) I.bare
  · have e : b = it := by simpa using hb
    subst e
    exact ⟨h1, hL, h2, h3⟩
  · obtain ⟨o, es, ep, ho, r⟩ := hm
    exact ⟨o, es, ep, k _ o (Ne.symm hL) ho, r⟩
  · refine (I.hok b u e).stay (fun c v hc q => k c v ?_ q) (fun _ q => q) fun _ _ q => q
    rcases hc with z | z
    · rw [z]; exact nit b u e
    · exact nit c _ z
theorem Inv.tok (I : Inv X pins σ H s) (t : Nat) : Inv X pins σ H { s with toks := t } := I.un (h' := s.heap) (t' := t) Un.refl I.hok
theorem Inv.kept {t' : Nat} (I : Inv X pins σ H s) (k : ∀ b u, s.heap.get? b = some u → h'.get? b = some u) : Inv X pins σ H { s with heap := h', toks := t' } := I.un (Un.kept k) (I.hok.kept k)
theorem Inv.laid {a : Addr} {o : HO} {t' : Nat} (I : Inv X pins σ H s) (k : ∀ b u, s.heap.get? b = some u → h'.get? b = some u) (hp : s.heap.objs.size ≤ a) (new : ObjOk X.prog X.w (upd H a o) h' a o) :
    Inv X pins σ (upd H a o) { s with heap := h', toks := t' } := I.un (Un.laid k hp (I.hok.fresh hp)) (I.hok.laid k hp new)
theorem Inv.write {x e : Addr} {o : HO} {t' : Nat} (I : Inv X pins σ H s) (mu : Mut (H x)) (he : e = x ∨ H e = some (.own x)) (k : ∀ b u, b ≠ e → s.heap.get? b = some u → h'.get? b = some u) (heo : ∃ u, h'.get? e = some u)
    (new : ObjOk X.prog X.w (upd H x o) h' x o) : Inv X pins σ (upd H x o) { s with heap := h', toks := t' } := I.un (Un.write mu he k heo) (I.hok.write mu he k heo new)
theorem Inv.pins_of {pins' : List (Addr × Obj)} (I : Inv X pins σ H s) (h : ∀ p ∈ pins', s.heap.get? p.1 = some p.2 ∧ H p.1 = none ∧ p.1 ≠ X.env.locals ∧ p.1 ∉ X.fs ∧ ∀ v, p.2.data ≠ .cell v) : Inv X pins' σ H s :=
  ⟨I.ok, I.os, I.bare, I.base, I.loc, I.cell, I.free, I.freeC, fun p hp => (List.mem_append.mp hp).elim (fun z => I.pin p (List.mem_append_left _ z)) (h p), I.hok, I.len⟩
theorem nodup_ix {N : List Str} (hN : N.Nodup) {i j : Nat} {x : Str} (a : N[i]? = some x) (b : N[j]? = some x) : i = j := by
  obtain ⟨h1, e1⟩ := List.getElem?_eq_some_iff.mp a
  obtain ⟨h2, e2⟩ := List.getElem?_eq_some_iff.mp b
  exact (List.getElem_inj hN).mp (e1.trans e2.symm)
theorem store_ok2 {M : Model} {A : Around} {E : Value → Shared → Prop} {i : Nat} {x : Str} {v : V} {u : Value} {Q : Unit → Shared → Prop} (I : Inv X pins σ H s) (hN : X.N.Nodup) (hi : X.N[i]? = some x) (hx : Loc X.env.scope x) (r : RelV v u)
    (h : ∀ s', Inv X pins (σ.set i (some v)) H s' → (∃ a, Heap.SameBut a s.heap s'.heap ∧ (a = X.env.locals ∨ X.env.cells.lookup x = some a)) → Q () s') (hf : X.fn x = true ∨ X.env.scope.names.lookup x = some .local := by first | exact .inl rfl | exact .inr rfl | assumption) : wpAny M A (storeName X.env x u) Q E s := by
  obtain ⟨m, hn, hl⟩ := id I.loc
  have hcls : (X.env.scope.kind == .class || (X.env.scope.kind == .module && X.env.locals != X.env.globals)) = false := by rw [I.ok.kind]; rfl
  have hiσ : i < σ.length := by rw [I.len]; exact (List.getElem?_eq_some_iff.mp hi).1
  have cne := I.cne
  have tracked : ∀ {a : Addr} {h' : Heap}, (∃ o, s.heap.get? a = some o ∧ H a = none) → Heap.SameBut a s.heap h' → HOk X.prog X.w H h' := fun {a h'} ha hs b ob e => by
    obtain ⟨_, _, hfree⟩ := ha
    refine (I.hok b ob e).stay (fun c w' hc q => (hs.2 c ?_).trans q) (fun _ q => q) fun _ _ q => q
    rintro rfl
    rcases hc with rfl | hc
    · rw [hfree] at e; cases e
    · rw [hfree] at hc; cases hc
  rcases hx with hk | hk
  · refine wpAny_storeName_local hk hn (fun h' hn' hs => ?_) hcls
    obtain ⟨oL, _, _, hoL, _⟩ := id hn
    refine h _ ⟨I.ok, I.os, I.bare, ⟨fun b o e n hb hx => ?_, fun b o e n hb hx => ?_, I.base.free, fun b o e hx => ?_, I.base.tups, I.base.frzs, I.base.tbls⟩, ⟨_, hn', fun j y v' e1 e2 e3 => ?_⟩, fun y c e => ?_, I.free, I.freeC, fun p hp => ?_, tracked ⟨oL, hoL, I.free⟩ hs, by simpa using I.len⟩ ⟨_, hs, .inl rfl⟩
    · exact (hs.2 b (Nat.ne_of_lt (Nat.lt_of_lt_of_le (Heap.lt_size e) I.ok.above))).trans (I.base.keep b o e n hb hx)
    · obtain ⟨sl, e1⟩ := I.base.slot b o e n hb hx
      exact ⟨sl, (hs.2 b (Nat.ne_of_lt (Nat.lt_of_lt_of_le (Heap.lt_size e) I.ok.above))).trans e1⟩
    · obtain ⟨o', e1⟩ := I.base.there b o e hx
      exact ⟨o', (hs.2 b (Nat.ne_of_lt (Nat.lt_of_lt_of_le (Heap.lt_size e) I.ok.above))).trans e1⟩
    · by_cases hj : j = i
      · subst hj
        rw [hi] at e1; cases e1
        rw [List.getElem?_set_self hiσ] at e2
        cases e2
        exact ⟨u, r, .inl ⟨hk, by simp⟩⟩
      · rw [List.getElem?_set_ne (Ne.symm hj)] at e2
        obtain ⟨u', r', q⟩ := hl j y v' e1 e2 e3
        refine ⟨u', r', ?_⟩
        rcases q with ⟨k, e⟩ | ⟨k, c, e, z⟩
        · refine .inl ⟨k, ?_⟩
          have : y ≠ x := fun e => hj (nodup_ix hN e1 (e ▸ hi))
          simp [this, e]
        · exact .inr ⟨k, c, e, z.sameBut hs (cne y c e)⟩
    · obtain ⟨w', z⟩ := I.cell y c e
      exact ⟨w', z.sameBut hs (cne y c e)⟩
    · obtain ⟨e, n, ne, nf, d⟩ := I.pin p hp
      exact ⟨(hs.2 p.1 ne).trans e, n, ne, nf, d⟩
  · have hfn : X.fn x = true := by
      rcases hf with z | z
      · exact z
      · rw [z] at hk; cases hk
    obtain ⟨c, hc⟩ := I.ok.has x (.inl hk)
    obtain ⟨w', z⟩ := I.cell x c hc
    refine wpAny_storeName_cell I.ok.kind hk hc z (fun h' hc' hs => ?_)
    obtain ⟨oc, hoc, hocd⟩ := id z
    refine h { s with heap := h' } ⟨I.ok, I.os, I.bare, ⟨fun b o e n hb hx => ?_, fun b o e n hb hx => ?_, I.base.free, fun b o e hx => ?_, I.base.tups, I.base.frzs, I.base.tbls⟩, ⟨m, hn.sameBut hs (Ne.symm (cne x c hc)), fun j y v' e1 e2 e3 => ?_⟩, fun y c' e => ?_, I.free, I.freeC, fun p hp => ?_, tracked ⟨oc, hoc, I.freeC x c hc⟩ hs, by simpa using I.len⟩ ⟨c, hs, .inr hc⟩
    · exact (hs.2 b (Nat.ne_of_lt (Nat.lt_of_lt_of_le (Heap.lt_size e) (I.ok.cab x c hfn hc)))).trans (I.base.keep b o e n hb hx)
    · obtain ⟨sl, e1⟩ := I.base.slot b o e n hb hx
      exact ⟨sl, (hs.2 b (Nat.ne_of_lt (Nat.lt_of_lt_of_le (Heap.lt_size e) (I.ok.cab x c hfn hc)))).trans e1⟩
    · obtain ⟨o', e1⟩ := I.base.there b o e hx
      exact ⟨o', (hs.2 b (Nat.ne_of_lt (Nat.lt_of_lt_of_le (Heap.lt_size e) (I.ok.cab x c hfn hc)))).trans e1⟩
    · by_cases hj : j = i
      · subst hj
        rw [hi] at e1; cases e1
        rw [List.getElem?_set_self hiσ] at e2
        cases e2
        exact ⟨u, r, .inr ⟨.inl hk, c, hc, hc'⟩⟩
      · rw [List.getElem?_set_ne (Ne.symm hj)] at e2
        obtain ⟨u', r', q⟩ := hl j y v' e1 e2 e3
        refine ⟨u', r', ?_⟩
        rcases q with q | ⟨k, c', e, z'⟩
        · exact .inl q
        · refine .inr ⟨k, c', e, z'.sameBut hs ?_⟩
          rintro rfl
          exact hj (nodup_ix hN e1 (I.ok.inj _ _ _ e hc ▸ hi))
    · by_cases hcc : c' = c
      · subst hcc; exact ⟨_, hc'⟩
      · obtain ⟨w2, z2⟩ := I.cell y c' e
        exact ⟨w2, z2.sameBut hs hcc⟩
    · obtain ⟨e, n, ne, nf, d⟩ := I.pin p hp
      refine ⟨(hs.2 p.1 ?_).trans e, n, ne, nf, d⟩
      intro q
      rw [q, hoc] at e
      have q' : oc = p.2 := Option.some.inj e
      exact d w' (by rw [← q']; exact hocd)
theorem store_ok {M : Model} {A : Around} {E : Value → Shared → Prop} {i : Nat} {x : Str} {v : V} {u : Value} {Q : Unit → Shared → Prop} (I : Inv X pins σ H s) (hN : X.N.Nodup) (hi : X.N[i]? = some x) (hx : Loc X.env.scope x) (r : RelV v u)
    (h : ∀ s', Inv X pins (σ.set i (some v)) H s' → Q () s') (hf : X.fn x = true ∨ X.env.scope.names.lookup x = some .local := by first | exact .inl rfl | exact .inr rfl | assumption) : wpAny M A (storeName X.env x u) Q E s :=
  store_ok2 I hN hi hx r (fun s' I' _ => h s' I') hf
theorem Inv.call' {s' : Shared} {ch : List Addr} (I : Inv X pins σ H s) (ho : s'.os = s.os) (u : Un (frs X.stack) ch H H' s.heap s'.heap) (hok : HOk X.prog X.w H' s'.heap) (hg : AllBare s'.gens)
    (hch : ∀ b ∈ ch, (b ∈ X.ex ∨ X.s₀.heap.objs.size ≤ b) ∧ b ≠ X.env.locals ∧ (∀ x c, X.env.cells.lookup x = some c → c ≠ b) ∧ ∀ p ∈ X.pn ++ pins, p.1 ≠ b) : Inv X pins σ H' s' := by
  obtain ⟨h', g', d', t', o'⟩ := s'
  have e : o' = s.os := ho
  subst e
  exact I.call (g' := g') (t' := t') (d' := d') u hok hg hch
end
abbrev XK := Value → Option Addr → Hp → Prop
abbrev St := List (Option V)
abbrev VK := V → Hp → Prop
abbrev TE := St → Hp → VK → Prop
abbrev TT := St → Hp → (Bool → Hp → Prop) → Prop
abbrev TA := St → Hp → (List V → Hp → Prop) → Prop
structure Ends where
  nx : St → Hp → Prop
  rt : VK
  bk : St → Hp → Prop := fun _ _ => False
  ct : St → Hp → Prop := fun _ _ => False
abbrev TS := Ends → St → Hp → Prop
def EP (X : Cx) (pins : List (Addr × Obj)) (σ : St) (Q : VK) (u : Value) (s' : Shared) : Prop := ∃ v H', Inv X pins σ H' s' ∧ RelV v u ∧ Q v H'
def TP (X : Cx) (pins : List (Addr × Obj)) (σ : St) (Q : Bool → Hp → Prop) (b : Bool) (s' : Shared) : Prop := ∃ H', Inv X pins σ H' s' ∧ Q b H'
def AP (X : Cx) (pins : List (Addr × Obj)) (σ : St) (Q : List V → Hp → Prop) (us : List Value) (s' : Shared) : Prop := ∃ vs H', Inv X pins σ H' s' ∧ Vals vs us ∧ Q vs H'
def SP (X : Cx) (pins : List (Addr × Obj)) (D : Ends) (f : Flow) (s' : Shared) : Prop :=
  match f with
  | .next => ∃ σ' H', Inv X pins σ' H' s' ∧ D.nx σ' H'
  | .brk => ∃ σ' H', Inv X pins σ' H' s' ∧ D.bk σ' H'
  | .cont => ∃ σ' H', Inv X pins σ' H' s' ∧ D.ct σ' H'
  | .ret u => ∃ v σ' H', Inv X pins σ' H' s' ∧ RelV v u ∧ D.rt v H'
def PE (X : Cx) (e : Expr) (t : TE) : Prop :=
  ∀ (pins : List (Addr × Obj)) (s : Shared) (σ : St) (H : Hp) (Q : VK), Inv X pins σ H s → t σ H Q → wpAny (model X.prog X.w) X.A (eval e X.env) (EP X pins σ Q) X.xe s
def PT (X : Cx) (e : Expr) (t : TT) : Prop :=
  ∀ (pins : List (Addr × Obj)) (s : Shared) (σ : St) (H : Hp) (Q : Bool → Hp → Prop), Inv X pins σ H s → t σ H Q → wpAny (model X.prog X.w) X.A (isTrue e X.env (eval e X.env)) (TP X pins σ Q) X.xe s
def PW (X : Cx) (e : Expr) (t : TT) : Prop :=
  ∀ (whole : Sem Value) (pins : List (Addr × Obj)) (s : Shared) (σ : St) (H : Hp) (Q : Bool → Hp → Prop), Inv X pins σ H s → t σ H Q → wpAny (model X.prog X.w) X.A (isTrue e X.env whole) (TP X pins σ Q) X.xe s
theorem PW.pt {X : Cx} {e : Expr} {t : TT} (h : PW X e t) : PT X e t := h _
def PA (X : Cx) (es : List Expr) (t : TA) : Prop :=
  ∀ (pos : Pos) (pins : List (Addr × Obj)) (s : Shared) (σ : St) (H : Hp) (Q : List V → Hp → Prop), Inv X pins σ H s → t σ H Q → wpAny (model X.prog X.w) X.A (spliced (backTo pos (starEach es X.env))) (AP X pins σ Q) X.xe s
def PS (X : Cx) (st : Stmt) (t : TS) : Prop :=
  ∀ (pins : List (Addr × Obj)) (s : Shared) (σ : St) (H : Hp) (D : Ends), Inv X pins σ H s → t D σ H → wpAny (model X.prog X.w) X.A (exec st X.env) (SP X pins D) X.xe s
def PSs (X : Cx) (st : List Stmt) (t : TS) : Prop :=
  ∀ (pins : List (Addr × Obj)) (s : Shared) (σ : St) (H : Hp) (D : Ends), Inv X pins σ H s → t D σ H → wpAny (model X.prog X.w) X.A (execs st X.env) (SP X pins D) X.xe s
theorem thn {α : Type} {t : Sem α} {Q Q' : α → Shared → Prop} {M : Model} {A : Around} {E : Value → Shared → Prop} {s : Shared} (h : wpAny M A t Q E s) (hQ : ∀ a s, Q a s → Q' a s) : wpAny M A t Q' E s := wpAny_mono h hQ fun _ _ x => x
end L2
namespace L2
open PySem PySem.Spec PyProof.Rows
section
variable {X : Cx}
def tVar (i : Nat) : TE := fun σ H Q => ∃ v, σ[i]? = some (some v) ∧ Q v H
def tC (v : V) : TE := fun _ H Q => Q v H
theorem pe_var {i : Nat} {x : Str} {pos : Pos} (hN : X.N[i]? = some x) (hv : Vis X.env.scope x) (hd : (x == ("__debug__" : Str)) = false := by decide) (hcd : (x == ("__classdict__" : Str)) = false := by decide) : PE X (.Name x pos) (tVar i) := by
  intro pins s σ H Q I h
  obtain ⟨v, e, h⟩ := h
  obtain ⟨m, hn, hl⟩ := I.loc
  obtain ⟨u, r, l⟩ := hl i x v hN e hv
  have fin : EP X pins σ Q u s := ⟨v, H, I, r, h⟩
  rcases l with ⟨hk, hm⟩ | ⟨hk, c, hc, hcell⟩
  · exact wpAny_Name (wpAny_loadName_local I.ok.kind hk hn hm fin) hd
  · rcases hk with hk | hk
    · exact wpAny_Name (wpAny_loadName_cell I.ok.kind hk hc hcell fin) hd
    · exact wpAny_Name (wpAny_loadName_free I.ok.kind hk hc hcell fin hcd) hd
theorem pe_int {i j pos} : PE X (.Constant (.int i) j pos) (tC (.int i)) := fun _ _ _ H _ I h => wpAny_Constant_int ⟨.int i, H, I.tok _, ⟨_, rfl⟩, h⟩
theorem pe_bl {b j pos} : PE X (.Constant (.bool b) j pos) (tC (.bl b)) := fun _ _ _ H _ I h => Constant_bool ⟨.bl b, H, I, rfl, h⟩
theorem pe_non {j pos} : PE X (.Constant .none j pos) (tC .non) := fun _ _ _ H _ I h => Constant_none ⟨.non, H, I, rfl, h⟩
theorem pe_str {x j pos} : PE X (.Constant (.str x) j pos) (tC (.str x)) := fun _ _ _ H _ I h => Calls.Constant_str ⟨.str x, H, I.tok _, ⟨_, rfl⟩, h⟩
def Gl (X : Cx) (x : Str) : Prop := X.env.kindOf x = some .globalImplicit
theorem ld_glob {E : Value → Shared → Prop} {pins : List (Addr × Obj)} {s : Shared} {σ : St} {H : Hp} {x : Str} {u : Value} {pos : Pos} {Q : Value → Shared → Prop} (I : Inv X pins σ H s) (hg : Gl X x) (hm : X.mg x = some u) (h : Q u s)
    (hd : (x == ("__debug__" : Str)) = false := by decide) : wpAny (model X.prog X.w) X.A (eval (.Name x pos) X.env) Q E s :=
  Calls.Name_function_global I.ok.kind hg (Calls.loadGlobal_global (by rw [I.ok.glob]; exact I.mod.glob.keeps I.bk) hm h) hd
theorem ld_blt {E : Value → Shared → Prop} {pins : List (Addr × Obj)} {s : Shared} {σ : St} {H : Hp} {x : Str} {u : Value} {pos : Pos} {Q : Value → Shared → Prop} (I : Inv X pins σ H s) (hg : Gl X x) (hm : X.mg x = none) (hv : bootBuiltins x = some u) (h : Q u s)
    (hn : x ≠ "__name__" := by decide) (hd : (x == ("__debug__" : Str)) = false := by decide) : wpAny (model X.prog X.w) X.A (eval (.Name x pos) X.env) Q E s := by
  obtain ⟨mb, h1, h2⟩ := I.mod.blt
  exact Calls.Name_function_global I.ok.kind hg (Calls.loadGlobal_builtin (by rw [I.ok.glob]; exact I.mod.glob.keeps I.bk) hm (by rw [I.ok.blt]; exact h1.keeps I.bk) ((h2 x hn).trans hv) h) hd
theorem pe_glob {x : Str} {v : V} {u : Value} {pos : Pos} (hg : Gl X x) (hm : X.mg x = some u) (r : RelV v u) (hd : (x == ("__debug__" : Str)) = false := by decide) : PE X (.Name x pos) (tC v) :=
  fun _ _ _ H _ I h => ld_glob I hg hm ⟨v, H, I, r, h⟩ hd
theorem pe_bltn {x : Str} {v : V} {u : Value} {pos : Pos} (hg : Gl X x) (hm : X.mg x = none) (hv : bootBuiltins x = some u) (r : RelV v u) (hn : x ≠ "__name__" := by decide) (hd : (x == ("__debug__" : Str)) = false := by decide) : PE X (.Name x pos) (tC v) :=
  fun _ _ _ H _ I h => ld_blt I hg hm hv ⟨v, H, I, r, h⟩ hn hd
def t2I (ta tb : TE) (k : Int → Int → Hp → Prop) : St → Hp → Prop := fun σ H => ta σ H fun x H1 => tb σ H1 fun y H2 => ∃ i j, x = .int i ∧ y = .int j ∧ k i j H2
variable {a b : Expr} {ta tb : TE} {pos : Pos}
def PC (X : Cx) (op : CmpOp) (a b : Expr) (t : TE) : Prop :=
  ∀ (pins : List (Addr × Obj)) (s : Shared) (σ : St) (H : Hp) (Q : VK), Inv X pins σ H s → t σ H Q →
    wpAny (model X.prog X.w) X.A (eval a X.env) (fun v s₁ => wpAny (model X.prog X.w) X.A (eval b X.env) (fun u s₂ => wpAny (model X.prog X.w) X.A (compareOp op v u) (EP X pins σ Q) X.xe s₂) X.xe s₁) X.xe s
theorem nobehind (b : Expr) {op : CmpOp} (h : op ≠ .In) (h2 : op ≠ .NotIn) : behindInMarks op b = false := by
  have e1 : (op == CmpOp.In) = false := by cases op <;> first | rfl | exact absurd rfl h
  have e2 : (op == CmpOp.NotIn) = false := by cases op <;> first | rfl | exact absurd rfl h2
  cases b <;> simp [behindInMarks, e1, e2]
def tCmp (p : Int → Int → Bool) (ta tb : TE) : TE := fun σ H Q => t2I ta tb (fun i j H2 => Q (.bl (p i j)) H2) σ H
abbrev tLt : TE → TE → TE := tCmp fun i j => decide (i < j)
abbrev tLe : TE → TE → TE := tCmp fun i j => decide (i ≤ j)
abbrev tGt : TE → TE → TE := tCmp fun i j => decide (j < i)
abbrev tGe : TE → TE → TE := tCmp fun i j => decide (j ≤ i)
abbrev tEqI : TE → TE → TE := tCmp fun i j => decide (i = j)
abbrev tNeI : TE → TE → TE := tCmp fun i j => !decide (i = j)
def tIsN (ta : TE) : TE := fun σ H Q => ta σ H fun x H1 => Q (.bl (decide (x = .non))) H1
def tNotN (ta : TE) : TE := fun σ H Q => ta σ H fun x H1 => Q (.bl (!decide (x = .non))) H1
theorem RelV.none_iff {x : V} {v : Value} (r : RelV x v) : (v == Value.none) = decide (x = .non) := by
  cases x with
  | non => cases r; rfl
  | bl _ => cases r; rfl
  | int _ => obtain ⟨t, rfl⟩ := r; rfl
  | str _ => obtain ⟨t, rfl⟩ := r; rfl
  | byt _ => obtain ⟨t, rfl⟩ := r; rfl
  | flt _ => obtain ⟨t, rfl⟩ := r; rfl
  | ref _ => cases r; rfl
  | ty _ => cases r; rfl
theorem pc_isN {j pos'} (ha : PE X a ta) : PC X .Is a (.Constant .none j pos') (tIsN ta) := by
  intro pins s σ H Q I h
  refine thn (ha pins s σ H _ I h) fun v s1 ⟨x, H1, I1, r1, q1⟩ => ?_
  exact Constant_none (is_none_gen ⟨.bl _, H1, I1, by rw [r1.none_iff]; rfl, q1⟩)
theorem pc_notN {j pos'} (ha : PE X a ta) : PC X .IsNot a (.Constant .none j pos') (tNotN ta) := by
  intro pins s σ H Q I h
  refine thn (ha pins s σ H _ I h) fun v s1 ⟨x, H1, I1, r1, q1⟩ => ?_
  exact Constant_none (isnot_none_gen ⟨.bl _, H1, I1, by rw [r1.none_iff]; rfl, q1⟩)
def tB (t : TE) : TT := fun σ H Q => t σ H fun x H1 => ∃ c, x = .bl c ∧ Q c H1
theorem pe_cmp {op : CmpOp} {t : TE} (h : PC X op a b t) (h1 : behindInMarks op b = false := by first | exact nobehind _ (by decide) (by decide) | rfl) : PE X (.Compare a [op] [b] pos) t := fun pins s σ H Q I hw => wpAny_Compare1 (h pins s σ H Q I hw) h1
theorem pt_cmp {op : CmpOp} {t : TE} (h : PC X op a b t) (h1 : behindInMarks op b = false := by first | exact nobehind _ (by decide) (by decide) | rfl) : PT X (.Compare a [op] [b] pos) (tB t) := by
  intro pins s σ H Q I hw
  refine wpAny_isTrue_Compare1 (thn (h pins s σ H _ I hw) fun v s1 h1 => thn h1 fun u s2 h2 => thn h2 fun c s3 ⟨x, H1, I1, r1, q1⟩ => ?_) h1
  obtain ⟨d, rfl, q⟩ := q1
  cases r1
  exact wpAny_truthy_bool ⟨H1, I1, q⟩
theorem pt_val {e : Expr} {t : TE} (h : PE X e t) (he : ∀ whole, isTrue e X.env whole = (do let v ← whole; standAt e.pos; holding [v] (truthy v)) := by intro _; rfl) : PT X e (tB t) := by
  intro pins s σ H Q I hw
  refine isTrue_plain (thn (h pins s σ H _ I hw) fun v s1 ⟨x, H1, I1, r1, q1⟩ => ?_) (he _)
  obtain ⟨d, rfl, q⟩ := q1
  cases r1
  exact wpAny_truthy_bool ⟨H1, I1, q⟩
variable {tA tB' : TT} {rest : List Expr}
def tAnd (t u : TT) : TT := fun σ H Q => t σ H fun c H1 => if c = true then u σ H1 Q else Q false H1
def tOr (t u : TT) : TT := fun σ H Q => t σ H fun c H1 => if c = true then Q true H1 else u σ H1 Q
def tNot (t : TT) : TT := fun σ H Q => t σ H fun c H1 => Q (!c) H1
theorem pw_and1 (ha : PT X a tA) : PW X (.BoolOp .And [a] pos) tA := by
  intro wh pins s σ H Q I h
  refine isTrue_and (thn (ha pins s σ H Q I h) fun c s1 e => ?_)
  cases c with
  | true => exact isTrue_and_nil e
  | false => exact e
theorem pw_or1 (ha : PT X a tA) : PW X (.BoolOp .Or [a] pos) tA := by
  intro wh pins s σ H Q I h
  refine isTrue_or (thn (ha pins s σ H Q I h) fun c s1 e => ?_)
  cases c with
  | false => exact isTrue_or_nil e
  | true => exact e
theorem pw_and (ha : PT X a tA) (hb : PW X (.BoolOp .And (b :: rest) pos) tB') : PW X (.BoolOp .And (a :: b :: rest) pos) (tAnd tA tB') := by
  intro wh pins s σ H Q I h
  refine isTrue_and (thn (ha pins s σ H _ I h) fun c s1 ⟨H1, I1, q1⟩ => ?_)
  cases c with
  | true => exact hb wh pins s1 σ H1 Q I1 q1
  | false => exact ⟨H1, I1, q1⟩
theorem pw_or (ha : PT X a tA) (hb : PW X (.BoolOp .Or (b :: rest) pos) tB') : PW X (.BoolOp .Or (a :: b :: rest) pos) (tOr tA tB') := by
  intro wh pins s σ H Q I h
  refine isTrue_or (thn (ha pins s σ H _ I h) fun c s1 ⟨H1, I1, q1⟩ => ?_)
  cases c with
  | true => exact ⟨H1, I1, q1⟩
  | false => exact hb wh pins s1 σ H1 Q I1 q1
theorem pt_not (ha : PT X a tA) : PT X (.UnaryOp .Not a pos) (tNot tA) := by
  intro pins s σ H Q I h
  exact isTrue_not (ha pins s σ H (fun c H1 => Q (!c) H1) I h)
def tAndV (ta tb : TE) : TE := fun σ H Q => ta σ H fun x H1 => ∃ c, x = .bl c ∧ if c = true then tb σ H1 Q else Q (.bl false) H1
def tNotV (ta : TE) : TE := fun σ H Q => ta σ H fun x H1 => ∃ c, x = .bl c ∧ Q (.bl (!c)) H1
theorem pe_one {op} {t : TE} (h : PE X a t) : PE X (.BoolOp op [a] pos) t := fun pins s σ H Q I hw => BoolOp_one (h pins s σ H Q I hw)
theorem pe_and (ha : PE X a ta) (hb : PE X (.BoolOp .And (b :: rest) pos) tb) : PE X (.BoolOp .And (a :: b :: rest) pos) (tAndV ta tb) := by
  intro pins s σ H Q I h
  refine BoolOp_and (thn (ha pins s σ H _ I h) fun v s1 ⟨x, H1, I1, r1, q1⟩ => ?_)
  obtain ⟨c, rfl, q1⟩ := q1
  cases r1
  refine wpAny_truthy_bool ?_
  cases c with
  | true => exact hb pins s1 σ H1 Q I1 q1
  | false => exact ⟨.bl false, H1, I1, rfl, q1⟩
theorem pe_not (ha : PE X a ta) : PE X (.UnaryOp .Not a pos) (tNotV ta) := by
  intro pins s σ H Q I h
  refine UnaryOp_ (thn (ha pins s σ H _ I h) fun v s1 ⟨x, H1, I1, r1, q1⟩ => ?_)
  obtain ⟨c, rfl, q1⟩ := q1
  cases r1
  exact not_of (wpAny_truthy_bool ⟨.bl (!c), H1, I1, rfl, q1⟩)
def tIf (t : TT) (ta tb : TE) : TE := fun σ H Q => t σ H fun c H1 => if c = true then ta σ H1 Q else tb σ H1 Q
theorem pe_ifExp {c : Expr} (hc : PT X c tA) (ha : PE X a ta) (hb : PE X b tb) : PE X (.IfExp c a b pos) (tIf tA ta tb) := by
  intro pins s σ H Q I h
  refine wpAny_IfExp (thn (hc pins s σ H _ I h) fun d s1 ⟨H1, I1, q1⟩ => ?_)
  cases d with
  | true => exact ha pins s1 σ H1 Q I1 q1
  | false => exact hb pins s1 σ H1 Q I1 q1
end
end L2
namespace L2
open PySem PySem.Spec PyProof.Rows
def SqL (K : PySem.W.Frag) (H : Hp) (a : Addr) (xs : List V) : Prop :=
  Rd H a (.lst xs) ∨
    ∃ (o : Obj) (its : Array Value) (n : Nat), K.lookup a = some o ∧ o.cls = .type "list" ∧ o.dict = none ∧ o.data = .seq its n ∧ its.size ≤ sizeLine ∧ Vals xs its.toList
def SqT (K : PySem.W.Frag) (H : Hp) (a : Addr) (xs : List V) : Prop :=
  Rd H a (.tup xs) ∨
    ∃ (o : Obj) (its : Array Value) (n : Nat), K.lookup a = some o ∧ o.cls = .type "tuple" ∧ o.data = .seq its n ∧ its.size ≤ sizeLine ∧ Vals xs its.toList
def absV : Value → Option V
  | .none => some .non
  | .bool b => some (.bl b)
  | .int i _ => some (.int i)
  | .str x _ => some (.str x)
  | .bytes b _ => some (.byt b)
  | .float b _ => some (.flt b)
  | .ref a => some (.ref a)
  | .type n => some (.ty n)
  | _ => none
theorem RelV.abs {x : V} {u : Value} (r : RelV x u) : absV u = some x := by
  cases x with
  | non => cases r; rfl
  | bl _ => cases r; rfl
  | int _ => obtain ⟨t, rfl⟩ := r; rfl
  | str _ => obtain ⟨t, rfl⟩ := r; rfl
  | byt _ => obtain ⟨t, rfl⟩ := r; rfl
  | flt _ => obtain ⟨t, rfl⟩ := r; rfl
  | ref _ => cases r; rfl
  | ty _ => cases r; rfl
theorem RelV.inj {x y : V} {u : Value} (r : RelV x u) (q : RelV y u) : x = y := Option.some.inj (r.abs.symm.trans q.abs)
theorem Vals.inj : ∀ {xs ys : List V} {us : List Value}, Vals xs us → Vals ys us → xs = ys
  | _, _, _, .nil, .nil => rfl
  | _, _, _, .cons r t, .cons r' t' => by rw [r.inj r', Vals.inj t t']
section
variable {X : Cx} {pins : List (Addr × Obj)} {σ : St} {H : Hp} {s : Shared} {a : Addr} {xs ys : List V}
theorem SqL.of {K : PySem.W.Frag} (h : H a = some (.lst xs)) : SqL K H a xs := .inl (.inl h)
theorem SqT.of {K : PySem.W.Frag} (h : H a = some (.tup xs)) : SqT K H a xs := .inl (.inl h)
theorem Inv.list (I : Inv X pins σ H s) (h : SqL X.K H a xs) : ∃ its : List Value, Vals xs its ∧ PlainL s.heap a its.toArray ∧ xs.length ≤ sizeLine := by
  rcases h with h | ⟨o, its, n, hk, hc, hd, hs, hz, r⟩
  · obtain ⟨z, its, n, r, e⟩ := h.ok I.hok
    exact ⟨its, r, ⟨_, n, e, rfl, rfl, rfl⟩, z⟩
  · refine ⟨its.toList, r, ⟨o, n, I.kIn a o hk, hc, hd, by simpa using hs⟩, ?_⟩
    have e := r.length
    simp only [Array.length_toList] at e
    omega
theorem Inv.tuple (I : Inv X pins σ H s) (h : SqT X.K H a xs) : ∃ its : List Value, Vals xs its ∧ IsTup s.heap a its.toArray ∧ xs.length ≤ sizeLine := by
  rcases h with h | ⟨o, its, n, hk, hc, hs, hz, r⟩
  · obtain ⟨z, its, r, p⟩ := h.ok I.hok
    exact ⟨its, r, p, z⟩
  · refine ⟨its.toList, r, ⟨o, I.kIn a o hk, hc, n, by simpa using hs⟩, ?_⟩
    have e := r.length
    simp only [Array.length_toList] at e
    omega
theorem Inv.list_inj (I : Inv X pins σ H s) (h : SqL X.K H a xs) (h' : SqL X.K H a ys) : xs = ys := by
  obtain ⟨its, r, ⟨o, n, e, _, _, d⟩, _⟩ := I.list h
  obtain ⟨its', r', ⟨o', n', e', _, _, d'⟩, _⟩ := I.list h'
  rw [e] at e'; cases e'
  rw [d] at d'
  injection d' with d1 _
  have : its = its' := by simpa using congrArg Array.toList d1
  subst this
  exact r.inj r'
theorem Inv.tuple_inj (I : Inv X pins σ H s) (h : SqT X.K H a xs) (h' : SqT X.K H a ys) : xs = ys := by
  obtain ⟨its, r, ⟨o, e, _, n, d⟩, _⟩ := I.tuple h
  obtain ⟨its', r', ⟨o', e', _, n', d'⟩, _⟩ := I.tuple h'
  rw [e] at e'; cases e'
  rw [d] at d'
  injection d' with d1 _
  have : its = its' := by simpa using congrArg Array.toList d1
  subst this
  exact r.inj r'
end
abbrev Cx.wish (X : Cx) (E : Value → Shared → Prop) : Cx := { X with xe := E }
abbrev Cx.nox (X : Cx) : Cx := X.wish fun _ _ => False
theorem Cx.Ok.wish {X : Cx} (ok : X.Ok) (E : Value → Shared → Prop) : (X.wish E).Ok :=
  ⟨ok.mod, ok.kind, ok.glob, ok.blt, ok.above, ok.inj, ok.has, ok.cab, ok.hd, ok.frames, ok.stk, ok.exf, ok.bs, ok.bsz, ok.noex, ok.exfs, ok.funs, ok.frf⟩
theorem Cx.Ok.unwish {X : Cx} {E : Value → Shared → Prop} (ok : (X.wish E).Ok) : X.Ok :=
  ⟨ok.mod, ok.kind, ok.glob, ok.blt, ok.above, ok.inj, ok.has, ok.cab, ok.hd, ok.frames, ok.stk, ok.exf, ok.bs, ok.bsz, ok.noex, ok.exfs, ok.funs, ok.frf⟩
section
variable {X : Cx} {pins : List (Addr × Obj)} {σ : St} {H : Hp} {s : Shared} {E : Value → Shared → Prop}
theorem Inv.wish (I : Inv X pins σ H s) (E : Value → Shared → Prop) : Inv (X.wish E) pins σ H s := ⟨I.ok.wish E, I.os, I.bare, I.base, I.loc, I.cell, I.free, I.freeC, I.pin, I.hok, I.len⟩
theorem Inv.unwish (I : Inv (X.wish E) pins σ H s) : Inv X pins σ H s := ⟨I.ok.unwish, I.os, I.bare, I.base, I.loc, I.cell, I.free, I.freeC, I.pin, I.hok, I.len⟩
theorem SP.unwish {D : Ends} {f : Flow} {s' : Shared} (h : SP (X.wish E) pins D f s') : SP X pins D f s' := by
  cases f with
  | next => obtain ⟨σ', H', I, q⟩ := h; exact ⟨σ', H', I.unwish, q⟩
  | brk => obtain ⟨σ', H', I, q⟩ := h; exact ⟨σ', H', I.unwish, q⟩
  | cont => obtain ⟨σ', H', I, q⟩ := h; exact ⟨σ', H', I.unwish, q⟩
  | ret u => obtain ⟨v, σ', H', I, r, q⟩ := h; exact ⟨v, σ', H', I.unwish, r, q⟩
theorem PE.nox {e : Expr} {t : TE} (h : PE X.nox e t) : PE X e t := fun pins s σ H Q I hw =>
  wpAny_mono (h pins s σ H Q (I.wish _) hw) (fun _ _ ⟨v, H', I', r, q⟩ => ⟨v, H', I'.unwish, r, q⟩) fun _ _ z => False.elim z
theorem PT.nox {e : Expr} {t : TT} (h : PT X.nox e t) : PT X e t := fun pins s σ H Q I hw =>
  wpAny_mono (h pins s σ H Q (I.wish _) hw) (fun _ _ ⟨H', I', q⟩ => ⟨H', I'.unwish, q⟩) fun _ _ z => False.elim z
theorem PSs.nox {st : List Stmt} {t : TS} (h : PSs X.nox st t) : PSs X st t := fun pins s σ H D I hw =>
  wpAny_mono (h pins s σ H D (I.wish _) hw) (fun _ _ q => q.unwish) fun _ _ z => False.elim z
end
section
variable {X : Cx} {st : Stmt} {rest : List Stmt} {t u : TS} {e : Expr} {te : TE} {pos : Pos}
def tNext : TS := fun D σ H => D.nx σ H
def tSeq (t u : TS) : TS := fun D σ H => t { D with nx := u D } σ H
theorem pss_nil : PSs X [] tNext := fun _ _ σ H _ I h => wpAny_execs_nil ⟨σ, H, I, h⟩
theorem pss_cons (h1 : PS X st t) (h2 : PSs X rest u) : PSs X (st :: rest) (tSeq t u) := by
  intro pins s σ H D I h
  refine wpAny_execs_cons (thn (h1 pins s σ H { D with nx := u D } I h) fun f s1 q => ?_)
  cases f with
  | next =>
    obtain ⟨σ', H', I', q⟩ := q
    exact h2 pins s1 σ' H' D I' q
  | ret v => exact q
  | brk => exact q
  | cont => exact q
theorem pss_one (h1 : PS X st t) : PSs X [st] t := by
  intro pins s σ H D I h
  refine wpAny_execs_cons (thn (h1 pins s σ H D I h) fun f s1 q => ?_)
  cases f with
  | next => exact wpAny_execs_nil q
  | ret v => exact q
  | brk => exact q
  | cont => exact q
def tCont : TS := fun D σ H => D.ct σ H
theorem ps_continue : PS X (.Continue pos) tCont := fun _ _ σ H _ I h => wpAny_Continue ⟨σ, H, I, h⟩
theorem Inv.quiet {pins : List (Addr × Obj)} {σ : St} {H : Hp} {s : Shared} (I : Inv X pins σ H s) : interactive X.env = false := by simp [interactive, I.ok.kind]
def tDrop (te : TE) : TS := fun D σ H => te σ H fun _ H1 => D.nx σ H1
theorem ps_expr (he : PE X e te) (hs : swapsWith e none pos.line X.env = pure false := by rfl) : PS X (.Expr e pos) (tDrop te) := by
  intro pins s σ H D I h
  exact wpAny_Expr_any (thn (he pins s σ H _ I h) fun v s1 ⟨x, H1, I1, r1, q1⟩ => ⟨σ, H1, I1, q1⟩) I.quiet hs
def tRet (te : TE) : TS := fun D σ H => te σ H D.rt
theorem ps_ret (he : PE X e te) : PS X (.Return (some e) pos) (tRet te) := by
  intro pins s σ H D I h
  exact wpAny_Return_some (thn (he pins s σ H _ I h) fun v s1 ⟨x, H1, I1, r1, q1⟩ => ⟨x, σ, H1, I1, r1, q1⟩)
def tIfS (c : TT) (t u : TS) : TS := fun D σ H => c σ H fun b H1 => if b = true then t D σ H1 else u D σ H1
theorem ps_if {c : Expr} {a b : List Stmt} {tc : TT} (hc : PT X c tc) (ha : PSs X a t) (hb : PSs X b u) : PS X (.If c a b pos) (tIfS tc t u) := by
  intro pins s σ H D I h
  refine wpAny_If (thn (hc pins s σ H _ I h) fun d s1 ⟨H1, I1, q1⟩ => ?_)
  cases d with
  | true => exact ha pins s1 σ H1 D I1 q1
  | false => exact hb pins s1 σ H1 D I1 q1
end
abbrev TG := V → St → Hp → (St → Hp → Prop) → Prop
abbrev TGs := List V → St → Hp → (St → Hp → Prop) → Prop
def PG (X : Cx) (target : Expr) (t : TG) : Prop :=
  ∀ (pins : List (Addr × Obj)) (s : Shared) (σ : St) (H : Hp) (v : V) (u : Value) (Q : St → Hp → Prop), Inv X pins σ H s → RelV v u → t v σ H Q →
    wpAny (model X.prog X.w) X.A (assign target X.env u) (fun _ s' => ∃ σ' H', Inv X pins σ' H' s' ∧ Q σ' H') X.xe s
def PGs (X : Cx) (ts : List Expr) (t : TGs) : Prop :=
  ∀ (pins : List (Addr × Obj)) (s : Shared) (σ : St) (H : Hp) (vs : List V) (us : List Value) (Q : St → Hp → Prop), Inv X pins σ H s → Vals vs us → t vs σ H Q →
    wpAny (model X.prog X.w) X.A (assignInOrder ((assignEach ts X.env).map (·.2)) us) (fun _ s' => ∃ σ' H', Inv X pins σ' H' s' ∧ Q σ' H') X.xe s
abbrev TSet := V → V → V → Hp → (Hp → Prop) → Prop
def PSet (X : Cx) (t : TSet) : Prop :=
  ∀ (pins : List (Addr × Obj)) (s : Shared) (σ : St) (H : Hp) (o i v : V) (ov iv u : Value) (Q : Hp → Prop), Inv X pins σ H s → RelV o ov → RelV i iv → RelV v u → t o i v H Q →
    wpAny (model X.prog X.w) X.A (setItem ov iv u) (fun _ s' => ∃ H', Inv X pins σ H' s' ∧ Q H') X.xe s
abbrev TIp := V → V → Hp → VK → Prop
section
variable {X : Cx} {pos : Pos}
def gName (i : Nat) : TG := fun v σ H Q => Q (σ.set i (some v)) H
theorem pg_name {i : Nat} {x : Str} (hN : X.N.Nodup) (hi : X.N[i]? = some x) (hx : Loc X.env.scope x) (hf : X.fn x = true ∨ X.env.scope.names.lookup x = some .local := by first | exact .inl rfl | exact .inr rfl | assumption) : PG X (.Name x pos) (gName i) := by
  intro pins s σ H v u Q I r h
  exact wpAny_assign_Name (store_ok I hN hi hx r (fun s' I' => ⟨_, H, I', h⟩) hf)
def gNil : TGs := fun vs σ H Q => vs = [] ∧ Q σ H
def gCons (t : TG) (u : TGs) : TGs := fun vs σ H Q => ∃ v r, vs = v :: r ∧ t v σ H fun σ' H' => u r σ' H' Q
theorem pgs_nil : PGs X [] gNil := by
  intro pins s σ H vs us Q I r h
  obtain ⟨e, h⟩ := h
  subst e
  cases r
  exact assignInOrder_nil ⟨σ, H, I, h⟩
theorem pgs_cons {e : Expr} {es : List Expr} {t : TG} {u : TGs} (h1 : PG X e t) (h2 : PGs X es u)
    (hs : (assignEach (e :: es) X.env).map (·.2) = assign e X.env :: (assignEach es X.env).map (·.2) := by rfl) : PGs X (e :: es) (gCons t u) := by
  intro pins s σ H vs us Q I r h
  obtain ⟨v, vr, e1, h⟩ := h
  subst e1
  cases r with
  | cons r rr =>
    rw [hs]
    refine assignInOrder_cons (thn (h1 pins s σ H _ _ _ I r h) fun _ s1 ⟨σ1, H1, I1, q1⟩ => ?_)
    exact h2 pins s1 σ1 H1 _ _ Q I1 rr q1
def gTup (K : PySem.W.Frag) (n : Nat) (t : TGs) : TG := fun v σ H Q => ∃ a xs, v = .ref a ∧ SqT K H a xs ∧ xs.length = n ∧ t xs σ H Q
theorem pg_tup {es : List Expr} {k : Nat} {t : TGs} {n : Nat} (hc : X.calm = true) (h : PGs X es t)
    (hn : (assignEach es X.env).length = n := by rfl) (hst : (assignEach es X.env).findIdx? (·.1) = none := by rfl) : PG X (.Tuple es k pos) (gTup X.K n t) := by
  intro pins s σ H v u Q I r hw
  obtain ⟨a, xs, e1, hq, hl, hw⟩ := hw
  subst e1
  cases r
  obtain ⟨its, rv, ht, hz⟩ := I.tuple hq
  refine assign_Tuple_tuple (I.ok.hd hc) ht (by simp [hn, ← hl, rv.length]) hst fun h' hx => ?_
  have I1 : Inv X pins σ H { s with heap := h' } := I.kept (t' := s.toks) fun b o e => hx b o (Nat.ne_of_lt (Heap.lt_size e)) e
  exact h pins _ σ H xs _ Q I1 (by simpa using rv) hw
def gSub (to ti : TE) (t : TSet) : TG := fun v σ H Q => to σ H fun o H1 => ti σ H1 fun i H2 => t o i v H2 fun H3 => Q σ H3
theorem pg_sub {o i : Expr} {to ti : TE} {t : TSet} (ho : PE X o to) (hi : PE X i ti) (hs : PSet X t)
    (ha : ∀ v, assign (.Subscript o i pos) X.env v = (do
      let ov ← holding [v] (eval o X.env)
      let iv ← holding [v, ov] (eval i X.env)
      standAt pos
      holding [v, ov, iv] (setItem ov iv v)
      release [v, ov, iv] []) := by intro _; rfl) : PG X (.Subscript o i pos) (gSub to ti t) := by
  intro pins s σ H v u Q I r h
  rw [ha]
  refine wpAny_bind (wpAny_holding (thn (ho pins s σ H _ I h) fun ov s1 ⟨x, H1, I1, r1, q1⟩ => ?_))
  refine wpAny_bind (wpAny_holding (thn (hi pins s1 σ H1 _ I1 q1) fun iv s2 ⟨y, H2, I2, r2, q2⟩ => ?_))
  refine wpAny_bind (wpAny_standAt (wpAny_bind (wpAny_holding (thn (hs pins s2 σ H2 x y v ov iv u _ I2 r1 r2 r q2) fun _ s3 ⟨H3, I3, q3⟩ => ?_))))
  exact wpAny_release ⟨σ, H3, I3, q3⟩
def tAsg (te : TE) (g : TG) : TS := fun D σ H => te σ H fun x H1 => g x σ H1 D.nx
theorem ps_asg {tg e : Expr} {te : TE} {g : TG} (he : PE X e te) (hg : PG X tg g) (hs : swapsWithSole [tg] e pos.line X.env = pure false := by rfl) (hw : swappedStores [tg] e X.env = pure none := by rfl)
    (h1 : (assignEach [tg] X.env).map (·.2) = [assign tg X.env] := by rfl) : PS X (.Assign [tg] e pos) (tAsg te g) := by
  intro pins s σ H D I h
  refine wpAny_Assign_stores (thn (he pins s σ H _ I h) fun v s1 ⟨x, H1, I1, r1, q1⟩ => ?_) hs hw
  rw [h1]
  exact thn (hg pins s1 σ H1 x v _ I1 r1 q1) fun _ s2 q => q
theorem ps_set {i : Nat} {x : Str} {e : Expr} {te : TE} {pos' : Pos} (hN : X.N.Nodup) (hi : X.N[i]? = some x) (hx : Loc X.env.scope x) (he : PE X e te) (hs : swapsWith e (some (.Name x pos')) pos.line X.env = pure false := by rfl) (hf : X.fn x = true ∨ X.env.scope.names.lookup x = some .local := by first | exact .inl rfl | exact .inr rfl | assumption) :
    PS X (.Assign [.Name x pos'] e pos) (tAsg te (gName i)) := by
  intro pins s σ H D I h
  refine wpAny_Assign_Name (thn (he pins s σ H _ I h) fun v s1 ⟨y, H1, I1, r1, q1⟩ => ?_) hs
  exact store_ok I1 hN hi hx r1 (fun s2 I2 => ⟨_, H1, I2, q1⟩) hf
end
section
variable {X : Cx} {pos : Pos}
def tWhile (c : TT) (tb : TS) : TS := fun D σ H => ∃ W : Nat → St → Hp → Prop, (∃ m, W m σ H) ∧ ∀ m σ H, W m σ H →
  c σ H fun b H1 => if b = true then ∃ N : St → Hp → Prop, (∀ σ' H', N σ' H' → ∃ m', m' < m ∧ W m' σ' H') ∧ tb { D with nx := N, ct := N, bk := D.nx } σ H1 else D.nx σ H1
theorem ps_while {c : Expr} {body : List Stmt} {tc : TT} {tb : TS} (hp : PassesOwn (model X.prog X.w) X.A X.env X.xe) (hc : PT X c tc) (hb : PSs X body tb) : PS X (.While c body [] pos) (tWhile tc tb) := by
  intro pins s σ H D I h
  obtain ⟨W, ⟨m0, w0⟩, turn⟩ := h
  refine wpAny_While (codeAny_whileLoop (fun n s' => ∃ σ' H', Inv X pins σ' H' s' ∧ W n σ' H') ?_ m0 ⟨σ, H, I, w0⟩)
  rintro n s1 ⟨σ1, H1, I1, w1⟩
  refine wpAny_passesOwn hp (thn (hc pins s1 σ1 H1 _ I1 (turn n σ1 H1 w1)) fun b s2 ⟨H2, I2, q2⟩ => ?_)
  cases b with
  | true =>
    obtain ⟨N, hN, q2⟩ := q2
    rw [if_pos rfl]
    refine wpAny_passesOwn hp (thn (hb pins s2 σ1 H2 _ I2 q2) fun f s3 q3 => ?_)
    cases f with
    | next =>
      obtain ⟨σ3, H3, I3, n3⟩ := q3
      obtain ⟨m', hm, w3⟩ := hN σ3 H3 n3
      exact ⟨m', hm, σ3, H3, I3, w3⟩
    | cont =>
      obtain ⟨σ3, H3, I3, n3⟩ := q3
      obtain ⟨m', hm, w3⟩ := hN σ3 H3 n3
      exact ⟨m', hm, σ3, H3, I3, w3⟩
    | brk => exact q3
    | ret v => exact q3
  | false =>
    rw [if_neg Bool.false_ne_true]
    exact wpAny_execs_nil ⟨σ1, H2, I2, q2⟩
end
structure It where
  go : Nat → Hp → Prop
  yld : Nat → Hp → V → Hp → Prop
  stop : Nat → Hp → Prop
def FpOk (X : Cx) (pins : List (Addr × Obj)) (H : Hp) (b : Addr) : Prop :=
  H b = none ∧ b ≠ X.env.locals ∧ b ∉ X.fs ∧ (b ∈ X.ex ∨ X.s₀.heap.objs.size ≤ b) ∧ (∀ x c, X.env.cells.lookup x = some c → c ≠ b) ∧ ∀ p ∈ X.pn ++ pins, p.1 ≠ b
theorem Inv.fpOk {X : Cx} {pins : List (Addr × Obj)} {σ : St} {H H' : Hp} {s : Shared} {b : Addr} (I : Inv X pins σ H s) (hb : s.heap.objs.size ≤ b) (hn : H' b = none) : FpOk X pins H' b := by
  refine ⟨hn, Nat.ne_of_gt (Nat.lt_of_lt_of_le I.lt hb), I.nofs hb, .inr (Nat.le_trans I.sz hb), fun x c e z => ?_, fun p hp z => ?_⟩
  · obtain ⟨v, q⟩ := I.cell x c e
    exact absurd (Nat.lt_of_lt_of_le q.lt (by rw [z]; exact hb)) (Nat.lt_irrefl _)
  · exact absurd (Nat.lt_of_lt_of_le (Heap.lt_size (I.pin p hp).1) (by rw [z]; exact hb)) (Nat.lt_irrefl _)
structure Turn (P : Program) (w : World) (K : PySem.W.Frag) (tg : Expr) (J : It) (fp : List Addr) (it : Addr) (tn : Nat → Heap → Prop) : Prop where
  mem : it ∈ fp
  obj : ∀ i h, tn i h → ∀ b ∈ fp, ∃ o, h.get? b = some o ∧ ∀ v, o.data ≠ .cell v
  keep : ∀ i h h', tn i h → (∀ b ∈ fp, ∀ o, h.get? b = some o → h'.get? b = some o) → tn i h'
  item : ∀ (X : Cx), X.prog = P → X.w = w → X.K = K → X.calm = true → ∀ (i : Nat) (pins : List (Addr × Obj)) (s : Shared) (σ : St) (H : Hp) (E : Value → Shared → Prop), Inv X pins σ H s → (∀ b ∈ fp, FpOk X pins H b) → tn i s.heap → J.go i H →
    wpAny (model P w) X.A (pyNext (.ref it)) (fun r s1 => ∃ u, r = some u ∧
      wpAny (model P w) X.A (letOwnedTupleGo tg (.ref it) u) (fun _ s2 => ∃ x H', Inv X pins σ H' s2 ∧ RelV x u ∧ J.yld i H x H' ∧ tn (i + 1) s2.heap ∧ ∀ b ∈ fp, H' b = none) E s1) E s
  done : ∀ (X : Cx), X.prog = P → X.w = w → X.K = K → X.calm = true → ∀ (i : Nat) (pins : List (Addr × Obj)) (s : Shared) (σ : St) (H : Hp) (E : Value → Shared → Prop), Inv X pins σ H s → (∀ b ∈ fp, FpOk X pins H b) → tn i s.heap → J.stop i H →
    wpAny (model P w) X.A (pyNext (.ref it)) (fun r s1 => r = none ∧ Inv X pins σ H s1) E s
  self : ∀ (A : Around) (i : Nat) (s : Shared) (Q : Value → Shared → Prop) (E : Value → Shared → Prop), tn i s.heap → Q (.ref it) s → wpAny (model P w) A (pyIter (.ref it)) Q E s
abbrev TI := St → Hp → (It → Hp → Prop) → Prop
def PIE (X : Cx) (pins : List (Addr × Obj)) (σ : St) (tg : Expr) (R : It → Hp → Prop) (itv : Value) (s2 : Shared) : Prop :=
  ∃ (it : Addr) (fp : List Addr) (tn : Nat → Heap → Prop) (J : It) (H' : Hp), itv = .ref it ∧ Inv X pins σ H' s2 ∧ Turn X.prog X.w X.K tg J fp it tn ∧ tn 0 s2.heap ∧ (∀ b ∈ fp, FpOk X pins H' b) ∧ R J H'
def PI (X : Cx) (tg iter : Expr) (wi : TI) : Prop :=
  ∀ (pins : List (Addr × Obj)) (s : Shared) (σ : St) (H : Hp) (R : It → Hp → Prop), Inv X pins σ H s → wi σ H R →
    wpAny (model X.prog X.w) X.A (eval iter X.env) (fun v s1 => wpAny (model X.prog X.w) X.A (pyIter v) (PIE X pins σ tg R) X.xe s1) X.xe s
theorem go_of {M : Model} {A : Around} {E : Value → Shared → Prop} {s : Shared} {tg : Expr} {it : Addr} {u : Value} {o : Obj} {n : String} {vs : Array Value} {Q : Unit → Shared → Prop} (ho : s.heap.get? it = some o) (hc : o.cls = .type n) (hd : o.data = .fields vs)
    (hn : ["enumerate", "zip", "dict_itemiterator", "dict_reverseitemiterator", "odict_iterator", "itertools.zip_longest", "itertools.pairwise"].contains n = false) (hQ : Q () s) : wpAny M A (letOwnedTupleGo tg (.ref it) u) Q E s := by
  unfold letOwnedTupleGo
  cases tg <;> first
    | exact wpAny_pure hQ
    | (cases u <;> first
        | exact wpAny_pure hQ
        | (refine wpAny_bind (wpAny_load ho ?_)
           rw [hc, hd]
           show wpAny M A (if (["enumerate", "zip", "dict_itemiterator", "dict_reverseitemiterator", "odict_iterator", "itertools.zip_longest", "itertools.pairwise"].contains n && vs[0]? == some (rawInt _)) = true then _ else _) Q E s
           rw [if_neg (by intro h; rw [hn, Bool.false_and] at h; cases h)]
           exact wpAny_pure hQ))
def Itl (K : PySem.W.Frag) (a : Addr) : It :=
  ⟨fun i H => ∃ xs x, SqL K H a xs ∧ xs[i]? = some x, fun i H x H' => H' = H ∧ ∀ xs, SqL K H a xs → xs[i]? = some x, fun i H => ∃ xs, SqL K H a xs ∧ xs.length ≤ i⟩
def Itt (K : PySem.W.Frag) (a : Addr) : It :=
  ⟨fun i H => ∃ xs x, SqT K H a xs ∧ xs[i]? = some x, fun i H x H' => H' = H ∧ ∀ xs, SqT K H a xs → xs[i]? = some x, fun i H => ∃ xs, SqT K H a xs ∧ xs.length ≤ i⟩
def Itr (lo : Int) (n : Nat) : It := ⟨fun i _ => i < n, fun i H x H' => H' = H ∧ x = .int (lo + i), fun i _ => n ≤ i⟩
theorem turn_list {P : Program} {w : World} {K : PySem.W.Frag} {tg : Expr} (a it : Addr) : Turn P w K tg (Itl K a) [it] it (fun i h => h.IsListIter it a i) where
  mem := by simp
  obj := fun i h st b hb => by
    have e : b = it := by simpa using hb
    subst e
    obtain ⟨o, e, c, d⟩ := st
    exact ⟨o, e, fun v z => by rw [d] at z; cases z⟩
  keep := fun i h h' st k => st.at fun o e => k it (by simp) o e
  item := by
    intro X hP hw hK hc i pins s σ H E I hf st hg
    subst hP hw hK
    obtain ⟨xs, x, hq, hx⟩ := hg
    obtain ⟨its, rv, p, hz⟩ := I.list hq
    obtain ⟨u, hu, ru⟩ := rv.get hx
    obtain ⟨f0, f1, f2, f3, f4, f5⟩ := hf it (by simp)
    refine wpAny_pyNext_list_item st p.isList (x := u) (by simpa using hu) fun h' st' sb => ?_
    have I1 : Inv X pins σ H { s with heap := h' } := I.turned (t' := s.toks) (fun b o hb e => (sb.2 b hb).trans e) f0 f1 f3 f4 f5
    obtain ⟨o, e, c, d⟩ := id st'
    exact ⟨u, rfl, go_of (s := { s with heap := h' }) e c d (by decide) ⟨x, H, I1, ru, ⟨rfl, fun ys hy => by rw [I.list_inj hy hq]; exact hx⟩, st', fun b hb => (hf b hb).1⟩⟩
  done := by
    intro X hP hw hK hc i pins s σ H E I hf st hg
    subst hP hw hK
    obtain ⟨xs, hq, hx⟩ := hg
    obtain ⟨its, rv, p, hz⟩ := I.list hq
    obtain ⟨f0, f1, f2, f3, f4, f5⟩ := hf it (by simp)
    have hl := rv.length
    exact wpAny_pyNext_list_end (I.ok.hd hc) st p.isList (by simp; omega) fun h' eb => ⟨rfl, I.turned (t' := s.toks) (fun b o hb e => eb b o hb e) f0 f1 f3 f4 f5⟩
  self := fun _ _ _ _ _ st h => wpAny_pyIter_listiter st h
theorem turn_tuple {P : Program} {w : World} {K : PySem.W.Frag} {tg : Expr} (a it : Addr) : Turn P w K tg (Itt K a) [it] it (fun i h => h.IsTupleIter it a i) where
  mem := by simp
  obj := fun i h st b hb => by
    have e : b = it := by simpa using hb
    subst e
    obtain ⟨o, e, c, d⟩ := st
    exact ⟨o, e, fun v z => by rw [d] at z; cases z⟩
  keep := fun i h h' st k => st.at fun o e => k it (by simp) o e
  item := by
    intro X hP hw hK hc i pins s σ H E I hf st hg
    subst hP hw hK
    obtain ⟨xs, x, hq, hx⟩ := hg
    obtain ⟨its, rv, p, hz⟩ := I.tuple hq
    obtain ⟨u, hu, ru⟩ := rv.get hx
    obtain ⟨f0, f1, f2, f3, f4, f5⟩ := hf it (by simp)
    refine wpAny_pyNext_tuple_item st (show s.heap.IsTuple a its.toArray from p) (x := u) (by simpa using hu) fun h' st' sb => ?_
    have I1 : Inv X pins σ H { s with heap := h' } := I.turned (t' := s.toks) (fun b o hb e => (sb.2 b hb).trans e) f0 f1 f3 f4 f5
    obtain ⟨o, e, c, d⟩ := id st'
    exact ⟨u, rfl, go_of (s := { s with heap := h' }) e c d (by decide) ⟨x, H, I1, ru, ⟨rfl, fun ys hy => by rw [I.tuple_inj hy hq]; exact hx⟩, st', fun b hb => (hf b hb).1⟩⟩
  done := by
    intro X hP hw hK hc i pins s σ H E I hf st hg
    subst hP hw hK
    obtain ⟨xs, hq, hx⟩ := hg
    obtain ⟨its, rv, p, hz⟩ := I.tuple hq
    obtain ⟨f0, f1, f2, f3, f4, f5⟩ := hf it (by simp)
    have hl := rv.length
    exact wpAny_pyNext_tuple_end (I.ok.hd hc) st (show s.heap.IsTuple a its.toArray from p) (by simp; omega) fun h' eb => ⟨rfl, I.turned (t' := s.toks) (fun b o hb e => eb b o hb e) f0 f1 f3 f4 f5⟩
  self := fun _ _ _ _ _ st h => wpAny_pyIter_tupleiter st h
theorem turn_range {P : Program} {w : World} {K : PySem.W.Frag} {tg : Expr} (it : Addr) (lo : Int) (n : Nat) : Turn P w K tg (Itr lo n) [it] it (fun i h => IsRangeIter h it (lo + (i : Nat) * 1) ((n : Int) - (i : Nat)) 1) where
  mem := by simp
  obj := fun i h st b hb => by
    have e : b = it := by simpa using hb
    subst e
    exact ⟨_, st, fun v z => by
      have z' : Data.fields _ = Data.cell v := z
      cases z'⟩
  keep := fun i h h' st k => k it (by simp) _ st
  item := by
    intro X hP hw hK hc i pins s σ H E I hf st hg
    subst hP hw hK
    obtain ⟨f0, f1, f2, f3, f4, f5⟩ := hf it (by simp)
    have W := Walks.range (prog := X.prog) (w := X.w) (I.ok.hd hc) it lo 1 n
    refine W.item i s _ _ hg st fun v h' tk hv st' kk => ?_
    obtain ⟨t, rfl⟩ := hv
    have I1 : Inv X pins σ H { s with heap := h', toks := tk } := I.turned (fun b o hb e => kk b o (by simpa using hb) e) f0 f1 f3 f4 f5
    refine ⟨_, rfl, go_of (s := { s with heap := h', toks := tk }) (n := "range_iterator") st' rfl rfl (by decide) ⟨.int (lo + i), H, I1, ⟨t, ?_⟩, ⟨rfl, rfl⟩, st', fun b hb => (hf b hb).1⟩⟩
    rw [Int.mul_one]
  done := by
    intro X hP hw hK hc i pins s σ H E I hf st hg
    subst hP hw hK
    obtain ⟨f0, f1, f2, f3, f4, f5⟩ := hf it (by simp)
    exact wpAny_pyNext_range_end (I.ok.hd hc) st (by have : n ≤ i := hg; omega) fun h' eb => ⟨rfl, I.turned (t' := s.toks) (fun b o hb e => eb b o hb e) f0 f1 f3 f4 f5⟩
  self := fun _ _ _ _ _ st h => wpAny_pyIter_rangeiter st h
end L2
namespace L2
open PySem PySem.Spec PyProof.Rows
section
variable {X : Cx} {tg : Expr}
def iList (K : PySem.W.Frag) (tl : TE) : TI := fun σ H R => tl σ H fun x H1 => ∃ a, x = .ref a ∧ (∃ xs, SqL K H1 a xs) ∧ R (Itl K a) H1
def iTup (K : PySem.W.Frag) (tl : TE) : TI := fun σ H R => tl σ H fun x H1 => ∃ a, x = .ref a ∧ (∃ xs, SqT K H1 a xs) ∧ R (Itt K a) H1
theorem pi_list {l : Expr} {tl : TE} (hl : PE X l tl) : PI X tg l (iList X.K tl) := by
  intro pins s σ H R I h
  refine thn (hl pins s σ H _ I h) fun v s1 ⟨x, H1, I1, r1, q1⟩ => ?_
  obtain ⟨a, e, ⟨xs, hq⟩, q⟩ := q1
  subst e
  cases r1
  obtain ⟨its, rv, p, hz⟩ := I1.list hq
  refine wpAny_pyIter_list p.isList ?_
  refine ⟨s1.heap.objs.size, [s1.heap.objs.size], _, _, H1, rfl, I1.kept (t' := s1.toks) fun b o e => Heap.get?_push_of_some _ e, turn_list a _, ⟨_, Heap.get?_push_size _ rfl, rfl, rfl⟩, fun b hb => ?_, q⟩
  have e : b = s1.heap.objs.size := by simpa using hb
  subst e
  exact I1.fpOk (Nat.le_refl _) (I1.hok.fresh (Nat.le_refl _))
theorem pi_tup {l : Expr} {tl : TE} (hl : PE X l tl) : PI X tg l (iTup X.K tl) := by
  intro pins s σ H R I h
  refine thn (hl pins s σ H _ I h) fun v s1 ⟨x, H1, I1, r1, q1⟩ => ?_
  obtain ⟨a, e, ⟨xs, hq⟩, q⟩ := q1
  subst e
  cases r1
  obtain ⟨its, rv, p, hz⟩ := I1.tuple hq
  refine wpAny_pyIter_tuple (show s1.heap.IsTuple a its.toArray from p) ?_
  refine ⟨s1.heap.objs.size, [s1.heap.objs.size], _, _, H1, rfl, I1.kept (t' := s1.toks) fun b o e => Heap.get?_push_of_some _ e, turn_tuple a _, ⟨_, Heap.get?_push_size _ rfl, rfl, rfl⟩, fun b hb => ?_, q⟩
  have e : b = s1.heap.objs.size := by simpa using hb
  subst e
  exact I1.fpOk (Nat.le_refl _) (I1.hok.fresh (Nat.le_refl _))
theorem range_it {pins : List (Addr × Obj)} {σ : St} {H : Hp} {s : Shared} {R : It → Hp → Prop} {E : Value → Shared → Prop} {lo hi : Int} {t u v : Tok} {tk : Nat} (I : Inv X pins σ H s) (h1 : -(2 ^ 62) ≤ lo) (h2 : lo < 2 ^ 62) (h3 : -(2 ^ 62) ≤ hi) (h4 : hi < 2 ^ 62)
    (q : R (Itr lo (hi - lo).toNat) H) : wpAny (model X.prog X.w) X.A (pyIter (.ref s.heap.objs.size)) (PIE X pins σ tg R) E { s with heap := s.heap.push { cls := .type "range", data := .fields #[.int lo t, .int hi u, .int 1 v] }, toks := tk } := by
  refine wpAny_pyIter_range (IsRange.new ..) (small_one h1 h2 h3 h4) ?_
  have I1 : Inv X pins σ H { s with heap := s.heap.push { cls := .type "range", data := .fields #[.int lo t, .int hi u, .int 1 v] }, toks := tk } := I.kept fun b o e => Heap.get?_push_of_some _ e
  refine ⟨(s.heap.push { cls := .type "range", data := .fields #[.int lo t, .int hi u, .int 1 v] }).objs.size, [(s.heap.push { cls := .type "range", data := .fields #[.int lo t, .int hi u, .int 1 v] }).objs.size], _, _, H, rfl,
    I1.kept (t' := tk) fun b o e => Heap.get?_push_of_some _ e, turn_range _ lo (hi - lo).toNat, ?_, fun b hb => ?_, q⟩
  · have e1 : lo + ((0 : Nat) : Int) * 1 = lo := by simp
    have e2 : (((hi - lo).toNat : Nat) : Int) - ((0 : Nat) : Int) = Builtin.Range.rangeSize lo hi 1 := by rw [rangeSize_one]; split <;> omega
    show IsRangeIter _ _ (lo + ((0 : Nat) : Int) * 1) ((((hi - lo).toNat : Nat) : Int) - ((0 : Nat) : Int)) 1
    rw [e1, e2]
    exact Heap.get?_push_size _ rfl
  · have e : b = (s.heap.push { cls := .type "range", data := .fields #[.int lo t, .int hi u, .int 1 v] }).objs.size := by simpa using hb
    subst e
    exact I1.fpOk (Nat.le_refl _) (I1.hok.fresh (Nat.le_refl _))
def iRng1 (ta : TA) : TI := fun σ H R => ta σ H fun vs H1 => ∃ j : Int, vs = [.int j] ∧ -(2 ^ 62) ≤ j ∧ j < 2 ^ 62 ∧ R (Itr 0 j.toNat) H1
def iRng2 (ta : TA) : TI := fun σ H R => ta σ H fun vs H1 => ∃ i j : Int, vs = [.int i, .int j] ∧ (-(2 ^ 62) ≤ i ∧ i < 2 ^ 62 ∧ -(2 ^ 62) ≤ j ∧ j < 2 ^ 62) ∧ R (Itr i (j - i).toNat) H1
theorem pi_range1 {a : Expr} {ta : TA} {p pos : Pos} (hg : Gl X "range") (hm : X.mg "range" = none) (ha : PA X [a] ta) (hs : starEach [a] X.env = [(false, eval a X.env)] := by rfl) : PI X tg (.Call (.Name "range" p) [a] [] pos) (iRng1 ta) := by
  intro pins s σ H R I h
  refine Call_ (ld_blt I hg hm boot_range (PyProof.Rows.callWith_type1 (thn (ha pos pins s σ H _ I h) fun us s1 ⟨vs, H1, I1, r1, q1⟩ => ?_) hs rfl))
  obtain ⟨j, e, q1, q2, q⟩ := q1
  subst e
  cases r1 with
  | cons r rr =>
    cases rr
    obtain ⟨t, rfl⟩ := r
    exact call_range_1 (range_it I1 (by omega) (by omega) q1 q2 (by simpa using q))
theorem pi_range2 {a b : Expr} {ta : TA} {p pos : Pos} (hg : Gl X "range") (hm : X.mg "range" = none) (ha : PA X [a, b] ta) (hs : starEach [a, b] X.env = [(false, eval a X.env), (false, eval b X.env)] := by rfl) (hs2 : starEach [b] X.env = [(false, eval b X.env)] := by rfl) :
    PI X tg (.Call (.Name "range" p) [a, b] [] pos) (iRng2 ta) := by
  intro pins s σ H R I h
  refine Call_ (ld_blt I hg hm boot_range (PyProof.Rows.callWith_type1 (thn (ha pos pins s σ H _ I h) fun us s1 ⟨vs, H1, I1, r1, q1⟩ => ?_) (by rw [hs, hs2]) (by rw [hs2]; rfl)))
  obtain ⟨i, j, e, ⟨q1, q2, q3, q4⟩, q⟩ := q1
  subst e
  cases r1 with
  | cons r rr =>
    cases rr with
    | cons r' rr =>
      cases rr
      obtain ⟨t, rfl⟩ := r
      obtain ⟨t', rfl⟩ := r'
      exact call_range_2 (range_it I1 q1 q2 q3 q4 q)
def tFor (wi : TI) (g : TG) (tb : TS) : TS := fun D σ H => wi σ H fun J H1 => ∃ W : Nat → Nat → St → Hp → Prop, (∃ m, W 0 m σ H1) ∧ ∀ i m σ H, W i m σ H →
  (J.stop i H ∧ D.nx σ H) ∨ (J.go i H ∧ ∃ N : St → Hp → Prop, (∀ σ' H', N σ' H' → ∃ m', m' < m ∧ W (i + 1) m' σ' H') ∧ ∀ x H', J.yld i H x H' → g x σ H' fun σ2 H2 => tb { D with nx := N, ct := N, bk := D.nx } σ2 H2)
def pinsAt (fp : List Addr) (h : Heap) : List (Addr × Obj) := fp.filterMap fun b => (h.get? b).map fun o => (b, o)
theorem mem_pinsAt {fp : List Addr} {h : Heap} {b : Addr} {o : Obj} (hb : b ∈ fp) (e : h.get? b = some o) : (b, o) ∈ pinsAt fp h := List.mem_filterMap.mpr ⟨b, hb, by rw [e]; rfl⟩
theorem of_pinsAt {fp : List Addr} {h : Heap} {p : Addr × Obj} (hp : p ∈ pinsAt fp h) : p.1 ∈ fp ∧ h.get? p.1 = some p.2 := by
  obtain ⟨b, hb, e⟩ := List.mem_filterMap.mp hp
  cases q : h.get? b with
  | none => rw [q] at e; cases e
  | some o =>
    rw [q] at e
    have e' : (b, o) = p := Option.some.inj e
    subst e'
    exact ⟨hb, q⟩
theorem Inv.pinned {pins : List (Addr × Obj)} {σ : St} {H : Hp} {s : Shared} {fp : List Addr} (I : Inv X pins σ H s) (hf : ∀ b ∈ fp, FpOk X pins H b) (ho : ∀ b ∈ fp, ∃ o, s.heap.get? b = some o ∧ ∀ v, o.data ≠ .cell v) : Inv X (pins ++ pinsAt fp s.heap) σ H s :=
  I.pins_of fun p hp => (List.mem_append.mp hp).elim (fun z => I.pin p (List.mem_append_right _ z)) fun z => by
    obtain ⟨hb, e⟩ := of_pinsAt z
    obtain ⟨f0, f1, f2, _⟩ := hf p.1 hb
    obtain ⟨o, e', d⟩ := ho p.1 hb
    rw [e] at e'; cases e'
    exact ⟨e, f0, f1, f2, d⟩
theorem Inv.unpinned {pins pl : List (Addr × Obj)} {σ : St} {H : Hp} {s : Shared} (I : Inv X (pins ++ pl) σ H s) : Inv X pins σ H s := I.pins_of fun p hp => I.pin p (List.mem_append_right _ (List.mem_append_left _ hp))
theorem ps_for {iter : Expr} {body : List Stmt} {wi : TI} {g : TG} {tb : TS} {pos : Pos} (hp : PassesOwn (model X.prog X.w) X.A X.env X.xe) (hc : X.calm = true) (hi : PI X tg iter wi) (hg : PG X tg g) (hb : PSs X body tb)
    (hs : ∀ x, foldedSetIterable iter X.env x = pure x := by intro _; rfl) : PS X (.For tg iter body [] pos) (tFor wi g tb) := by
  intro pins s σ H D I h
  refine wpAny_For (thn (hi pins s σ H _ I h) fun v s1 h1 => thn h1 fun itv s2 h2 => ?_) hs
  obtain ⟨it, fp, tn, J, H2, e, I2, T, st2, f2, W, ⟨m0, w0⟩, turn⟩ := h2
  subst e
  have stat : ∀ {H' : Hp}, (∀ b ∈ fp, H' b = none) → ∀ b ∈ fp, FpOk X pins H' b := fun hn b hb => ⟨hn b hb, (f2 b hb).2⟩
  refine codeAny_forLoop_any (fun n s' => ∃ i σ' H', Inv X pins σ' H' s' ∧ tn i s'.heap ∧ (∀ b ∈ fp, H' b = none) ∧ W i n σ' H') ?_ m0 ⟨0, σ, H2, I2, st2, fun b hb => (f2 b hb).1, w0⟩
  rintro n s3 ⟨i, σ3, H3, I3, st3, fr3, w3⟩
  rcases turn i n σ3 H3 w3 with ⟨stop, qn⟩ | ⟨go, N, hN, step⟩
  · refine wpAny_passesOwn hp (thn (T.done X rfl rfl rfl hc i pins s3 σ3 H3 X.xe I3 (stat fr3) st3 stop) fun r s4 ⟨hr, I4⟩ => ?_)
    subst hr
    exact wpAny_execs_nil ⟨σ3, H3, I4, qn⟩
  · refine wpAny_passesOwn hp (thn (T.item X rfl rfl rfl hc i pins s3 σ3 H3 X.xe I3 (stat fr3) st3 go) fun r s4 ⟨u, hr, h4⟩ => ?_)
    subst hr
    refine wpAny_passesOwn hp (thn h4 fun _ s5 ⟨x, H5, I5, r5, y5, st5, fr5⟩ => ?_)
    have I5' := I5.pinned (stat fr5) (T.obj _ _ st5)
    refine wpAny_passesOwn hp (thn (hg _ s5 σ3 H5 x u _ I5' r5 (step x H5 y5)) fun _ s6 ⟨σ6, H6, I6, q6⟩ => ?_)
    refine wpAny_passesOwn hp (thn (hb _ s6 σ6 H6 _ I6 q6) fun f s7 q7 => ?_)
    have again : ∀ {σ7 : St} {H7 : Hp}, Inv X (pins ++ pinsAt fp s5.heap) σ7 H7 s7 → N σ7 H7 → ∃ m, m < n ∧ ∃ i σ' H', Inv X pins σ' H' s7 ∧ tn i s7.heap ∧ (∀ b ∈ fp, H' b = none) ∧ W i m σ' H' := fun {σ7 H7} I7 n7 => by
      obtain ⟨m', hm, w7⟩ := hN σ7 H7 n7
      refine ⟨m', hm, i + 1, σ7, H7, I7.unpinned, T.keep _ _ _ st5 fun b hb o e => (I7.pin (b, o) (List.mem_append_right _ (List.mem_append_right _ (mem_pinsAt hb e)))).1, fun b hb => ?_, w7⟩
      obtain ⟨o, e, d⟩ := T.obj _ _ st5 b hb
      exact (I7.pin (b, o) (List.mem_append_right _ (List.mem_append_right _ (mem_pinsAt hb e)))).2.1
    cases f with
    | next => obtain ⟨σ7, H7, I7, n7⟩ := q7; exact again I7 n7
    | cont => obtain ⟨σ7, H7, I7, n7⟩ := q7; exact again I7 n7
    | brk => obtain ⟨σ7, H7, I7, q7⟩ := q7; exact ⟨σ7, H7, I7.unpinned, q7⟩
    | ret v => obtain ⟨x7, σ7, H7, I7, r7, q7⟩ := q7; exact ⟨x7, σ7, H7, I7.unpinned, r7, q7⟩
end
theorem for_list {K : PySem.W.Frag} {a : Addr} {xs : List V} {g : TG} {tb : TS} {D : Ends} {σ : St} {H : Hp} (Pv : Nat → St → Hp → Prop) (h0 : Pv 0 σ H) (hl : ∀ i σ H, i ≤ xs.length → Pv i σ H → SqL K H a xs)
    (hs : ∀ i x σ H, xs[i]? = some x → Pv i σ H → g x σ H fun σ2 H2 => tb { D with nx := Pv (i + 1), ct := Pv (i + 1), bk := D.nx } σ2 H2) (hd : ∀ σ H, Pv xs.length σ H → D.nx σ H) :
    ∃ W : Nat → Nat → St → Hp → Prop, (∃ m, W 0 m σ H) ∧ ∀ i m σ H, W i m σ H →
      ((Itl K a).stop i H ∧ D.nx σ H) ∨ ((Itl K a).go i H ∧ ∃ N : St → Hp → Prop, (∀ σ' H', N σ' H' → ∃ m', m' < m ∧ W (i + 1) m' σ' H') ∧ ∀ x H', (Itl K a).yld i H x H' → g x σ H' fun σ2 H2 => tb { D with nx := N, ct := N, bk := D.nx } σ2 H2) := by
  refine ⟨fun i m σ H => m = xs.length - i ∧ i ≤ xs.length ∧ Pv i σ H, ⟨xs.length, by simp, Nat.zero_le _, h0⟩, ?_⟩
  rintro i m σ H ⟨rfl, hi, p⟩
  have q := hl i σ H hi p
  by_cases hlt : i < xs.length
  · refine .inr ⟨⟨xs, xs[i], q, by simp [hlt]⟩, Pv (i + 1), fun σ' H' p' => ⟨xs.length - (i + 1), by omega, rfl, hlt, p'⟩, fun x H' y => ?_⟩
    obtain ⟨e, y⟩ := y
    subst e
    exact hs i x σ _ (y xs q) p
  · have e : i = xs.length := by omega
    subst e
    exact .inl ⟨⟨xs, q, Nat.le_refl _⟩, hd σ H p⟩
theorem for_range {lo : Int} {n : Nat} {g : TG} {tb : TS} {D : Ends} {σ : St} {H : Hp} (Pv : Nat → St → Hp → Prop) (h0 : Pv 0 σ H)
    (hs : ∀ i σ H, i < n → Pv i σ H → g (.int (lo + i)) σ H fun σ2 H2 => tb { D with nx := Pv (i + 1), ct := Pv (i + 1), bk := D.nx } σ2 H2) (hd : ∀ σ H, Pv n σ H → D.nx σ H) :
    ∃ W : Nat → Nat → St → Hp → Prop, (∃ m, W 0 m σ H) ∧ ∀ i m σ H, W i m σ H →
      ((Itr lo n).stop i H ∧ D.nx σ H) ∨ ((Itr lo n).go i H ∧ ∃ N : St → Hp → Prop, (∀ σ' H', N σ' H' → ∃ m', m' < m ∧ W (i + 1) m' σ' H') ∧ ∀ x H', (Itr lo n).yld i H x H' → g x σ H' fun σ2 H2 => tb { D with nx := N, ct := N, bk := D.nx } σ2 H2) := by
  refine ⟨fun i m σ H => m = n - i ∧ i ≤ n ∧ Pv i σ H, ⟨n, by simp, Nat.zero_le _, h0⟩, ?_⟩
  rintro i m σ H ⟨rfl, hi, p⟩
  by_cases hlt : i < n
  · refine .inr ⟨hlt, Pv (i + 1), fun σ' H' p' => ⟨n - (i + 1), by omega, rfl, hlt, p'⟩, fun x H' y => ?_⟩
    obtain ⟨e, y⟩ := y
    subst e y
    exact hs i σ _ hlt p
  · have e : i = n := by omega
    subst e
    exact .inl ⟨Nat.le_refl _, hd σ H p⟩
end L2
namespace L2
open PySem PySem.Spec PyProof.Rows
abbrev R2 := V → V → Hp → VK → Prop
def OpR (X : Cx) (f : Value → Value → Sem Value) (r : R2) : Prop :=
  ∀ (pins : List (Addr × Obj)) (s : Shared) (σ : St) (H : Hp) (x y : V) (v u : Value) (Q : VK), Inv X pins σ H s → RelV x v → RelV y u → r x y H Q →
    wpAny (model X.prog X.w) X.A (f v u) (EP X pins σ Q) X.xe s
def UnR (X : Cx) (f : Value → Sem Value) (r : V → Hp → VK → Prop) : Prop :=
  ∀ (pins : List (Addr × Obj)) (s : Shared) (σ : St) (H : Hp) (x : V) (v : Value) (Q : VK), Inv X pins σ H s → RelV x v → r x H Q →
    wpAny (model X.prog X.w) X.A (f v) (EP X pins σ Q) X.xe s
def CallR (X : Cx) (f : Value) (r : List V → Hp → VK → Prop) : Prop :=
  ∀ (pins : List (Addr × Obj)) (s : Shared) (σ : St) (H : Hp) (xs : List V) (us : List Value) (Q : VK), Inv X pins σ H s → Vals xs us → r xs H Q →
    wpAny (model X.prog X.w) X.A (call f us) (EP X pins σ Q) X.xe s
def TruR (X : Cx) (r : V → Hp → (Bool → Hp → Prop) → Prop) : Prop :=
  ∀ (pins : List (Addr × Obj)) (s : Shared) (σ : St) (H : Hp) (x : V) (v : Value) (Q : Bool → Hp → Prop), Inv X pins σ H s → RelV x v → r x H Q →
    wpAny (model X.prog X.w) X.A (truthy v) (TP X pins σ Q) X.xe s
def tOp (r : R2) (ta tb : TE) : TE := fun σ H Q => ta σ H fun x H1 => tb σ H1 fun y H2 => r x y H2 Q
def tUn (r : V → Hp → VK → Prop) (ta : TE) : TE := fun σ H Q => ta σ H fun x H1 => r x H1 Q
def rI (C : Int → Int → Prop) (g : Int → Int → V) : R2 := fun x y H Q => ∃ i j, x = .int i ∧ y = .int j ∧ C i j ∧ Q (g i j) H
def rI0 (g : Int → Int → V) : R2 := fun x y H Q => ∃ i j, x = .int i ∧ y = .int j ∧ Q (g i j) H
def rU (g : Int → V) : V → Hp → VK → Prop := fun x H Q => ∃ i, x = .int i ∧ Q (g i) H
section
variable {X : Cx} {a b c : Expr} {ta tb tc : TE} {pos : Pos}
theorem binT (ha : PE X a ta) (hb : PE X b tb) {pins : List (Addr × Obj)} {s : Shared} {σ : St} {H : Hp} {R : V → V → Hp → Prop} (I : Inv X pins σ H s)
    (h : ta σ H fun x H1 => tb σ H1 fun y H2 => R x y H2) {Q : Value → Shared → Prop} {f : Value → Value → Sem Value}
    (hf : ∀ v u s2 x y H2, Inv X pins σ H2 s2 → RelV x v → RelV y u → R x y H2 → wpAny (model X.prog X.w) X.A (f v u) Q X.xe s2) :
    wpAny (model X.prog X.w) X.A (eval a X.env) (fun v s₁ => wpAny (model X.prog X.w) X.A (eval b X.env) (fun u s₂ => wpAny (model X.prog X.w) X.A (f v u) Q X.xe s₂) X.xe s₁) X.xe s := by
  refine thn (ha pins s σ H _ I h) fun v s1 ⟨x, H1, I1, r1, q1⟩ => ?_
  refine thn (hb pins s1 σ H1 _ I1 q1) fun u s2 ⟨y, H2, I2, r2, q2⟩ => ?_
  exact hf v u s2 x y H2 I2 r1 r2 q2
theorem pe_op {op : Operator} {r : R2} (ho : OpR X (binaryOp op) r) (ha : PE X a ta) (hb : PE X b tb) : PE X (.BinOp a op b pos) (tOp r ta tb) := by
  intro pins s σ H Q I h
  exact wpAny_BinOp (binT ha hb I h fun v u s2 x y H2 I2 rx ry q => ho pins s2 σ H2 x y v u Q I2 rx ry q)
theorem pe_un {op : UnaryOp} {r : V → Hp → VK → Prop} (ho : UnR X (unaryOp op) r) (ha : PE X a ta) : PE X (.UnaryOp op a pos) (tUn r ta) := by
  intro pins s σ H Q I h
  exact UnaryOp_ (thn (ha pins s σ H _ I h) fun v s1 ⟨x, H1, I1, r1, q1⟩ => ho pins s1 σ H1 x v Q I1 r1 q1)
theorem opI {f : Value → Value → Sem Value} {C : Int → Int → Prop} {g : Int → Int → Int}
    (rule : ∀ (i j : Int) (t u : Tok) (s : Shared) (Q : Value → Shared → Prop) (E : Value → Shared → Prop), C i j → Q (.int (g i j) s.toks) { s with toks := s.toks + 1 } → wpAny (model X.prog X.w) X.A (f (.int i t) (.int j u)) Q E s) :
    OpR X f (rI C fun i j => .int (g i j)) := by
  intro pins s σ H x y v u Q I rx ry h
  obtain ⟨i, j, rfl, rfl, hc, q⟩ := h
  obtain ⟨t, rfl⟩ := rx
  obtain ⟨t', rfl⟩ := ry
  exact rule i j t t' s _ _ hc ⟨.int (g i j), H, I.tok _, ⟨_, rfl⟩, q⟩
theorem opI0 {f : Value → Value → Sem Value} {g : Int → Int → Int}
    (rule : ∀ (i j : Int) (t u : Tok) (s : Shared) (Q : Value → Shared → Prop) (E : Value → Shared → Prop), Q (.int (g i j) s.toks) { s with toks := s.toks + 1 } → wpAny (model X.prog X.w) X.A (f (.int i t) (.int j u)) Q E s) :
    OpR X f (rI0 fun i j => .int (g i j)) := by
  intro pins s σ H x y v u Q I rx ry h
  obtain ⟨i, j, rfl, rfl, q⟩ := h
  obtain ⟨t, rfl⟩ := rx
  obtain ⟨t', rfl⟩ := ry
  exact rule i j t t' s _ _ ⟨.int (g i j), H, I.tok _, ⟨_, rfl⟩, q⟩
theorem opB0 {f : Value → Value → Sem Value} {g : Int → Int → Bool}
    (rule : ∀ (i j : Int) (t u : Tok) (s : Shared) (Q : Value → Shared → Prop) (E : Value → Shared → Prop), Q (.bool (g i j)) s → wpAny (model X.prog X.w) X.A (f (.int i t) (.int j u)) Q E s) :
    OpR X f (rI0 fun i j => .bl (g i j)) := by
  intro pins s σ H x y v u Q I rx ry h
  obtain ⟨i, j, rfl, rfl, q⟩ := h
  obtain ⟨t, rfl⟩ := rx
  obtain ⟨t', rfl⟩ := ry
  exact rule i j t t' s _ _ ⟨.bl (g i j), H, I, rfl, q⟩
def CDiv (i j : Int) : Prop := 0 < j ∧ j < 1073741824
def CPow (i j : Int) : Prop := 0 ≤ j ∧ j ≤ 1000000 ∧ i.natAbs < 2 ^ 64
def CMul (i j : Int) : Prop := (-(2 ^ 64) < i ∧ i < 2 ^ 64) ∨ (-(2 ^ 64) < j ∧ j < 2 ^ 64)
theorem CMul.ok {i j : Int} (h : CMul i j) : IntMulOk i j := by
  rcases h with ⟨h1, h2⟩ | ⟨h1, h2⟩
  · exact .of_left (intBits_le_64 h1 h2)
  · exact .of_right (intBits_le_64 h1 h2)
theorem op_add : OpR X (binaryOp .Add) (rI0 fun i j => .int (i + j)) := opI0 fun _ _ _ _ _ _ _ q => add_int q
theorem op_sub : OpR X (binaryOp .Sub) (rI0 fun i j => .int (i - j)) := opI0 fun _ _ _ _ _ _ _ q => sub_int q
theorem op_mul : OpR X (binaryOp .Mult) (rI CMul fun i j => .int (i * j)) := opI fun _ _ _ _ _ _ _ hc q => mul_int q hc.ok
theorem op_fdiv : OpR X (binaryOp .FloorDiv) (rI CDiv fun i j => .int (i / j)) := opI fun i j _ _ _ _ _ hc q => by
  have h1 : (0 : Int) < j := hc.1
  have h2 : j < 1073741824 := hc.2
  exact floordiv_int (by omega) (by rw [Int.fdiv_eq_ediv_of_nonneg i (by omega)]; exact q) (.inl (PyProof.noPylong_small (by omega)))
theorem op_mod : OpR X (binaryOp .Mod) (rI (fun _ j => 0 < j) fun i j => .int (i % j)) := opI fun i j _ _ _ _ _ hc q => by
  have h1 : (0 : Int) < j := hc
  exact mod_int' (by omega) (by rw [Int.fmod_eq_emod_of_nonneg i (by omega)]; exact q)
theorem op_pow : OpR X (binaryOp .Pow) (rI CPow fun i j => .int (i ^ j.toNat)) := opI fun _ _ _ _ _ _ _ hc q => pow_int_small hc.1 hc.2.1 hc.2.2 q
theorem unI {f : Value → Sem Value} {g : Int → Int}
    (rule : ∀ (i : Int) (t : Tok) (s : Shared) (Q : Value → Shared → Prop) (E : Value → Shared → Prop), Q (.int (g i) s.toks) { s with toks := s.toks + 1 } → wpAny (model X.prog X.w) X.A (f (.int i t)) Q E s) :
    UnR X f (rU fun i => .int (g i)) := by
  intro pins s σ H x v Q I rx h
  obtain ⟨i, rfl, q⟩ := h
  obtain ⟨t, rfl⟩ := rx
  exact rule i t s _ _ ⟨.int (g i), H, I.tok _, ⟨_, rfl⟩, q⟩
theorem un_neg : UnR X (unaryOp .USub) (rU fun i => .int (-i)) := unI fun _ _ _ _ _ q => neg_int q
end
def scal : V → V → Bool
  | .non, .non => true | .non, .int _ => true | .int _, .non => true | .non, .bl _ => true | .bl _, .non => true | .non, .str _ => true | .str _, .non => true
  | .int _, .int _ => true | .bl _, .bl _ => true | .str _, .str _ => true | .byt _, .byt _ => true
  | .int _, .str _ => true | .str _, .int _ => true | .bl _, .str _ => true | .str _, .bl _ => true
  | _, _ => false
def rEq : R2 := fun x y H Q => scal x y = true ∧ Q (.bl (decide (x = y))) H
def rNe : R2 := fun x y H Q => scal x y = true ∧ Q (.bl (!decide (x = y))) H
theorem dec_int {i j : Int} : decide (V.int i = V.int j) = (i == j) := by
  rw [Bool.eq_iff_iff]
  simp
theorem dec_bl {i j : Bool} : decide (V.bl i = V.bl j) = (i == j) := by
  rw [Bool.eq_iff_iff]
  simp
theorem dec_str {i j : Str} : decide (V.str i = V.str j) = (i == j) := by
  rw [Bool.eq_iff_iff]
  simp
theorem dec_byt {i j : Array UInt8} : decide (V.byt i = V.byt j) = (i.toList == j.toList) := by
  rw [Bool.eq_iff_iff]
  cases i
  cases j
  simp
section
variable {X : Cx} {a b c : Expr} {ta tb tc : TE} {pos : Pos}
theorem fin_bl {pins : List (Addr × Obj)} {σ : St} {H : Hp} {s : Shared} {Q : VK} {k k' : Bool} (I : Inv X pins σ H s) (q : Q (.bl k) H) (e : k = k') : EP X pins σ Q (.bool k') s := by
  subst e
  exact ⟨.bl k, H, I, rfl, q⟩
theorem op_eq : OpR X (compareOp .Eq) rEq := by
  intro pins s σ H x y v u Q I rx ry h
  obtain ⟨hs, q⟩ := h
  cases x with
  | non =>
    cases rx
    cases y with
    | non => cases ry; exact PySem.EqNone.eq_none_none (fin_bl I q (by simp))
    | bl j => cases ry; exact PySem.EqNone.eq_none_bool (fin_bl I q (by simp))
    | int j => obtain ⟨t', rfl⟩ := ry; exact PySem.EqNone.eq_none_int (fin_bl I q (by simp))
    | str j => obtain ⟨t', rfl⟩ := ry; exact PySem.EqNone.eq_none_str (fin_bl I q (by simp))
    | _ => exact absurd (show false = true from hs) Bool.false_ne_true
  | bl i =>
    cases rx
    cases y with
    | non => cases ry; exact PySem.EqNone.eq_bool_none (fin_bl I q (by simp))
    | bl j => cases ry; exact eq_bool (fin_bl I q dec_bl)
    | str j => obtain ⟨t', rfl⟩ := ry; exact PySem.EqMixed.eq_bool_str (fin_bl I q (by simp))
    | _ => exact absurd (show false = true from hs) Bool.false_ne_true
  | int i =>
    obtain ⟨t, rfl⟩ := rx
    cases y with
    | non => cases ry; exact PySem.EqNone.eq_int_none (fin_bl I q (by simp))
    | int j => obtain ⟨t', rfl⟩ := ry; exact eq_int (fin_bl I q dec_int)
    | str j => obtain ⟨t', rfl⟩ := ry; exact PySem.EqMixed.eq_int_str (fin_bl I q (by simp))
    | _ => exact absurd (show false = true from hs) Bool.false_ne_true
  | str i =>
    obtain ⟨t, rfl⟩ := rx
    cases y with
    | non => cases ry; exact PySem.EqNone.eq_str_none (fin_bl I q (by simp))
    | bl j => cases ry; exact PySem.EqMixed.eq_str_bool (fin_bl I q (by simp))
    | int j => obtain ⟨t', rfl⟩ := ry; exact PySem.EqMixed.eq_str_int (fin_bl I q (by simp))
    | str j => obtain ⟨t', rfl⟩ := ry; exact eq_str (fin_bl I q dec_str)
    | _ => exact absurd (show false = true from hs) Bool.false_ne_true
  | byt i =>
    obtain ⟨t, rfl⟩ := rx
    cases y with
    | byt j => obtain ⟨t', rfl⟩ := ry; exact PySem.W.eq_bytes (fin_bl I q dec_byt)
    | _ => exact absurd (show false = true from hs) Bool.false_ne_true
  | _ => cases y <;> exact absurd (show false = true from hs) Bool.false_ne_true
theorem op_ne : OpR X (compareOp .NotEq) rNe := by
  intro pins s σ H x y v u Q I rx ry h
  obtain ⟨hs, q⟩ := h
  cases x with
  | non =>
    cases rx
    cases y with
    | non => cases ry; exact PySem.EqNone.ne_none_none (fin_bl I q (by simp))
    | bl j => cases ry; exact PySem.EqNone.ne_none_bool (fin_bl I q (by simp))
    | int j => obtain ⟨t', rfl⟩ := ry; exact PySem.EqNone.ne_none_int (fin_bl I q (by simp))
    | str j => obtain ⟨t', rfl⟩ := ry; exact PySem.EqNone.ne_none_str (fin_bl I q (by simp))
    | _ => exact absurd (show false = true from hs) Bool.false_ne_true
  | bl i =>
    cases rx
    cases y with
    | non => cases ry; exact PySem.EqNone.ne_bool_none (fin_bl I q (by simp))
    | bl j => cases ry; exact ne_bool (fin_bl I q (congrArg not dec_bl))
    | str j => obtain ⟨t', rfl⟩ := ry; exact PySem.EqMixed.ne_bool_str (fin_bl I q (by simp))
    | _ => exact absurd (show false = true from hs) Bool.false_ne_true
  | int i =>
    obtain ⟨t, rfl⟩ := rx
    cases y with
    | non => cases ry; exact PySem.EqNone.ne_int_none (fin_bl I q (by simp))
    | int j => obtain ⟨t', rfl⟩ := ry; exact ne_int (fin_bl I q (congrArg not dec_int))
    | str j => obtain ⟨t', rfl⟩ := ry; exact PySem.EqMixed.ne_int_str (fin_bl I q (by simp))
    | _ => exact absurd (show false = true from hs) Bool.false_ne_true
  | str i =>
    obtain ⟨t, rfl⟩ := rx
    cases y with
    | non => cases ry; exact PySem.EqNone.ne_str_none (fin_bl I q (by simp))
    | bl j => cases ry; exact PySem.EqMixed.ne_str_bool (fin_bl I q (by simp))
    | int j => obtain ⟨t', rfl⟩ := ry; exact PySem.EqMixed.ne_str_int (fin_bl I q (by simp))
    | str j => obtain ⟨t', rfl⟩ := ry; exact ne_str (fin_bl I q (congrArg not dec_str))
    | _ => exact absurd (show false = true from hs) Bool.false_ne_true
  | byt i =>
    obtain ⟨t, rfl⟩ := rx
    cases y with
    | byt j => obtain ⟨t', rfl⟩ := ry; exact PySem.W.ne_bytes (fin_bl I q (congrArg not dec_byt))
    | _ => exact absurd (show false = true from hs) Bool.false_ne_true
  | _ => cases y <;> exact absurd (show false = true from hs) Bool.false_ne_true
theorem op_lt : OpR X (compareOp .Lt) (rI0 fun i j => .bl (decide (i < j))) := opB0 fun _ _ _ _ _ _ _ q => lt_int q
theorem op_gt : OpR X (compareOp .Gt) (rI0 fun i j => .bl (decide (j < i))) := opB0 fun _ _ _ _ _ _ _ q => gt_int q
theorem op_ge : OpR X (compareOp .GtE) (rI0 fun i j => .bl (decide (j ≤ i))) := opB0 fun _ _ _ _ _ _ _ q => ge_int q
theorem nomark (b : Expr) {op : CmpOp} (h : op ≠ .In := by decide) (h2 : op ≠ .NotIn := by decide) : behindInMarks op b = false := by
  have e1 : (op == CmpOp.In) = false := by cases op <;> first | rfl | exact absurd rfl h
  have e2 : (op == CmpOp.NotIn) = false := by cases op <;> first | rfl | exact absurd rfl h2
  cases b <;> simp [behindInMarks, e1, e2]
theorem pe_cmpR {op : CmpOp} {r : R2} (ho : OpR X (compareOp op) r) (ha : PE X a ta) (hb : PE X b tb) (hm : behindInMarks op b = false) : PE X (.Compare a [op] [b] pos) (tOp r ta tb) := by
  intro pins s σ H Q I h
  exact wpAny_Compare1 (binT ha hb I h fun v u s2 x y H2 I2 rx ry q => ho pins s2 σ H2 x y v u Q I2 rx ry q) hm
def tTest (t : TE) : TT := fun σ H Q => t σ H fun x H' => ∃ k, x = .bl k ∧ Q k H'
theorem pt_cmpR {op : CmpOp} {r : R2} (ho : OpR X (compareOp op) r) (ha : PE X a ta) (hb : PE X b tb) (hm : behindInMarks op b = false) : PT X (.Compare a [op] [b] pos) (tTest (tOp r ta tb)) := by
  intro pins s σ H Q I h
  refine wpAny_isTrue_Compare1 (thn (ha pins s σ H _ I h) fun v s1 ⟨x, H1, I1, r1, q1⟩ => thn (hb pins s1 σ H1 _ I1 q1) fun u s2 ⟨y, H2, I2, r2, q2⟩ =>
    thn (ho pins s2 σ H2 x y v u _ I2 r1 r2 q2) fun c s3 ⟨z, H3, I3, r3, k, e, q3⟩ => ?_) hm
  subst e
  cases r3
  exact wpAny_truthy_bool ⟨H3, I3, q3⟩
def TruV (K : PySem.W.Frag) (x : V) (H : Hp) (k : Bool) : Prop :=
  match x with
  | .non => k = false
  | .bl b => k = b
  | .int i => k = (i != 0)
  | .str y => y.length ≤ sizeLine ∧ k = ((y.length : Int) != 0)
  | .byt y => y.size ≤ sizeLine ∧ k = ((y.size : Int) != 0)
  | .ref p => (∃ xs, SqL K H p xs ∧ k = !xs.isEmpty) ∨ (∃ xs, SqT K H p xs ∧ k = !xs.isEmpty) ∨ ∃ kvs, H p = some (.dK kvs) ∧ k = !kvs.isEmpty
  | _ => False
theorem isEmpty_kv {κ : Type} {kvs : List (κ × V)} {vs : List (κ × Value)} (r : KV kvs vs) : (!vs.isEmpty) = !kvs.isEmpty := by
  cases r <;> rfl
theorem isEmpty_of {xs : List V} {its : List Value} (r : Vals xs its) : (!its.toArray.isEmpty) = !xs.isEmpty := by
  cases r <;> simp
theorem line63 : (sizeLine : Nat) < 2 ^ 63 := by rw [sizeLine_eq]; decide
theorem tru_ok : TruR X (fun x H Q => ∃ k, TruV X.K x H k ∧ Q k H) := by
  intro pins s σ H x v Q I rx h
  obtain ⟨k, e, q⟩ := h
  have hl := line63
  have hs : sizeLine = 16777216 := sizeLine_eq
  cases x with
  | non =>
    cases rx
    have e' : k = false := e
    subst e'
    exact truthy_none ⟨H, I, q⟩
  | bl b =>
    cases rx
    have e' : k = b := e
    subst e'
    exact wpAny_truthy_bool ⟨H, I, q⟩
  | int i =>
    obtain ⟨t, rfl⟩ := rx
    have e' : k = (i != 0) := e
    subst e'
    exact PySem.P.truthy_int ⟨H, I, q⟩
  | str y =>
    obtain ⟨t, rfl⟩ := rx
    obtain ⟨hy, e'⟩ : y.length ≤ sizeLine ∧ k = ((y.length : Int) != 0) := e
    subst e'
    exact PySem.P.truthy_str (by omega) ⟨H, I.tok _, q⟩
  | byt y =>
    obtain ⟨t, rfl⟩ := rx
    obtain ⟨hy, e'⟩ : y.size ≤ sizeLine ∧ k = ((y.size : Int) != 0) := e
    subst e'
    exact PySem.W.truthy_bytes (by omega) ⟨H, I.tok _, q⟩
  | ref p =>
    cases rx
    have e' : (∃ xs, SqL X.K H p xs ∧ k = !xs.isEmpty) ∨ (∃ xs, SqT X.K H p xs ∧ k = !xs.isEmpty) ∨ ∃ kvs, H p = some (.dK kvs) ∧ k = !kvs.isEmpty := e
    rcases e' with ⟨xs, hx, e'⟩ | ⟨xs, hx, e'⟩ | ⟨kvs, hx, e'⟩
    · subst e'
      obtain ⟨its, r, pl, hz⟩ := I.list hx
      have hlen := r.length
      exact wpAny_truthy_list pl.isList (by simp only [List.size_toArray]; omega) ⟨H, I.tok _, by rw [isEmpty_of r]; exact q⟩
    · subst e'
      obtain ⟨its, r, pl, hz⟩ := I.tuple hx
      have hlen := r.length
      exact truthy_tuple pl (by simp only [List.size_toArray]; omega) ⟨H, I.tok _, by rw [isEmpty_of r]; exact q⟩
    · subst e'
      obtain ⟨hz, hS, vs, r, m⟩ : kvs.length ≤ sizeLine ∧ (p == sysModules) = false ∧ ∃ vs, KV kvs vs ∧ s.heap.DictOf (mixKind X.prog X.w) p vs := I.hok p _ hx
      have hlen : kvs.length = vs.length := Paired.length r
      exact wpAny_truthy_dict hS m (by omega) ⟨H, I.tok _, by rw [isEmpty_kv r]; exact q⟩
  | _ => exact (show False from e).elim
theorem pt_truth (ha : PE X a ta) (he : ∀ whole, isTrue a X.env whole = (do let v ← whole; standAt a.pos; holding [v] (truthy v))) :
    PT X a (fun σ H Q => ta σ H fun x H' => ∃ k, TruV X.K x H' k ∧ Q k H') := by
  intro pins s σ H Q I h
  exact isTrue_plain (thn (ha pins s σ H _ I h) fun v s1 ⟨x, H1, I1, r1, q1⟩ => tru_ok pins s1 σ H1 x v Q I1 r1 q1) (he _)
theorem vals1 {x : V} {us : List Value} (r : Vals [x] us) : ∃ u, us = [u] ∧ RelV x u := by
  cases r with
  | cons r1 r2 => cases r2; exact ⟨_, rfl, r1⟩
theorem vals2 {x y : V} {us : List Value} (r : Vals [x, y] us) : ∃ u w', us = [u, w'] ∧ RelV x u ∧ RelV y w' := by
  cases r with
  | cons r1 r2 =>
    cases r2 with
    | cons r3 r4 => cases r4; exact ⟨_, _, rfl, r1, r3⟩
theorem call_max2 (hc : X.calm = true) : CallR X (.builtin "max") (fun xs H Q => ∃ i j, xs = [.int i, .int j] ∧ Q (.int (if j > i then j else i)) H) := by
  intro pins s σ H xs us Q I r h
  obtain ⟨i, j, rfl, q⟩ := h
  obtain ⟨u, w', rfl, ⟨t, rfl⟩, ⟨t', rfl⟩⟩ := vals2 r
  refine max_two_ints (I.ok.hd hc) fun h' tk k => ⟨_, H, I.kept k, ?_, q⟩
  by_cases hj : j > i
  · rw [if_pos hj, if_pos hj]; exact ⟨_, rfl⟩
  · rw [if_neg hj, if_neg hj]; exact ⟨_, rfl⟩
theorem call_int1 : CallR X (.type "int") (fun xs H Q => (∃ i, xs = [.int i] ∧ Q (.int i) H) ∨ ∃ k, xs = [.bl k] ∧ Q (.int (if k then 1 else 0)) H) := by
  intro pins s σ H xs us Q I r h
  rcases h with ⟨i, rfl, q⟩ | ⟨k, rfl, q⟩
  · obtain ⟨u, rfl, t, rfl⟩ := vals1 r
    exact call_int_int ⟨.int i, H, I, ⟨_, rfl⟩, q⟩
  · obtain ⟨u, rfl, r1⟩ := vals1 r
    cases r1
    exact call_int_bool ⟨.int (if k then 1 else 0), H, I.tok _, ⟨_, rfl⟩, q⟩
end
end L2
namespace L2
open PySem PySem.Spec PyProof.Rows
structure ObjM (h : Heap) (x dx C : Addr) (mA : Str → Option Value) : Prop where
  obj : h.get? x = some (PySem.W.instObj C dx)
  ns : h.Ns1 dx mA
  ne : dx ≠ x
theorem lookIn_ns {h : Heap} {dx : Addr} {mA : Str → Option Value} (n : h.Ns1 dx mA) : ∃ od, h.get? dx = some od ∧ ∀ name, PySem.W.lookIn name od = some (mA name) := by
  obtain ⟨o, es, ep, ho, hd, hk, _, hm⟩ := n
  refine ⟨o, ho, fun name => ?_⟩
  have e := hm name
  unfold nsFind findBy at e
  rw [← Array.find?_toList] at e
  unfold PySem.W.lookIn
  rw [hd]
  dsimp only
  split
  · rename_i y q
    rw [q] at e
    exact congrArg some e
  · rename_i q
    rw [q] at e
    have a : es.toList.any (·.refKey) = false := by
      rw [List.any_eq_false]
      intro y hy
      obtain ⟨z, t, hkey⟩ := hk y (Array.mem_toList_iff.mp hy)
      simp [DictEntry.refKey, hkey]
    have a' : ¬ es.toList.any (·.refKey) = true := by rw [a]; exact Bool.false_ne_true
    rw [if_neg a']
    exact congrArg some e
theorem ObjM.look {h : Heap} {x dx C : Addr} {mA : Str → Option Value} (I : ObjM h x dx C mA) : ∃ od, PySem.W.InstAt h x (PySem.W.instObj C dx) C (some od) ∧ ∀ name, PySem.W.lookIn name od = some (mA name) :=
  let ⟨od, ho, hl⟩ := lookIn_ns I.ns
  ⟨od, ⟨I.obj, rfl, rfl, ho⟩, hl⟩
section
variable {prog : Program} {w : World} {A : Around} {E : Value → Shared → Prop} {s : Shared} {K : PySem.W.Frag} {x dx C f : Addr} {mA : Str → Option Value} {name : Str} {v : Value}
theorem get_map {expr : Bool} {Q : Value → Shared → Prop} (X : K.In s.heap) (I : ObjM s.heap x dx C mA) (hg : PySem.W.plainGet K C name = true) (hh : PySem.W.hasDictIn K C = true)
    (ha : PySem.W.findIn K (.ref C) name = some none) (hv : mA name = some v) (hv' : PySem.W.handedIn v = true) (h : Q v { s with toks := s.toks + 1 }) :
    wpAny (model prog w) A (getAttr (.ref x) name expr) Q E s := by
  obtain ⟨od, J, hl⟩ := I.look
  exact PySem.W.get_value X J (PySem.W.plainGet_of hg).1 (PySem.W.findObj_own hh ha rfl (by rw [hl, hv])) hv' h
theorem get_meth {pl : Sem Bool} {Q : Value × List Value → Shared → Prop} (X : K.In s.heap) (I : ObjM s.heap x dx C mA) (hg : PySem.W.plainGet K C name = true)
    (hf : PySem.W.findIn K (.ref C) name = some (some (.ref f))) (ht : PySem.W.isFn K (.ref f) = true) (hv : mA name = none) (h : Q (.ref f, [.ref x]) s) :
    wpAny (model prog w) A (getMethod (.ref x) name pl) Q E s := by
  obtain ⟨od, J, hl⟩ := I.look
  exact PySem.W.method_fn X J (PySem.W.plainGet_of hg).1 (PySem.W.plainGet_of hg).2 hf (beq_iff_eq.mp ht) (by show (PySem.W.lookIn name od).map (·.isSome) = some false; rw [hl, hv]; rfl) h
theorem set_map {ns : List Str} {Q : Unit → Shared → Prop} (X : K.In s.heap) (I : ObjM s.heap x dx C mA)
    (hs : PySem.W.findIn K (.ref C) "__setattr__" = some (some (.builtin "object.__setattr__"))) (hp : PySem.W.plainOver K C = true) (ht : PySem.W.takerIn K C name = some none) (hh : PySem.W.hasDictIn K C = true)
    (hw : PySem.Within mA ns) (hsz : ns.length ≤ sizeLine)
    (h : ∀ h', ObjM h' x dx C (fun y => if y = name then some v else mA y) → Heap.SameBut dx s.heap h' → Q () { s with heap := h', toks := s.toks + 2 }) :
    wpAny (model prog w) A (setAttr (.ref x) name v) Q E s := by
  obtain ⟨od, J, hl⟩ := I.look
  refine PySem.W.set_plain X J hs (PySem.W.osa_open (s := { s with toks := s.toks + 1 }) (r := none) X J hp ht fun b => ?_)
  obtain ⟨cd, hc, hd'⟩ := PySem.W.any_some hh
  have hx : s.heap.get? x = some ⟨.ref C, some dx, .plain, #[]⟩ := I.obj
  refine wpAny_bind (wpAny_pure (wpAny_bind (wpAny_bind (wpAny_loadPart hx (wpAny_bind (PySem.W.Looks.here (s := { s with toks := s.toks + 1 }) (PySem.W.looks_clsIn X hc) ?_))))))
  rw [hd']
  refine wpAny_pure (a := some dx) (wpAny_bind (wpAny_pure (wpAny_bind ?_)))
  refine wpAny_nsSet1 (s := { s with toks := s.toks + 1 }) I.ns fun h' hn2 hs2 => ?_
  obtain ⟨oD, esD, epD, hoD, hdD, hcD⟩ := hn2.count (PySem.Within.cons name v hw)
  refine wpAny_bind (wpAny_lookBehind hoD (by rw [hdD]; exact pastItsLine_dict (Nat.le_trans hcD (by rw [List.length_cons]; omega))) ?_)
  exact wpAny_pure (h _ ⟨(hs2.2 _ (Ne.symm I.ne)).trans I.obj, hn2, I.ne⟩ hs2)
theorem make_map {R : Result → Shared → Prop} {vs : List Value} {kw : List (Str × Value)} (X : K.In s.heap) (hm : PySem.W.makesIn K C = true)
    (hi : PySem.W.findIn K (.ref C) "__init__" = some (some (.ref f))) (hf : PySem.W.typeIn K (.ref f) = some (.type "function"))
    (h : codeAny (model prog w) (A.under (.builtin "type.__call__" ⟨.ref C :: vs, kw⟩)) (.call (.ref f) ⟨.ref (s.heap.objs.size + 1) :: vs, kw⟩) (PySem.W.InitBack (s.heap.objs.size + 1) R)
      { s with heap := (s.heap.push PySem.W.emptyDict).push (PySem.W.instObj C s.heap.objs.size) }) :
    codeAny (model prog w) A (.call (.ref C) ⟨vs, kw⟩) R s := by
  obtain ⟨hh, g, d, t, os⟩ := s
  exact PySem.W.make_core (PySem.W.makes_of X hm) (PySem.W.looks_findIn X hi) (fun self => PySem.W.bind_fn X self hf) (.inl rfl) h
end
def putF (f : Str) (v : V) : List (Str × V) → List (Str × V)
  | [] => [(f, v)]
  | (g, x) :: r => if g = f then (g, v) :: r else (g, x) :: putF f v r
theorem lookup_putF (f g : Str) (v : V) : ∀ fs : List (Str × V), (putF f v fs).lookup g = if g = f then some v else fs.lookup g
  | [] => by
    show List.lookup g [(f, v)] = _
    by_cases h : g = f
    · have hb : (g == f) = true := beq_iff_eq.mpr h
      simp only [List.lookup, hb, if_pos h]
    · have hb : (g == f) = false := beq_eq_false_iff_ne.mpr h
      simp only [List.lookup, hb, if_neg h]
  | (k, x) :: r => by
    have ih := lookup_putF f g v r
    rw [show putF f v ((k, x) :: r) = (if k = f then (k, v) :: r else (k, x) :: putF f v r) from rfl]
    by_cases hk : k = f
    · rw [if_pos hk]
      by_cases h : g = k
      · have hb : (g == k) = true := beq_iff_eq.mpr h
        simp only [List.lookup, hb, if_pos (h.trans hk)]
      · have hb : (g == k) = false := beq_eq_false_iff_ne.mpr h
        simp only [List.lookup, hb, if_neg (fun e : g = f => h (e.trans hk.symm))]
    · rw [if_neg hk]
      by_cases h : g = k
      · have hb : (g == k) = true := beq_iff_eq.mpr h
        simp only [List.lookup, hb, if_neg (fun e : g = f => hk (h.symm.trans e))]
      · have hb : (g == k) = false := beq_eq_false_iff_ne.mpr h
        simp only [List.lookup, hb]
        exact ih
theorem keys_putF (f : Str) (v : V) : ∀ fs : List (Str × V), f ∈ (putF f v fs).map (·.1) ∧ ∀ g, g ∈ fs.map (·.1) → g ∈ (putF f v fs).map (·.1)
  | [] => ⟨by simp [putF], fun g h => by simp at h⟩
  | (k, x) :: r => by
    obtain ⟨i1, i2⟩ := keys_putF f v r
    rw [show putF f v ((k, x) :: r) = (if k = f then (k, v) :: r else (k, x) :: putF f v r) from rfl]
    by_cases hk : k = f
    · rw [if_pos hk]
      subst hk
      exact ⟨by simp, fun g h => by simpa using h⟩
    · rw [if_neg hk]
      refine ⟨?_, fun g h => ?_⟩
      · rw [List.map_cons]
        exact List.mem_cons_of_mem _ i1
      · rw [List.map_cons] at h ⊢
        rcases List.mem_cons.mp h with e | e
        · exact List.mem_cons.mpr (.inl e)
        · exact List.mem_cons_of_mem _ (i2 g e)
theorem length_putF (f : Str) (v : V) : ∀ fs : List (Str × V), (putF f v fs).length ≤ fs.length + 1
  | [] => by simp [putF]
  | (k, x) :: r => by
    have ih := length_putF f v r
    rw [show putF f v ((k, x) :: r) = (if k = f then (k, v) :: r else (k, x) :: putF f v r) from rfl]
    by_cases hk : k = f
    · rw [if_pos hk, List.length_cons, List.length_cons]; omega
    · rw [if_neg hk, List.length_cons, List.length_cons]; omega
theorem RelO.some_of {v : V} {o : Option Value} (r : RelO (some v) o) : ∃ u, o = some u ∧ RelV v u := by
  cases o with
  | none => exact (show False from r).elim
  | some u => exact ⟨u, rfl, r⟩
theorem RelO.none_of {o : Option Value} (r : RelO none o) : o = none := by
  cases o with
  | none => rfl
  | some u => exact (show False from r).elim
theorem handed_of {v : V} {u : Value} (r : RelV v u) : PySem.W.handedIn u = true := by
  cases v with
  | non => cases (show u = Value.none from r); rfl
  | bl b => cases (show u = Value.bool b from r); rfl
  | int i => obtain ⟨t, e⟩ := (show ∃ t, u = Value.int i t from r); cases e; rfl
  | str x => obtain ⟨t, e⟩ := (show ∃ t, u = Value.str x t from r); cases e; rfl
  | byt b => obtain ⟨t, e⟩ := (show ∃ t, u = Value.bytes b t from r); cases e; rfl
  | flt b => obtain ⟨t, e⟩ := (show ∃ t, u = Value.float b t from r); cases e; rfl
  | ref a => cases (show u = Value.ref a from r); rfl
  | ty n => cases (show u = Value.type n from r); rfl
section
variable {P : Program} {w : World} {H H' : Hp} {h h' : Heap} {a C dx : Addr} {fs fs' : List (Str × V)}
theorem ins_get (hok : HOk P w H h) (e : H a = some (.ins C dx fs)) : ∃ mA, ObjM h a dx C mA ∧ (∀ f, RelO (fs.lookup f) (mA f)) ∧ PySem.Within mA (fs.map (·.1)) ∧ fs.length ≤ 1000 ∧ H dx = some (.own a) := by
  obtain ⟨d, z, ne, ob, mA, n, r, q⟩ := (show ObjOk P w H h a (.ins C dx fs) from hok a _ e)
  exact ⟨mA, ⟨ob, n, ne⟩, r, q, z, d⟩
end
structure Cls (K : PySem.W.Frag) (C : Addr) : Prop where
  pg : PySem.W.plainGet K C Str.empty = true
  hd : PySem.W.hasDictIn K C = true
  po : PySem.W.plainOver K C = true
  sa : PySem.W.findIn K (.ref C) "__setattr__" = some (some (.builtin "object.__setattr__"))
theorem Cls.get {K : PySem.W.Frag} {C : Addr} (c : Cls K C) (f : Str) : PySem.W.plainGet K C f = true := c.pg
def NoAttr (K : PySem.W.Frag) (C : Addr) (f : Str) : Prop := PySem.W.findIn K (.ref C) f = some none
theorem NoAttr.taker {K : PySem.W.Frag} {C : Addr} {f : Str} (n : NoAttr K C f) : PySem.W.takerIn K C f = some none := by
  unfold PySem.W.takerIn
  rw [show PySem.W.findIn K (.ref C) f = some none from n]
  rfl
structure Con (K : PySem.W.Frag) (C : Addr) (f : Str) (v : V) (u : Value) : Prop where
  at_ : PySem.W.findIn K (.ref C) f = some (some u)
  rel : RelV v u
  get : PySem.W.specialIn K u "__get__" = some none
  cp : PySem.W.copiedNames.contains f = false
structure Meth (K : PySem.W.Frag) (C : Addr) (m : Str) (f : Addr) : Prop where
  at_ : PySem.W.findIn K (.ref C) m = some (some (.ref f))
  fn : PySem.W.isFn K (.ref f) = true
  kp : PySem.W.keepIn K (.ref f) = true
section
variable {X : Cx} {pins : List (Addr × Obj)} {σ : St} {H : Hp} {s : Shared} {a C dx : Addr} {fs : List (Str × V)} {f : Str} {v : V} {A : Around} {E : Value → Shared → Prop}
theorem getattr_ok {b : Bool} {Q : Value → Shared → Prop} (I : Inv X pins σ H s) (e : H a = some (.ins C dx fs)) (c : Cls X.K C) (n : NoAttr X.K C f) (l : fs.lookup f = some v)
    (h : ∀ u s', Inv X pins σ H s' → RelV v u → Q u s') : wpAny (model X.prog X.w) A (getAttr (.ref a) f b) Q E s := by
  obtain ⟨mA, O, r, _, _, _⟩ := ins_get I.hok e
  obtain ⟨u, hu, ru⟩ := RelO.some_of (v := v) (o := mA f) (by rw [← l]; exact r f)
  exact get_map I.kIn O (c.get f) c.hd n hu (handed_of ru) (h u _ (I.tok _) ru)
theorem getmeth_ok {m : Str} {g : Addr} {pl : Sem Bool} {Q : Value × List Value → Shared → Prop} (I : Inv X pins σ H s) (e : H a = some (.ins C dx fs)) (c : Cls X.K C) (k : Meth X.K C m g) (l : fs.lookup m = none)
    (h : Q (.ref g, [.ref a]) s) : wpAny (model X.prog X.w) A (getMethod (.ref a) m pl) Q E s := by
  obtain ⟨mA, O, r, _, _, _⟩ := ins_get I.hok e
  have hn : mA m = none := RelO.none_of (by rw [← l]; exact r m)
  exact get_meth I.kIn O (c.get m) k.at_ k.fn hn h
theorem setattr_ok {y : V} {u : Value} {Q : Unit → Shared → Prop} (I : Inv X pins σ H s) (e : H a = some (.ins C dx fs)) (c : Cls X.K C) (n : NoAttr X.K C f) (hl : fs.length < 1000) (ry : RelV y u)
    (h : ∀ s', Inv X pins σ (upd H a (.ins C dx (putF f y fs))) s' → Q () s') : wpAny (model X.prog X.w) A (setAttr (.ref a) f u) Q E s := by
  obtain ⟨mA, O, r, wi, _, ho⟩ := ins_get I.hok e
  have hz : (fs.map (·.1)).length ≤ sizeLine := by rw [List.length_map, sizeLine_eq]; omega
  refine set_map I.kIn O c.sa c.po n.taker c.hd wi hz fun h' O' sb => h _ ?_
  have hd : ∃ o, h'.get? dx = some o := let ⟨o, _, _, e', _⟩ := O'.ns; ⟨o, e'⟩
  refine I.write (x := a) (e := dx) (by rw [e]; exact True.intro) (.inr ho) (fun b q hb z => (sb.2 b hb).trans z) hd ?_
  refine ⟨by rw [upd_ne O.ne]; exact ho, ?_, O.ne, O'.obj, _, O'.ns, fun g => ?_, fun g hg => ?_⟩
  · have := length_putF f y fs; omega
  · show RelO ((putF f y fs).lookup g) (if g = f then some u else mA g)
    rw [lookup_putF]
    by_cases q : g = f
    · rw [if_pos q, if_pos q]; exact ry
    · rw [if_neg q, if_neg q]; exact r g
  · by_cases q : g = f
    · rw [q]; exact (keys_putF f y fs).1
    · refine (keys_putF f y fs).2 g (wi g fun z => hg ?_)
      show (if g = f then some u else mA g) = none
      rw [if_neg q]; exact z
theorem Inv.made (I : Inv X pins σ H s) : Inv X pins σ (upd (upd H s.heap.objs.size (.own (s.heap.objs.size + 1))) (s.heap.objs.size + 1) (.ins C s.heap.objs.size []))
    { s with heap := (s.heap.push PySem.W.emptyDict).push (PySem.W.instObj C s.heap.objs.size) } := by
  have e1 : (s.heap.push PySem.W.emptyDict).get? s.heap.objs.size = some PySem.W.emptyDict := Heap.get?_push_size s.heap rfl
  have e2 : ((s.heap.push PySem.W.emptyDict).push (PySem.W.instObj C s.heap.objs.size)).get? (s.heap.objs.size + 1) = some (PySem.W.instObj C s.heap.objs.size) := by
    have := Heap.get?_push_size (s.heap.push PySem.W.emptyDict) (o := PySem.W.instObj C s.heap.objs.size) rfl
    rwa [Heap.size_push] at this
  have e3 : (s.heap.push PySem.W.emptyDict).Ns s.heap.objs.size (fun _ => none) := ⟨PySem.W.emptyDict, #[], _, e1, rfl, (fun e he => absurd he (by simp)), fun _ => rfl⟩
  have I1 := I.laid (a := s.heap.objs.size) (o := .own (s.heap.objs.size + 1)) (h' := s.heap.push PySem.W.emptyDict) (t' := s.toks) (fun b u q => Heap.get?_push_of_some _ q) (Nat.le_refl _) ⟨_, e1⟩
  refine I1.laid (a := s.heap.objs.size + 1) (o := .ins C s.heap.objs.size []) (t' := s.toks) (fun b u q => Heap.get?_push_of_some _ q) (Nat.le_of_eq (Heap.size_push _ _)) ?_
  have ne : s.heap.objs.size ≠ s.heap.objs.size + 1 := Nat.ne_of_lt (Nat.lt_succ_self _)
  refine ⟨by rw [upd_ne ne, upd_same], Nat.zero_le _, ne, e2, fun _ => none, (Heap.Ns1.of_empty e3).at fun o q => Heap.get?_push_of_some _ q, fun _ => True.intro, fun y hy => absurd rfl hy⟩
theorem attr_of {prog : Program} {w : World} {env : Env} {e : Expr} {f : Str} {pos : Pos} {s : Shared} {Q : Value → Shared → Prop} (hb : attributeBase e f env (eval e env) = eval e env)
    (h : wpAny (model prog w) A (eval e env) (fun o s₁ => wpAny (model prog w) A (getAttr o f true) Q E s₁) E s) : wpAny (model prog w) A (eval (.Attribute e f pos) env) Q E s :=
  Attribute_any_ h (by rw [arm_eval_Attribute, hb])
end
def tFld (K : PySem.W.Frag) (ta : TE) (f : Str) : TE := fun σ H Q => ta σ H fun x H1 => ∃ a C dx fs v, x = .ref a ∧ H1 a = some (.ins C dx fs) ∧ Cls K C ∧ NoAttr K C f ∧ fs.lookup f = some v ∧ Q v H1
def sFld (K : PySem.W.Frag) (ta tv : TE) (f : Str) : TS := fun D σ H => tv σ H fun y H1 => ta σ H1 fun x H2 => ∃ a C dx fs, x = .ref a ∧ H2 a = some (.ins C dx fs) ∧ Cls K C ∧ NoAttr K C f ∧ fs.length < 1000 ∧
  D.nx σ (upd H2 a (.ins C dx (putF f y fs)))
section
variable {X : Cx} {o e value : Expr} {f : Str} {pos pos' tpos : Pos} {ta tv : TE}
theorem pe_fld (he : PE X e ta) (hb : attributeBase e f X.env (eval e X.env) = eval e X.env) : PE X (.Attribute e f pos) (tFld X.K ta f) := by
  intro pins s σ H Q I h
  refine attr_of hb (thn (he pins s σ H _ I h) fun u s1 ⟨x, H1, I1, rx, a, C, dx, fs, v, ex, ea, c, n, l, q⟩ => ?_)
  subst ex
  obtain rfl : u = Value.ref a := rx
  exact getattr_ok I1 ea c n l fun u' s2 I2 ru => ⟨v, H1, I2, ru, q⟩
theorem ps_fld (ha : PE X o ta) (hv : PE X value tv) (hs : swapsWith value (some (.Attribute o f pos')) pos.line X.env = pure false) : PS X (.Assign [.Attribute o f pos'] value pos) (sFld X.K ta tv f) := by
  intro pins s σ H D I h
  refine plainObj_wpAny_Assign_Attribute (thn (hv pins s σ H _ I h) fun u s1 ⟨y, H1, I1, ry, q⟩ => thn (ha pins s1 σ H1 _ I1 q) fun ov s2 ⟨x, H2, I2, rx, a, C, dx, fs, ex, ea, c, n, l, q2⟩ => ?_) hs
  subst ex
  obtain rfl : ov = Value.ref a := rx
  exact setattr_ok I2 ea c n l ry fun s3 I3 => ⟨σ, _, I3, q2⟩
end
section
variable {X : Cx} {pins : List (Addr × Obj)} {σ : St} {H : Hp} {s : Shared} {A : Around} {E : Value → Shared → Prop} {Q : Value → Shared → Prop} {c : Value} {b : Bool}
inductive TyOf (K : PySem.W.Frag) (H : Hp) : V → Value → Prop where
  | non : TyOf K H .non (.type "NoneType")
  | bl (x : Bool) : TyOf K H (.bl x) (.type "bool")
  | int (i : Int) : TyOf K H (.int i) (.type "int")
  | str (x : Str) : TyOf K H (.str x) (.type "str")
  | flt (x : UInt64) : TyOf K H (.flt x) (.type "float")
  | lst {a : Addr} {xs : List V} (e : H a = some (.lst xs)) : TyOf K H (.ref a) (.type "list")
  | frz {a : Addr} {o : Obj} {xs : List V} (e : H a = some (.frz o (.lst xs))) : TyOf K H (.ref a) (.type "list")
  | tup {a : Addr} {xs : List V} (e : H a = some (.tup xs)) : TyOf K H (.ref a) (.type "tuple")
  | dK {a : Addr} {kvs : List (Key × V)} (e : H a = some (.dK kvs)) : TyOf K H (.ref a) (.type "dict")
  | dT {a : Addr} {kvs : List (List Key × V)} (e : H a = some (.dT kvs)) : TyOf K H (.ref a) (.type "dict")
  | ins {a C dx : Addr} {fs : List (Str × V)} (e : H a = some (.ins C dx fs)) (cl : Cls K C) (ha : PySem.W.findIn K (.ref C) "__class__" = some (some (.builtin "object.__class__")))
      (hn : PySem.W.specialIn K (.builtin "object.__class__") "__get__" = some (some (.builtin "getset_descriptor.__get__"))) (htk : PySem.W.takesIn K (.builtin "object.__class__") = some true)
      (hm : PySem.W.mroIn K C (.type "object") = some true) : TyOf K H (.ref a) (.ref C)
theorem isinst_ok {x : V} {u t : Value} (I : Inv X pins σ H s) (rx : RelV x u) (ty : TyOf X.K H x t) (e : PySem.W.kitOne X.K t c = some b) (h : ∀ tk, Q (.bool b) { s with toks := tk }) :
    wpAny (model X.prog X.w) A (call (.builtin "isinstance") [u, c]) Q E s := by
  cases ty with
  | non => cases (show u = Value.none from rx); exact PySem.W.kia_one PySem.W.kitx_none I.kIn True.intro e (fun z => nomatch z) h
  | bl y => cases (show u = Value.bool y from rx); exact PySem.W.kia_one PySem.W.kitx_bool I.kIn True.intro e (fun z => nomatch z) h
  | int i => obtain ⟨t, q⟩ := (show ∃ t, u = Value.int i t from rx); cases q; exact PySem.W.kia_one PySem.W.kitx_int I.kIn True.intro e (fun z => nomatch z) h
  | str y => obtain ⟨t, q⟩ := (show ∃ t, u = Value.str y t from rx); cases q; exact PySem.W.kia_one PySem.W.kitx_str I.kIn True.intro e (fun z => nomatch z) h
  | flt y => obtain ⟨t, q⟩ := (show ∃ t, u = Value.float y t from rx); cases q; exact PySem.W.kia_one PySem.W.kitx_float I.kIn True.intro e (fun z => nomatch z) h
  | @lst a xs ea =>
    cases (show u = Value.ref a from rx)
    obtain ⟨_, _, n, _, h1⟩ := (show ObjOk X.prog X.w H s.heap a (.lst xs) from I.hok a _ ea)
    exact PySem.W.kia_one PySem.W.kitx_list I.kIn ⟨_, h1, rfl⟩ e (fun z => nomatch z) h
  | @frz a ob xs ea =>
    cases (show u = Value.ref a from rx)
    obtain ⟨_, _, _, n, _, h1⟩ := (show ObjOk X.prog X.w H s.heap a (.frz ob (.lst xs)) from I.hok a _ ea)
    exact PySem.W.kia_one PySem.W.kitx_list I.kIn ⟨_, h1, rfl⟩ e (fun z => nomatch z) h
  | @tup a xs ea =>
    cases (show u = Value.ref a from rx)
    obtain ⟨_, _, _, p⟩ := (show ObjOk X.prog X.w H s.heap a (.tup xs) from I.hok a _ ea)
    obtain ⟨o, h1, h2, _⟩ := p
    exact PySem.W.kia_one PySem.W.kitx_tuple I.kIn ⟨o, h1, h2⟩ e (fun z => nomatch z) h
  | @dK a kvs ea =>
    cases (show u = Value.ref a from rx)
    obtain ⟨_, _, vs, _, p⟩ := (show ObjOk X.prog X.w H s.heap a (.dK kvs) from I.hok a _ ea)
    obtain ⟨o, es, ep, h1, h2, _⟩ := p
    exact PySem.W.kia_one PySem.W.kitx_dict I.kIn ⟨o, h1, h2.1⟩ e (fun z => nomatch z) h
  | @dT a kvs ea =>
    cases (show u = Value.ref a from rx)
    obtain ⟨_, _, xs, _, o, es, ep, h1, h2, _⟩ := (show ObjOk X.prog X.w H s.heap a (.dT kvs) from I.hok a _ ea)
    exact PySem.W.kia_one PySem.W.kitx_dict I.kIn ⟨o, h1, h2.1⟩ e (fun z => nomatch z) h
  | @ins a C dx fs ea cl ha hn htk hm =>
    cases (show u = Value.ref a from rx)
    obtain ⟨mA, O, _⟩ := ins_get I.hok ea
    obtain ⟨od, J, _⟩ := O.look
    exact PySem.W.kia_one (PySem.W.kitx_own (cl.get _) cl.hd ha hn htk hm) I.kIn J e (fun z => nomatch z) h
end
end L2
namespace L2
open PySem PySem.Spec PyProof.Rows
structure Room (k : Nat) (A : Around) : Prop where
  hd : A.handled = none
  dp : A.depth + 3 * k + 5 < recursionLimit
  un : A.units + 16 * k + 200 < cLine
  gd : A.guards = some []
theorem Room.mono {j k : Nat} {A : Around} (r : Room k A) (h : j ≤ k) : Room j A := ⟨r.hd, by have := r.dp; omega, by have := r.un; omega, r.gd⟩
theorem Room.deeper {k : Nat} {A : Around} (r : Room (k + 1) A) (env : Env) : Room k (A.deeper env) :=
  ⟨r.hd, by have := r.dp; show A.depth + 1 + 3 * k + 5 < _; omega, by have := r.un; show A.units + 3 + 16 * k + 200 < _; omega, r.gd⟩
theorem Room.in1 {k : Nat} {A : Around} (r : Room (k + 1) A) : Room k A.in1 :=
  ⟨r.hd, by have := r.dp; show A.depth + 3 * k + 5 < _; omega, by have := r.un; show A.units + 1 + 16 * k + 200 < _; omega, r.gd⟩
theorem make_depth {A : Around} {C : Addr} {us : List Value} {kw : List (Str × Value)} : (A.under (.builtin "type.__call__" ⟨.ref C :: us, kw⟩)).depth = A.depth + 1 := by
  first | rfl | simp [Around.under, Code.weight, Code.isCreation, Code.isGuard, Code.isCaller, Code.frames, Code.isFrame, guardIds]
theorem make_units {A : Around} {C : Addr} {us : List Value} {kw : List (Str × Value)} : (A.under (.builtin "type.__call__" ⟨.ref C :: us, kw⟩)).units = A.units + 1 := by
  first | rfl | simp [Around.under, Code.cUnits, Code.frames, Code.isFrame]
theorem Room.make {k : Nat} {A : Around} (r : Room (k + 1) A) (C : Addr) (us : List Value) (kw : List (Str × Value)) : Room k (A.under (.builtin "type.__call__" ⟨.ref C :: us, kw⟩)) :=
  ⟨r.hd, by have := r.dp; rw [make_depth]; omega, by have := r.un; rw [make_units]; omega, by first | exact r.gd | (simp only [Around.under]; exact r.gd) | (rw [← r.gd]; rfl)⟩
theorem Room.depth {k : Nat} {A : Around} (r : Room k A) : A.depth < recursionLimit := by have := r.dp; omega
theorem Room.units {k : Nat} {A : Around} (r : Room k A) : A.units + 64 < cLine := by have := r.un; omega
def tNil : TA := fun _ H Q => Q [] H
def tCons (ta : TE) (tr : TA) : TA := fun σ H Q => ta σ H fun x H1 => tr σ H1 fun xs H2 => Q (x :: xs) H2
section
variable {X : Cx} {e : Expr} {es : List Expr} {te : TE} {t : TA} {pos : Pos}
theorem pa_nil : PA X [] tNil := fun _ _ _ _ H Q I h => Calls.spliced_nil ⟨[], H, I, .nil, h⟩
theorem pa_cons (ha : PE X e te) (hr : PA X es t) (hs : starEach (e :: es) X.env = (false, eval e X.env) :: starEach es X.env := by rfl) : PA X (e :: es) (tCons te t) := by
  intro pos pins s σ H Q I h
  rw [hs]
  show wpAny _ _ (spliced ((false, eval e X.env) :: backTo pos (starEach es X.env))) _ _ s
  refine Calls.spliced_cons (thn (ha pins s σ H _ I h) fun u s1 ⟨x, H1, I1, r1, q1⟩ => ?_)
  exact thn (hr pos pins s1 σ H1 _ I1 q1) fun us s2 ⟨xs, H2, I2, r2, q2⟩ => ⟨x :: xs, H2, I2, .cons r1 r2, q2⟩
def tTup (t : TA) : TE := fun σ H Q => t σ H fun xs H1 => xs.length ≤ sizeLine ∧ ∀ p, H1 p = none → Q (.ref p) (upd H1 p (.tup xs))
def tLst (t : TA) : TE := fun σ H Q => t σ H fun xs H1 => xs.length ≤ sizeLine ∧ ∀ p, H1 p = none → Q (.ref p) (upd H1 p (.lst xs))
theorem pe_tup {x1} (h : PA X es t) : PE X (.Tuple es x1 pos) (tTup t) := by
  intro pins s σ H Q I hq
  refine wpAny_Tuple_spliced (thn (h pos pins s σ H _ I hq) fun us s1 ⟨xs, H1, I1, r, z, q⟩ => ⟨by rw [← r.length]; exact z, ?_⟩)
  have hf : H1 s1.heap.objs.size = none := I1.hok.fresh (Nat.le_refl _)
  refine ⟨.ref s1.heap.objs.size, upd H1 s1.heap.objs.size (.tup xs), I1.laid (t' := s1.toks) (fun b u e => Heap.get?_push_of_some _ e) (Nat.le_refl _) ?_, rfl, q _ hf⟩
  exact ⟨z, us, r, ⟨_, Heap.get?_push_size _ rfl, rfl, _, rfl⟩⟩
theorem pe_lst (h : PA X es t) : PE X (.List es pos) (tLst t) := by
  intro pins s σ H Q I hq
  refine wpAny_List_spliced (thn (h pos pins s σ H _ I hq) fun us s1 ⟨xs, H1, I1, r, z, q⟩ => ⟨by rw [← r.length]; exact z, ?_⟩)
  have hf : H1 s1.heap.objs.size = none := I1.hok.fresh (Nat.le_refl _)
  refine ⟨.ref s1.heap.objs.size, upd H1 s1.heap.objs.size (.lst xs), I1.laid (t' := s1.toks) (fun b u e => Heap.get?_push_of_some _ e) (Nat.le_refl _) ?_, rfl, q _ hf⟩
  exact ⟨z, us, 0, r, Heap.get?_push_size _ rfl⟩
end
abbrev Sp := List V → Hp → VK → XK → Prop
abbrev CXT := List Env → Hp → Shared → XK → Value → Shared → Prop
structure Env0 (P : Program) (w : World) (K : PySem.W.Frag) (mg : Str → Option Value) (base : Heap) (A : Around) (outer : List Env) (s : Shared) (H : Hp) : Prop where
  frames : A.frames = some outer
  mod : Mod K mg base
  bs : ∀ b o, base.get? b = some o → s.heap.get? b = some o ∧ H b = none
  bsz : base.objs.size ≤ s.heap.objs.size
  funs : s.heap.FunFrames base outer
  frf : ∀ b ∈ frs outer, H b = none
  hok : HOk P w H s.heap
  bare : AllBare s.gens
def CE (outer : List Env) (P : Program) (w : World) (H : Hp) (s : Shared) (Q : VK) (u : Value) (s' : Shared) : Prop :=
  ∃ v H', s'.os = s.os ∧ AllBare s'.gens ∧ Un (frs outer) [] H H' s.heap s'.heap ∧ HOk P w H' s'.heap ∧ RelV v u ∧ Q v H'
def CR (CX : CXT) (outer : List Env) (P : Program) (w : World) (H : Hp) (s : Shared) (Q : VK) (E : XK) (r : Result) (s' : Shared) : Prop :=
  match r with
  | .ok (.ret u) => CE outer P w H s Q u s'
  | .ok _ => False
  | .error e => CX outer H s E e s'
structure FnOk (P : Program) (w : World) (K : PySem.W.Frag) (mg : Str → Option Value) (base : Heap) (CX : CXT) (k : Nat) (f : Addr) (fd : FuncData) (ps : List Str) (sp : Sp) : Prop where
  len : ∀ vs H Q E, sp vs H Q E → vs.length = ps.length
  run : ∀ (A : Around) (outer : List Env) (s : Shared) (H : Hp) (args : Args) (us : List Value) (vs : List V) (Q : VK) (E : XK), Room k A → Env0 P w K mg base A outer s H → BindsTo s fd args (ps.zip us) → Vals vs us → sp vs H Q E →
    codeAny (model P w) A (.call (.ref f) args) (CR CX outer P w H s Q E) s
theorem FnOk.mono {P : Program} {w : World} {K : PySem.W.Frag} {mg : Str → Option Value} {base : Heap} {CX : CXT} {j k : Nat} {f : Addr} {fd : FuncData} {ps : List Str} {sp : Sp} (F : FnOk P w K mg base CX j f fd ps sp) (h : j ≤ k) :
    FnOk P w K mg base CX k f fd ps sp := ⟨F.len, fun A outer s H args us vs Q E hr => F.run A outer s H args us vs Q E (hr.mono h)⟩
theorem FnOk.imp {P : Program} {w : World} {K : PySem.W.Frag} {mg : Str → Option Value} {base : Heap} {CX : CXT} {k : Nat} {f : Addr} {fd : FuncData} {ps : List Str} {sp sp' : Sp} (F : FnOk P w K mg base CX k f fd ps sp)
    (h : ∀ vs H Q E, sp' vs H Q E → sp vs H Q E) : FnOk P w K mg base CX k f fd ps sp' :=
  ⟨fun vs H Q E q => F.len vs H Q E (h _ _ _ _ q), fun A outer s H args us vs Q E hr he hb hv hs => F.run A outer s H args us vs Q E hr he hb hv (h _ _ _ _ hs)⟩
theorem Env0.make {P : Program} {w : World} {K : PySem.W.Frag} {mg : Str → Option Value} {base : Heap} {A : Around} {outer : List Env} {s : Shared} {H : Hp} (e : Env0 P w K mg base A outer s H) (C : Addr) (us : List Value) (kw : List (Str × Value)) :
    Env0 P w K mg base (A.under (.builtin "type.__call__" ⟨.ref C :: us, kw⟩)) outer s H := ⟨by first | exact e.frames | (simpa [Around.under, Code.envs, Code.isFrame, pushEnvs] using e.frames), e.mod, e.bs, e.bsz, e.funs, e.frf, e.hok, e.bare⟩
theorem Env0.in1 {P : Program} {w : World} {K : PySem.W.Frag} {mg : Str → Option Value} {base : Heap} {A : Around} {outer : List Env} {s : Shared} {H : Hp} (e : Env0 P w K mg base A outer s H) :
    Env0 P w K mg base A.in1 outer s H := ⟨e.frames, e.mod, e.bs, e.bsz, e.funs, e.frf, e.hok, e.bare⟩
section
variable {X : Cx} {pins : List (Addr × Obj)} {σ : St} {H : Hp} {s s' : Shared}
theorem Inv.env0 (I : Inv X pins σ H s) : Env0 X.prog X.w X.K X.mg X.base X.A X.stack s H :=
  ⟨I.ok.frames, I.ok.mod, I.bs, Nat.le_trans I.ok.bsz I.sz, I.stack, I.stkFree, I.hok, I.bare⟩
theorem Inv.after {Q : VK} {u : Value} (I : Inv X pins σ H s) (h : CE X.stack X.prog X.w H s Q u s') : EP X pins σ Q u s' := by
  obtain ⟨v, H', os, bare, un, hok, r, q⟩ := h
  obtain ⟨hh, g, d, t, os'⟩ := s'
  obtain rfl : os' = s.os := os
  exact ⟨v, H', I.call (h' := hh) (g' := g) (d' := d) (t' := t) (ch := []) un hok bare (fun b z => absurd z (by simp)), r, q⟩
end
def tCall (sp : Sp) (dvs : List V) (E : XK) (t : TA) : TE := fun σ H Q => t σ H fun vs H1 => sp (vs ++ dvs) H1 Q E
def tMeth (C : Addr) (m : Str) (sp : Sp) (dvs : List V) (E : XK) (ta : TE) (t : TA) : TE := fun σ H Q => ta σ H fun x H1 => ∃ a dx fs, x = .ref a ∧ H1 a = some (.ins C dx fs) ∧ fs.lookup m = none ∧
  t σ H1 fun vs H2 => sp (x :: (vs ++ dvs)) H2 Q E
def tMake (C : Addr) (sp : Sp) (dvs : List V) (E : XK) (t : TA) : TE := fun σ H Q => t σ H fun vs H1 => ∀ x dx, H1 x = none → H1 dx = none → dx ≠ x →
  sp (.ref x :: (vs ++ dvs)) (upd (upd H1 dx (.own x)) x (.ins C dx [])) (fun v H2 => v = .non ∧ Q (.ref x) H2) E
def Binds (K : PySem.W.Frag) (fd : FuncData) (ps : List Str) (ds : List Value) : Prop :=
  ∀ (s : Shared) (us : List Value), K.In s.heap → (us ++ ds).length = ps.length → BindsTo s fd ⟨us, []⟩ (ps.zip (us ++ ds))
theorem Binds.all {K : PySem.W.Frag} {fd : FuncData} {ps : List Str} (h : ∀ us : List Value, us.length = ps.length → bindArgs fd ⟨us, []⟩ = pure (ps.zip us)) : Binds K fd ps [] := fun s us _ hl => by
  rw [List.append_nil] at hl ⊢
  exact .of_eq (h us hl)
def Passes (CX : CXT) (X : Cx) (E : XK) : Prop := ∀ (pins : List (Addr × Obj)) (σ : St) (H : Hp) (s : Shared) (e : Value) (s' : Shared), Inv X pins σ H s → CX X.stack H s E e s' → X.xe e s'
section
variable {X : Cx} {CX : CXT} {k : Nat} {f C : Addr} {fd : FuncData} {ps : List Str} {sp : Sp} {dvs : List V} {ds : List Value} {E : XK} {x m : Str} {p pos apos : Pos} {e o : Expr} {es : List Expr} {ta : TE} {t : TA}
theorem run_fn {pins : List (Addr × Obj)} {σ : St} {H : Hp} {s : Shared} {Q : VK} {us : List Value} {vs : List V} (F : FnOk X.prog X.w X.K X.mg X.base CX k f fd ps sp) (hr : Room k X.A) (hb : Binds X.K fd ps ds) (hd : Vals dvs ds) (hx : Passes CX X E)
    (I : Inv X pins σ H s) (r : Vals vs us) (h : sp (vs ++ dvs) H Q E) : wpAny (model X.prog X.w) X.A (call (.ref f) us) (EP X pins σ Q) X.xe s := by
  have r2 : Vals (vs ++ dvs) (us ++ ds) := r.append hd
  have hl : (us ++ ds).length = ps.length := by rw [← r2.length]; exact F.len _ _ _ _ h
  refine wpAny_call (codeAny_mono (F.run X.A X.stack s H ⟨us, []⟩ (us ++ ds) (vs ++ dvs) Q E hr I.env0 (hb s us I.kIn hl) r2 h) fun r s' hq => ?_)
  cases r with
  | error e => exact hx pins σ H s e s' I hq
  | ok fl =>
    cases fl with
    | ret u => exact I.after hq
    | next => exact False.elim hq
    | brk => exact False.elim hq
    | cont => exact False.elim hq
theorem pe_call (F : FnOk X.prog X.w X.K X.mg X.base CX k f fd ps sp) (hr : Room k X.A) (hg : Gl X x) (hm : X.mg x = some (.ref f)) (hk : PySem.W.keepIn X.K (.ref f) = true) (hb : Binds X.K fd ps ds) (hd : Vals dvs ds) (hx : Passes CX X E)
    (ha : PA X (e :: es) t) (hdb : (x == ("__debug__" : Str)) = false := by decide) (he : starEach (e :: es) X.env = (false, eval e X.env) :: starEach es X.env := by rfl) (hpl : (backTo pos (starEach es X.env)).any (·.1) = false := by rfl) :
    PE X (.Call (.Name x p) (e :: es) [] pos) (tCall sp dvs E t) := by
  intro pins s σ H Q I h
  refine wpAny_Call_Name_kw (ld_glob I hg hm ?_ hdb)
  refine PySem.W.callWith_K (h₀ := X.base) I.ok.mod.kin hk (thn (ha pos pins s σ H _ I h) fun us s1 ⟨vs, H1, I1, r, q⟩ => ⟨I1.kIn, ?_⟩) he hpl
  exact run_fn F hr hb hd hx I1 r q
theorem pe_meth {pl : Sem Bool} (he : PE X o ta) (c : Cls X.K C) (hm : Meth X.K C m f) (F : FnOk X.prog X.w X.K X.mg X.base CX k f fd ps sp) (hr : Room k X.A) (hb : Binds X.K fd ps ds) (hd : Vals dvs ds) (hx : Passes CX X E) (ha : PA X (e :: es) t)
    (hst : starEach (e :: es) X.env = (false, eval e X.env) :: starEach es X.env := by rfl) (hpl : (backTo pos (starEach es X.env)).any (·.1) = false := by rfl)
    (ht : eval (.Call (.Attribute o m apos) (e :: es) [] pos) X.env = (do
      let ov ← eval o X.env
      standAt apos.atName
      let (f, first) ← holding [ov] (getMethod ov m pl)
      callWith pos f first (backTo pos (starEach (e :: es) X.env)) (backToKw pos (keywordEach [] X.env))) := by rfl) :
    PE X (.Call (.Attribute o m apos) (e :: es) [] pos) (tMeth C m sp dvs E ta t) := by
  intro pins s σ H Q I h
  refine PySem.W.methodCall_KW (pl := pl) (thn (he pins s σ H _ I h) fun u s1 ⟨x, H1, I1, rx, a, dx, fs, ex, ea, l, q⟩ => ?_) ht
  subst ex
  obtain rfl : u = Value.ref a := rx
  refine getmeth_ok I1 ea c hm l ?_
  refine PySem.W.callWith_K (first := [.ref a]) (h₀ := X.base) I.ok.mod.kin hm.kp (thn (ha pos pins s1 σ H1 _ I1 q) fun us s2 ⟨vs, H2, I2, r, q2⟩ => ⟨I2.kIn, ?_⟩) hst hpl
  exact run_fn (us := .ref a :: us) (vs := .ref a :: vs) F hr hb hd hx I2 (.cons rfl r) q2
structure Mk (K : PySem.W.Frag) (C f : Addr) : Prop where
  makes : PySem.W.makesIn K C = true
  init : PySem.W.findIn K (.ref C) "__init__" = some (some (.ref f))
  fn : PySem.W.isFn K (.ref f) = true
  kp : PySem.W.keepIn K (.ref C) = true
theorem run_make {pins : List (Addr × Obj)} {σ : St} {H : Hp} {s : Shared} {Q : VK} {us : List Value} {vs : List V} (M : Mk X.K C f) (F : FnOk X.prog X.w X.K X.mg X.base CX k f fd ps sp) (hr : Room (k + 1) X.A) (hb : Binds X.K fd ps ds) (hd : Vals dvs ds)
    (hx : Passes CX X E) (I : Inv X pins σ H s) (r : Vals vs us)
    (h : ∀ x dx, H x = none → H dx = none → dx ≠ x → sp (.ref x :: (vs ++ dvs)) (upd (upd H dx (.own x)) x (.ins C dx [])) (fun v H2 => v = .non ∧ Q (.ref x) H2) E) :
    wpAny (model X.prog X.w) X.A (call (.ref C) us) (EP X pins σ Q) X.xe s := by
  have hq := h (s.heap.objs.size + 1) s.heap.objs.size (I.hok.fresh (Nat.le_succ _)) (I.hok.fresh (Nat.le_refl _)) (Nat.ne_of_lt (Nat.lt_succ_self _))
  have I2 := Inv.made (C := C) I
  have r2 : Vals (V.ref (s.heap.objs.size + 1) :: (vs ++ dvs)) (Value.ref (s.heap.objs.size + 1) :: (us ++ ds)) := .cons rfl (r.append hd)
  have hl : (Value.ref (s.heap.objs.size + 1) :: us ++ ds).length = ps.length := by
    have e := r2.length
    rw [F.len _ _ _ _ hq] at e
    exact e.symm
  refine wpAny_call (make_map (f := f) I.kIn M.makes M.init (beq_iff_eq.mp M.fn) (codeAny_mono (F.run _ X.stack _ _ ⟨Value.ref (s.heap.objs.size + 1) :: us, []⟩ (Value.ref (s.heap.objs.size + 1) :: (us ++ ds)) _ _ E (hr.make C us [])
    (I2.env0.make C us []) (hb _ (Value.ref (s.heap.objs.size + 1) :: us) I2.kIn hl) r2 hq) fun r s' hq' => ?_))
  cases r with
  | error e => exact hx pins σ _ _ e s' I2 hq'
  | ok fl =>
    cases fl with
    | ret u =>
      obtain ⟨v, H', I3, rv, ev, q3⟩ := I2.after hq'
      subst ev
      exact ⟨rv, ⟨V.ref (s.heap.objs.size + 1), H', I3, rfl, q3⟩⟩
    | next => exact False.elim hq'
    | brk => exact False.elim hq'
    | cont => exact False.elim hq'
theorem pe_make (M : Mk X.K C f) (F : FnOk X.prog X.w X.K X.mg X.base CX k f fd ps sp) (hr : Room (k + 1) X.A) (hg : Gl X x) (hm : X.mg x = some (.ref C)) (hb : Binds X.K fd ps ds) (hd : Vals dvs ds) (hx : Passes CX X E)
    (ha : PA X (e :: es) t) (hdb : (x == ("__debug__" : Str)) = false := by decide) (he : starEach (e :: es) X.env = (false, eval e X.env) :: starEach es X.env := by rfl) (hpl : (backTo pos (starEach es X.env)).any (·.1) = false := by rfl) :
    PE X (.Call (.Name x p) (e :: es) [] pos) (tMake C sp dvs E t) := by
  intro pins s σ H Q I h
  refine wpAny_Call_Name_kw (ld_glob I hg hm ?_ hdb)
  refine PySem.W.callWith_K (h₀ := X.base) I.ok.mod.kin M.kp (thn (ha pos pins s σ H _ I h) fun us s1 ⟨vs, H1, I1, r, q⟩ => ⟨I1.kIn, ?_⟩) he hpl
  exact run_make M F hr hb hd hx I1 r q
theorem pe_make0 (M : Mk X.K C f) (F : FnOk X.prog X.w X.K X.mg X.base CX k f fd ps sp) (hr : Room (k + 1) X.A) (hg : Gl X x) (hm : X.mg x = some (.ref C)) (hb : Binds X.K fd ps ds) (hd : Vals dvs ds) (hx : Passes CX X E)
    (hdb : (x == ("__debug__" : Str)) = false := by decide) : PE X (.Call (.Name x p) [] [] pos) (tMake C sp dvs E tNil) := by
  intro pins s σ H Q I h
  refine wpAny_Call_Name_kw (ld_glob I hg hm ?_ hdb)
  exact PySem.W.callWith_K0 I.kIn M.kp (run_make (us := []) M F hr hb hd hx I .nil h)
end
def PK (X : Cx) (kws : List Keyword) (t : TA) : Prop :=
  ∀ (pos : Pos) (pins : List (Addr × Obj)) (s : Shared) (σ : St) (H : Hp) (Q : List V → Hp → Prop), Inv X pins σ H s → t σ H Q → wpAny (model X.prog X.w) X.A (evalAll ((backToKw pos (keywordEach kws X.env)).map (·.2))) (AP X pins σ Q) X.xe s
section
variable {X : Cx} {CX : CXT} {k : Nat} {f C : Addr} {fd : FuncData} {ps ks : List Str} {sp : Sp} {E : XK} {x m : Str} {p pos apos kpos : Pos} {e o : Expr} {es : List Expr} {kws : List Keyword} {te ta : TE} {t tk : TA} {nm : Option Str}
theorem pk_nil : PK X [] tNil := fun _ _ _ _ H Q I h => wpAny_evalAll_nil ⟨[], H, I, .nil, h⟩
theorem pk_cons (ha : PE X e te) (hr : PK X kws t) : PK X (⟨nm, e, kpos⟩ :: kws) (tCons te t) := by
  intro pos pins s σ H Q I h
  show wpAny _ _ (evalAll ((do let v ← eval e X.env; standAt pos; pure v) :: (backToKw pos (keywordEach kws X.env)).map (·.2))) _ _ s
  refine wpAny_evalAll_cons (wpAny_bind (thn (ha pins s σ H _ I h) fun u s1 ⟨x, H1, I1, r1, q1⟩ => wpAny_bind (wpAny_standAt (wpAny_pure ?_))))
  exact thn (hr pos pins s1 σ H1 _ I1 q1) fun us s2 ⟨xs, H2, I2, r2, q2⟩ => ⟨x :: xs, H2, I2, .cons r1 r2, q2⟩
structure KBinds (K : PySem.W.Frag) (fd : FuncData) (ps ks : List Str) (g : List Value → List Value → List Value) (gV : List V → List V → List V) : Prop where
  to : ∀ (s : Shared) (us ws : List Value), K.In s.heap → (g us ws).length = ps.length → BindsTo s fd ⟨us, ks.zip ws⟩ (ps.zip (g us ws))
  rel : ∀ {vs : List V} {us : List Value} {zs : List V} {ws : List Value}, Vals vs us → Vals zs ws → Vals (gV vs zs) (g us ws)
variable {g : List Value → List Value → List Value} {gV : List V → List V → List V}
end
structure FnScope (N P : List Str) (sc : Scope) : Prop where
  kind : sc.kind = .function
  co : sc.isCoroutine = false
  gen : sc.isGenerator = false
  nd : N.Nodup
  pre : N.take P.length = P
  par : ∀ x ∈ P, sc.names.lookup x = some .local ∨ sc.names.lookup x = some .cell
  nofree : ∀ y ∈ sc.names, y.2 ≠ .free
theorem bindL_out {kindOf : Str → Option NameKind} {x : Str} : ∀ {binds : List (Str × Value)} {m : Str → Option Value}, (∀ v, (x, v) ∉ binds) → bindL kindOf binds m x = m x
  | [], _, _ => rfl
  | (n, v) :: r, m, h => by
    unfold bindL
    rw [bindL_out fun w hw => h w (List.mem_cons_of_mem _ hw)]
    split
    · have : x ≠ n := by rintro rfl; exact h v List.mem_cons_self
      simp [this]
    · rfl
theorem bindC_out {kindOf : Str → Option NameKind} {x : Str} : ∀ {binds : List (Str × Value)} {m : Str → Option Value}, (∀ v, (x, v) ∉ binds) → bindC kindOf binds m x = m x
  | [], _, _ => rfl
  | (n, v) :: r, m, h => by
    unfold bindC
    rw [bindC_out fun w hw => h w (List.mem_cons_of_mem _ hw)]
    split
    · rfl
    · have : x ≠ n := by rintro rfl; exact h v List.mem_cons_self
      simp [this]
theorem bindL_get {kindOf : Str → Option NameKind} {x : Str} {v : Value} : ∀ {P : List Str} {vs : List Value} {i : Nat} {m : Str → Option Value}, P.Nodup → P[i]? = some x → vs[i]? = some v → kindOf x = some .local →
    bindL kindOf (P.zip vs) m x = some v
  | [], _, _, _, _, h, _, _ => by simp at h
  | _ :: _, [], _, _, _, _, h, _ => by simp at h
  | p :: P, w :: vs, 0, m, nd, h1, h2, hk => by
    simp at h1 h2; subst h1; subst h2
    show bindL kindOf ((p, w) :: P.zip vs) m p = _
    unfold bindL
    rw [bindL_out fun v hv => (List.nodup_cons.mp nd).1 (List.of_mem_zip hv).1, if_pos hk]
    simp
  | p :: P, w :: vs, i + 1, m, nd, h1, h2, hk => by
    show bindL kindOf ((p, w) :: P.zip vs) m x = _
    unfold bindL
    exact bindL_get (i := i) (List.nodup_cons.mp nd).2 (by simpa using h1) (by simpa using h2) hk
theorem bindC_get {kindOf : Str → Option NameKind} {x : Str} {v : Value} : ∀ {P : List Str} {vs : List Value} {i : Nat} {m : Str → Option Value}, P.Nodup → P[i]? = some x → vs[i]? = some v → kindOf x ≠ some .local →
    bindC kindOf (P.zip vs) m x = some v
  | [], _, _, _, _, h, _, _ => by simp at h
  | _ :: _, [], _, _, _, _, h, _ => by simp at h
  | p :: P, w :: vs, 0, m, nd, h1, h2, hk => by
    simp at h1 h2; subst h1; subst h2
    show bindC kindOf ((p, w) :: P.zip vs) m p = _
    unfold bindC
    rw [bindC_out fun v hv => (List.nodup_cons.mp nd).1 (List.of_mem_zip hv).1, if_neg hk]
    simp
  | p :: P, w :: vs, i + 1, m, nd, h1, h2, hk => by
    show bindC kindOf ((p, w) :: P.zip vs) m x = _
    unfold bindC
    exact bindC_get (i := i) (List.nodup_cons.mp nd).2 (by simpa using h1) (by simpa using h2) hk
def start (N : List Str) (vs : List V) : St := vs.map some ++ List.replicate (N.length - vs.length) none
def cxOf (CX : CXT) (P : Program) (w : World) (K : PySem.W.Frag) (mg : Str → Option Value) (base : Heap) (N : List Str) (qual : Str) (scope : Scope) (f : Addr) (cd : Value) (A : Around) (outer : List Env) (s : Shared) (H : Hp) (E : XK) : Cx where
  prog := P
  w := w
  K := K
  mg := mg
  base := base
  A := A.deeper (envOfC qual scope s.heap.objs.size f cd)
  N := N
  s₀ := s
  H₀ := H
  env := envOfC qual scope s.heap.objs.size f cd
  outer := outer
  stack := envOfC qual scope s.heap.objs.size f cd :: outer
  ex := []
  calm := true
  fn := fun _ => true
  pn := []
  xe := fun e s' => wpAny (model P w) (A.deeper (envOfC qual scope s.heap.objs.size f cd)) (leaving (envOfC qual scope s.heap.objs.size f cd) e) (fun _ s'' => CX outer H s E e s'') (fun e' s'' => CX outer H s E e' s'') s'
theorem cell_has {sc : Scope} {n : Nat} {x : Str} (h : sc.names.lookup x = some .cell) : ∃ c, (cellsFrom n sc.names []).lookup x = some c := by
  have q := PySem.W.cellsFrom_some sc.names n [] (.inl h)
  exact Option.isSome_iff_exists.mp q
theorem inv_start {CX : CXT} {P : Program} {w : World} {K : PySem.W.Frag} {mg : Str → Option Value} {base : Heap} {N ps : List Str} {qual : Str} {scope : Scope} {f : Addr} {cd : Value} {A : Around} {outer : List Env} {s s1 : Shared} {H : Hp} {E : XK} {us : List Value} {vs : List V}
    (S : FnScope N ps scope) (hd : A.handled = none) (e0 : Env0 P w K mg base A outer s H) (hl : vs.length = ps.length) (r : Vals vs us)
    (x : InCallC s s.heap.objs.size (bindL (envOfC qual scope s.heap.objs.size f cd).kindOf (ps.zip us) fun _ => none) (cellsFrom (s.heap.objs.size + 1) scope.names []) (bindC (envOfC qual scope s.heap.objs.size f cd).kindOf (ps.zip us) fun _ => none) s1) :
    Inv (cxOf CX P w K mg base N qual scope f cd A outer s H E) [] (start N vs) H s1 := by
  have hpl : ps.length ≤ N.length := by have := congrArg List.length S.pre; rw [List.length_take] at this; omega
  obtain ⟨h1, tk, rfl, hk⟩ := x.done
  have noA : ∀ b : Addr, b ∉ (cxOf CX P w K mg base N qual scope f cd A outer s H E).ex := fun b z => absurd (show b ∈ ([] : List Addr) from z) (by simp)
  refine ⟨⟨e0.mod, S.kind, rfl, rfl, Nat.le_refl _, fun y z c h1 h2 => ?_, fun y hy => ?_, fun y c _ h => ?_, fun _ => hd, Around.frames_deeper e0.frames, .inr ⟨rfl, rfl⟩, fun b z => absurd z (noA b), e0.bs, e0.bsz, fun b _ _ => noA b, fun b z => absurd z (noA b), e0.funs, e0.frf⟩,
    rfl, e0.bare, Un.kept hk, ⟨_, x.toInCall.ns, fun i y v h1 h2 h3 => ?_⟩, fun y c h => ⟨_, x.cell y c h⟩, e0.hok.fresh (Nat.le_refl _), fun y c h => ?_, fun p hp => absurd (show p ∈ ([] : List (Addr × Obj)) from hp) (by simp), e0.hok.kept hk, ?_⟩
  · exact name_of_addr x.apart (PySem.mem_of_lookup h1) (PySem.mem_of_lookup h2)
  · have hy : scope.names.lookup y = some .cell ∨ scope.names.lookup y = some .free := hy
    rcases hy with hy | hy
    · exact cell_has hy
    · exact absurd rfl (S.nofree _ (PySem.mem_of_lookup hy))
  · exact Nat.le_of_lt (x.above y c (PySem.mem_of_lookup h))
  · have hi : i < vs.length := by
      unfold start at h2
      by_cases hi : i < vs.length
      · exact hi
      · rw [List.getElem?_append_right (by simpa using hi)] at h2
        rw [List.getElem?_replicate] at h2
        split at h2 <;> cases h2
    have ha : vs[i]? = some v := by
      unfold start at h2
      rw [List.getElem?_append_left (by simpa using hi), List.getElem?_map] at h2
      cases e : vs[i]? with
      | none => rw [e] at h2; cases h2
      | some a => rw [e] at h2; cases h2; rfl
    obtain ⟨u, hu, rv⟩ := r.get ha
    have hp : ps[i]? = some y := by
      rw [← S.pre, List.getElem?_take_of_lt (by omega)]; exact h1
    have ndP : ps.Nodup := by rw [← S.pre]; exact S.nd.sublist (List.take_sublist _ _)
    refine ⟨u, rv, ?_⟩
    rcases S.par y (List.mem_of_getElem? hp) with k | k
    · exact .inl ⟨k, bindL_get ndP hp hu k⟩
    · obtain ⟨c, e⟩ := cell_has (n := s.heap.objs.size + 1) k
      refine .inr ⟨.inl k, c, e, ?_⟩
      have q := x.cell y c e
      rw [bindC_get ndP hp hu (by show scope.names.lookup y ≠ _; rw [k]; decide)] at q
      exact q
  · exact e0.hok.fresh (Nat.le_of_lt (x.above y c (PySem.mem_of_lookup h)))
  · unfold start
    show _ = N.length
    rw [List.length_append, List.length_map, List.length_replicate]
    omega
theorem fn_of {CX : CXT} {P : Program} {w : World} {K : PySem.W.Frag} {mg : Str → Option Value} {base : Heap} {k : Nat} {f : Addr} {name qual : Str} {params : Arguments} {body : List Stmt} {scope : Scope} {dV kV doc pm cdv ct oc : Value} {an od : Option Addr}
    {osl : Array (Option Value)} {N ps : List Str} {sp : Sp} (lk : K.lookup f = some ⟨oc, od, .func (PySem.W.fnOf name qual params body scope dV kV doc pm an cdv ct), osl⟩) (hcd : PySem.W.codeIn K cdv qual = true) (S : FnScope N ps scope)
    (len : ∀ vs H Q E, sp vs H Q E → vs.length = ps.length)
    (hbody : ∀ (A : Around) (outer : List Env) (s : Shared) (H : Hp) (vs : List V) (Q : VK) (E : XK), Room k (A.deeper (envOfC qual scope s.heap.objs.size f cdv)) → sp vs H Q E →
      ∃ t, PSs (cxOf CX P w K mg base N qual scope f cdv A outer s H E) body t ∧ t { nx := fun _ H' => Q .non H', rt := Q } (start N vs) H) :
    FnOk P w K mg base CX (k + 1) f (PySem.W.fnOf name qual params body scope dV kV doc pm an cdv ct) ps sp := by
  refine ⟨len, fun A outer s H args us vs Q E hr e0 hb r hsp => ?_⟩
  have hl := len _ _ _ _ hsp
  have KX : K.In s.heap := e0.mod.kin.keeps fun b o e => (e0.bs b o e).1
  have lim : s.heap.NoLimit := e0.mod.nolimit.keeps fun b o e => (e0.bs b o e).1
  have hkind : ∀ y ∈ ps.zip us, scope.names.lookup y.1 = some .local ∨ (scope.names.lookup y.1 = some .cell ∧ ((cellsFrom (s.heap.objs.size + 1) scope.names []).lookup y.1).isSome = true) := fun ⟨n, v⟩ hy => by
    rcases S.par n (List.of_mem_zip hy).1 with q | q
    · exact .inl q
    · exact .inr ⟨q, PySem.W.cellsFrom_some _ _ _ (.inl q)⟩
  refine codeAny_call_function hr.depth (KX _ _ lk) rfl S.co S.gen rfl (PySem.W.codeRec_of KX hcd) (hb _ _ _ _ ?_)
  refine wpAny_newFunctionEnv_cells S.kind hkind fun env he s1 x => ?_
  subst he
  refine ⟨lim.keeps x.toInCall.keep, codeAny_func ?_⟩
  obtain ⟨t, ht, hq⟩ := hbody A outer s H vs Q E (hr.deeper _) hsp
  have I : Inv (cxOf CX P w K mg base N qual scope f cdv A outer s H E) [] (start N vs) H s1 := inv_start S hr.hd e0 hl r x
  refine wpAny_mono (ht [] s1 (start N vs) H _ I hq) (fun fl s' hs => ?_) fun e s' hs => hs
  have fin : ∀ {σ' : St} {H' : Hp} {v : V} {u : Value}, Inv (cxOf CX P w K mg base N qual scope f cdv A outer s H E) [] σ' H' s' → RelV v u → Q v H' → CE outer P w H s Q u s' :=
    fun {σ' H' v u} J rv q => ⟨v, H', J.os, J.bare, J.base, J.hok, rv, q⟩
  cases fl with
  | ret u =>
    obtain ⟨v, σ', H', J, rv, q⟩ := hs
    exact fin J rv q
  | next =>
    obtain ⟨σ', H', J, q⟩ := hs
    exact fin (v := V.non) (u := Value.none) J rfl q
  | brk =>
    obtain ⟨_, _, _, q⟩ := hs
    exact False.elim q
  | cont =>
    obtain ⟨_, _, _, q⟩ := hs
    exact False.elim q
end L2
namespace L2
open PySem PySem.Spec PyProof.Rows
section
variable {X : Cx} {x : Str} {p pos : Pos} {e : Expr} {es : List Expr} {t : TA} {id T : String} {r : List V → Hp → VK → Prop}
def tCB (r : List V → Hp → VK → Prop) (t : TA) : TE := fun σ H Q => t σ H fun vs H1 => r vs H1 Q
theorem pe_callB (hc : CallR X (.builtin id) r) (hg : Gl X x) (hm : X.mg x = none) (hv : bootBuiltins x = some (.builtin id)) (ha : PA X (e :: es) t) (hn : x ≠ "__name__" := by decide) (hdb : (x == ("__debug__" : Str)) = false := by decide)
    (he : starEach (e :: es) X.env = (false, eval e X.env) :: starEach es X.env := by rfl) (hpl : (backTo pos (starEach es X.env)).any (·.1) = false := by rfl) : PE X (.Call (.Name x p) (e :: es) [] pos) (tCB r t) := by
  intro pins s σ H Q I h
  refine wpAny_Call_Name_kw (ld_blt I hg hm hv ?_ hn hdb)
  exact PyProof.Rows.callWith_builtin1 (thn (ha pos pins s σ H _ I h) fun us s1 ⟨vs, H1, I1, r1, q1⟩ => hc pins s1 σ H1 vs us Q I1 r1 q1) he hpl
theorem pe_callTy (hc : CallR X (.type T) r) (hg : Gl X x) (hm : X.mg x = none) (hv : bootBuiltins x = some (.type T)) (ha : PA X (e :: es) t) (hn : x ≠ "__name__" := by decide) (hdb : (x == ("__debug__" : Str)) = false := by decide)
    (he : starEach (e :: es) X.env = (false, eval e X.env) :: starEach es X.env := by rfl) (hpl : (backTo pos (starEach es X.env)).any (·.1) = false := by rfl) : PE X (.Call (.Name x p) (e :: es) [] pos) (tCB r t) := by
  intro pins s σ H Q I h
  refine wpAny_Call_Name_kw (ld_blt I hg hm hv ?_ hn hdb)
  exact PyProof.Rows.callWith_type1 (thn (ha pos pins s σ H _ I h) fun us s1 ⟨vs, H1, I1, r1, q1⟩ => hc pins s1 σ H1 vs us Q I1 r1 q1) he hpl
end
end L2
namespace HT
open PySem PyProof.Rows
section
open PySem.SeqAt
open PySem.AutoSeq1 (wpAny_loadPart')
open PySem.MeetsSeq PySem.MeetsSeq2 PySem.MeetsSeq3
end
section
variable {prog : Program} {w : World} {A : Around} {E : Value → Shared → Prop} {s : Shared}
def sIx (n d : Nat) : Option Int → Nat
  | none => d
  | some v => if v < 0 then (v + (n : Int)).toNat else min v.toNat n
theorem sIx_none (n d : Nat) : sIx n d none = d := rfl
theorem sIx_nat (n d k : Nat) : sIx n d (some (k : Int)) = min k n := by
  show (if (k : Int) < 0 then ((k : Int) + (n : Int)).toNat else min (k : Int).toNat n) = min k n
  rw [if_neg (by omega), Int.toNat_natCast]
end
end HT
namespace L2
open PySem PySem.Spec PyProof.Rows
abbrev TO := St → Hp → (Option Int → Hp → Prop) → Prop
def PO (X : Cx) (e : Option Expr) (t : TO) : Prop :=
  ∀ (pins : List (Addr × Obj)) (s : Shared) (σ : St) (H : Hp) (Q : Option Int → Hp → Prop), Inv X pins σ H s → t σ H Q →
    wpAny (model X.prog X.w) X.A (evalPart e X.env) (fun u s' => ∃ o H', Inv X pins σ H' s' ∧ IsPart u o ∧ Q o H') X.xe s
def tNoPart : TO := fun _ H Q => Q none H
def tPart (t : TE) : TO := fun σ H Q => t σ H fun x H1 => ∃ i, x = .int i ∧ Q (some i) H1
theorem intsAre_of {ns : List Int} : ∀ {us : List Value}, Vals (ns.map V.int) us → IntsAre us ns := by
  induction ns with
  | nil => intro us r; rw [List.map_nil] at r; cases r; exact .nil
  | cons n ns ih =>
    intro us r
    rw [List.map_cons] at r
    cases r with
    | cons r1 r2 =>
      obtain ⟨t, e⟩ := r1
      subst e
      exact .cons n t (ih r2)
section
variable {X : Cx} {e : Expr} {te : TE} {lo hi : Option Expr} {tl th : TO} {pos p2 : Pos}
theorem po_none : PO X none tNoPart := by
  intro pins s σ H Q I h
  rw [evalPart_none]
  exact wpAny_pure ⟨none, H, I, .none, h⟩
theorem po_some (h : PE X e te) : PO X (some e) (tPart te) := by
  intro pins s σ H Q I hw
  rw [evalPart_some]
  refine thn (h pins s σ H _ I hw) fun u s1 ⟨x, H1, I1, r1, q1⟩ => ?_
  obtain ⟨i, rfl, q⟩ := q1
  obtain ⟨t, rfl⟩ := r1
  exact ⟨some i, H1, I1, .int i t, q⟩
def SlR (X : Cx) (r : V → Option Int → Option Int → Hp → VK → Prop) : Prop :=
  ∀ (pins : List (Addr × Obj)) (s : Shared) (σ : St) (H : Hp) (x : V) (v vl vu : Value) (lo hi : Option Int) (sl : Addr) (Q : VK), Inv X pins σ H s → RelV x v → s.heap.IsSliceOf sl vl vu .none → IsPart vl lo → IsPart vu hi → r x lo hi H Q →
    ∃ T id, typeLookup (.type T) "__getitem__" = pure (some (.builtin id)) ∧ s.TypeIs v T ∧ wpAny (model X.prog X.w) X.A (getItem v (.ref sl)) (EP X pins σ Q) X.xe s
def tSl (r : V → Option Int → Option Int → Hp → VK → Prop) (te : TE) (tl th : TO) : TE := fun σ H Q => te σ H fun x H1 => tl σ H1 fun l H2 => th σ H2 fun u H3 => r x l u H3 Q
theorem pe_slice {r : V → Option Int → Option Int → Hp → VK → Prop} (hr : SlR X r) (he : PE X e te) (hl : PO X lo tl) (hu : PO X hi th) : PE X (.Subscript e (.Slice lo hi none p2) pos) (tSl r te tl th) := by
  intro pins s σ H Q I h
  refine Subscript_ (thn (he pins s σ H _ I h) fun v s1 ⟨x, H1, I1, r1, q1⟩ => ?_)
  refine wpAny_Slice (thn (hl pins s1 σ H1 _ I1 q1) fun vl s2 ⟨l, H2, I2, pl, q2⟩ => thn (hu pins s2 σ H2 _ I2 q2) fun vu s3 ⟨u, H3, I3, pu, q3⟩ => ?_)
  rw [evalPart_none]
  refine wpAny_pure ?_
  have I4 : Inv X pins σ H3 { s3 with heap := s3.heap.push { cls := .type "slice", data := .fields #[vl, vu, .none] } } := I3.kept (t' := s3.toks) fun b ob q => Heap.get?_push_of_some _ q
  obtain ⟨T, id, hT, ht, hg⟩ := hr pins { s3 with heap := s3.heap.push { cls := .type "slice", data := .fields #[vl, vu, .none] } } σ H3 x v vl vu l u s3.heap.objs.size Q I4 r1 (Heap.IsSliceOf.new ..) pl pu q3
  show wpAny (model X.prog X.w) X.A (subscriptTail e (.Slice lo hi none p2) v (.ref s3.heap.objs.size)) (EP X pins σ Q) X.xe { s3 with heap := s3.heap.push { cls := .type "slice", data := .fields #[vl, vu, .none] } }
  exact tail_any (ops := [.ref s3.heap.objs.size, v]) ht hT hg (by with_unfolding_all rfl)
def cutV (xs : List V) (lo hi : Option Int) : List V := (xs.drop (HT.sIx xs.length 0 lo)).take (HT.sIx xs.length xs.length hi - HT.sIx xs.length 0 lo)
theorem cutV_length (xs : List V) (lo hi : Option Int) : (cutV xs lo hi).length ≤ xs.length := by
  unfold cutV
  rw [List.length_take, List.length_drop]
  omega
end
end L2
namespace L2
open PySem PySem.Spec PyProof.Rows
def ixN (n : Nat) (i : Int) : Option Nat := if 0 ≤ i then (if i < n then some i.toNat else none) else if -(n : Int) ≤ i then some (i + n).toNat else none
def atI {α : Type} (xs : List α) (i : Int) : Option α := (ixN xs.length i).bind fun j => xs[j]?
theorem ixN_seq {n : Nat} {i : Int} {j : Nat} (h : ixN n i = some j) : seqIndex? i n = some j ∧ j < n ∧ -(n : Int) ≤ i ∧ i < n := by
  unfold ixN at h
  by_cases h0 : 0 ≤ i
  · rw [if_pos h0] at h
    by_cases h1 : i < n
    · rw [if_pos h1] at h
      have e : i.toNat = j := Option.some.inj h
      exact ⟨by rw [seqIndex_of h0 h1, e], by omega, by omega, h1⟩
    · rw [if_neg h1] at h; cases h
  · rw [if_neg h0] at h
    by_cases h1 : -(n : Int) ≤ i
    · rw [if_pos h1] at h
      have e : (i + n).toNat = j := Option.some.inj h
      exact ⟨by rw [seqIndex_neg (by omega) h1, e], by omega, h1, by omega⟩
    · rw [if_neg h1] at h; cases h
theorem atI_get {α : Type} {xs : List α} {i : Int} {v : α} (h : atI xs i = some v) : ∃ j, seqIndex? i xs.length = some j ∧ xs[j]? = some v ∧ j < xs.length ∧ -(xs.length : Int) ≤ i ∧ i < xs.length := by
  unfold atI at h
  cases e : ixN xs.length i with
  | none => rw [e] at h; cases h
  | some j =>
    rw [e] at h
    obtain ⟨h1, h2, h3, h4⟩ := ixN_seq e
    exact ⟨j, h1, h, h2, h3, h4⟩
theorem atI_nat {α : Type} {xs : List α} {j : Nat} {v : α} (h : xs[j]? = some v) : atI xs (j : Int) = some v := by
  have hj : j < xs.length := (List.getElem?_eq_some_iff.mp h).1
  have e : ixN xs.length (j : Int) = some j := by
    unfold ixN
    rw [if_pos (by omega), if_pos (by omega)]; simp
  unfold atI; rw [e]; exact h
theorem atI_last {α : Type} (xs : List α) (v : α) : atI (xs ++ [v]) (-1) = some v := by
  have hl : (xs ++ [v]).length = xs.length + 1 := by simp
  have e : ixN (xs ++ [v]).length (-1) = some xs.length := by
    unfold ixN
    rw [hl, if_neg (by decide), if_pos (by omega)]
    congr 1
    omega
  unfold atI
  rw [e]
  show (xs ++ [v])[xs.length]? = some v
  simp
def PlainIx (b : Expr) : Prop := ∀ o i, subscripted b false o i = operate [o, i] (getItem o i)
def IxR (X : Cx) (r : R2) : Prop :=
  ∀ (value slice : Expr) (pins : List (Addr × Obj)) (s : Shared) (σ : St) (H : Hp) (x y : V) (v u : Value) (Q : VK), Inv X pins σ H s → RelV x v → RelV y u → r x y H Q →
    subscripted slice false v u = operate [v, u] (getItem v u) → wpAny (model X.prog X.w) X.A (subscriptTail value slice v u) (EP X pins σ Q) X.xe s
def MtR (X : Cx) (id : String) (r : V → List V → Hp → VK → Prop) : Prop :=
  ∀ (pins : List (Addr × Obj)) (s : Shared) (σ : St) (H : Hp) (x : V) (xs : List V) (v : Value) (us : List Value) (Q : VK), Inv X pins σ H s → RelV x v → Vals xs us → r x xs H Q →
    wpAny (model X.prog X.w) X.A (call (.builtin id) (v :: us)) (EP X pins σ Q) X.xe s
section
variable {X : Cx} {a b : Expr} {ta tb : TE} {pos : Pos}
theorem pe_ix {r : R2} (hr : IxR X r) (ha : PE X a ta) (hb : PE X b tb) (hs : PlainIx b) : PE X (.Subscript a b pos) (tOp r ta tb) := by
  intro pins s σ H Q I h
  exact Subscript_ (binT ha hb I h fun v u s2 x y H2 I2 rx ry q => hr a b pins s2 σ H2 x y v u Q I2 rx ry q (hs _ _))
def rIxL (K : PySem.W.Frag) : R2 := fun x y H Q => ∃ p xs i v, x = .ref p ∧ y = .int i ∧ SqL K H p xs ∧ atI xs i = some v ∧ Q v H
def rIxT (K : PySem.W.Frag) : R2 := fun x y H Q => ∃ p xs i v, x = .ref p ∧ y = .int i ∧ SqT K H p xs ∧ atI xs i = some v ∧ Q v H
theorem ix_list : IxR X (rIxL X.K) := by
  intro value slice pins s σ H x y v u Q I rx ry h hs
  obtain ⟨p, xs, i, z, rfl, rfl, hq, he, q⟩ := h
  cases rx
  obtain ⟨t, rfl⟩ := ry
  obtain ⟨its, r, pl, hz⟩ := I.list hq
  obtain ⟨j, h1, h2, h3, h4, h5⟩ := atI_get he
  obtain ⟨w, ew, rw'⟩ := r.get h2
  have hl := r.length
  have hn := line63
  have fin : EP X pins σ Q w s := ⟨z, H, I, rw', q⟩
  by_cases h0 : 0 ≤ i
  · have hj : i.toNat = j := by
      rw [seqIndex_of h0 h5] at h1
      exact Option.some.inj h1
    exact item_listR pl.isList h0 (by omega) (by rw [hj]; simpa using ew) fin hs
  · have hj : (i + (its.toArray.size : Int)).toNat = j := by
      rw [seqIndex_neg (by omega) h4] at h1
      rw [List.size_toArray, ← hl]
      exact Option.some.inj h1
    exact subscriptTail_builtinR (x := w) pl.isList.typeIs slot_list_getitem.lookup
      (wpAny_getItem_list_neg (Q := fun r s' => r = w ∧ EP X pins σ Q r s') pl.isList (by omega) (by rw [List.size_toArray] <;> omega) (by omega) (by rw [hj]; simpa using ew) ⟨rfl, fin⟩) hs
theorem ix_tup : IxR X (rIxT X.K) := by
  intro value slice pins s σ H x y v u Q I rx ry h hs
  obtain ⟨p, xs, i, z, rfl, rfl, hq, he, q⟩ := h
  cases rx
  obtain ⟨t, rfl⟩ := ry
  obtain ⟨its, r, pl, hz⟩ := I.tuple hq
  obtain ⟨j, h1, h2, h3, h4, h5⟩ := atI_get he
  obtain ⟨w, ew, rw'⟩ := r.get h2
  have hl := r.length
  have hn := line63
  have fin : EP X pins σ Q w s := ⟨z, H, I, rw', q⟩
  exact subscriptTail_builtinR (x := w) pl.typeIs slot_tuple_getitem.lookup
    (getItem_tuple (j := j) (Q := fun r s' => r = w ∧ EP X pins σ Q r s') pl (by omega) (by omega) (by rw [List.size_toArray, ← hl]; exact h1) (by simpa using ew) ⟨rfl, fin⟩) hs
theorem mapSeq_set (its : List Value) (n j : Nat) (u : Value) : Obj.mapSeq (·.setIfInBounds j u) { cls := .type "list", data := .seq its.toArray n } = { cls := .type "list", data := .seq (its.set j u).toArray n } := by
  simp [Obj.mapSeq]
theorem Inv.lst {pins : List (Addr × Obj)} {σ : St} {H : Hp} {s : Shared} {p : Addr} {xs : List V} (I : Inv X pins σ H s) (h : H p = some (.lst xs)) :
    ∃ (its : List Value) (n : Nat), Vals xs its ∧ s.heap.get? p = some { cls := .type "list", data := .seq its.toArray n } ∧ xs.length ≤ sizeLine := by
  obtain ⟨z, its, n, r, e⟩ := I.hok p _ h
  exact ⟨its, n, r, e, z⟩
theorem Inv.lstUpd {pins : List (Addr × Obj)} {σ : St} {H : Hp} {s : Shared} {p : Addr} {xs ys : List V} {its its' : List Value} {n n' : Nat} {f : Obj → Obj} (I : Inv X pins σ H s) (h : H p = some (.lst xs))
    (ho : s.heap.get? p = some { cls := .type "list", data := .seq its.toArray n }) (hf : f { cls := .type "list", data := .seq its.toArray n } = { cls := .type "list", data := .seq its'.toArray n' }) (r : Vals ys its') (hz : ys.length ≤ sizeLine) (t : Nat) :
    Inv X pins σ (upd H p (.lst ys)) { s with heap := s.heap.update p f, toks := t } := by
  have e : (s.heap.update p f).get? p = some { cls := .type "list", data := .seq its'.toArray n' } := by
    rw [Heap.get?_update_self f ho (by rw [hf] <;> rfl), hf]
  refine I.write (x := p) (e := p) (by rw [h]; trivial) (.inl rfl) (fun b u hb q => (Heap.get?_update_other _ _ (Ne.symm hb)).trans q) ⟨_, e⟩ ?_
  exact ⟨hz, its', n', r, e⟩
def rSetL : V → V → V → Hp → (Hp → Prop) → Prop := fun o i v H Q => ∃ p xs k j, o = .ref p ∧ i = .int k ∧ H p = some (.lst xs) ∧ ixN xs.length k = some j ∧ Q (upd H p (.lst (xs.set j v)))
theorem set_list : PSet X rSetL := by
  intro pins s σ H o i v ov iv u Q I ro ri rv h
  obtain ⟨p, xs, k, j, rfl, rfl, hp, hj, q⟩ := h
  cases ro
  obtain ⟨t, rfl⟩ := ri
  obtain ⟨its, n, r, ho, hz⟩ := I.lst hp
  obtain ⟨h1, h2, h3, h4⟩ := ixN_seq hj
  have hl := r.length
  have hn := line63
  have I' : Inv X pins σ (upd H p (.lst (xs.set j v))) { s with heap := s.heap.update p (Obj.mapSeq (·.setIfInBounds j u)) } :=
    I.lstUpd hp ho (mapSeq_set its n j u) (r.set rv j) (by rw [List.length_set]; exact hz) s.toks
  by_cases h0 : 0 ≤ k
  · have hk : k.toNat = j := by
      rw [seqIndex_of h0 h4] at h1
      exact Option.some.inj h1
    exact PySem.W.ki_setAt ho h0 (by omega) (by rw [List.size_toArray, ← hl]; exact h4) (by rw [hk]; exact ⟨_, I', q⟩)
  · have hk : (k + (its.toArray.size : Int)).toNat = j := by
      rw [seqIndex_neg (by omega) h3] at h1
      rw [List.size_toArray, ← hl]
      exact Option.some.inj h1
    exact PySem.W.ki_setBack ho (by omega) (by rw [List.size_toArray, ← hl]; exact h3) (by omega) (by rw [hk]; exact ⟨_, I', q⟩)
theorem slice_bounds (lo hi : Option Int) (n : Nat) : (sliceBounds lo hi none n).1 = ((HT.sIx n 0 lo : Nat) : Int) ∧ (sliceBounds lo hi none n).2.1 = ((HT.sIx n n hi : Nat) : Int) ∧ (sliceBounds lo hi none n).2.2 = 1 := by
  refine ⟨?_, ?_, rfl⟩
  · cases lo with
    | none => simp [sliceBounds, HT.sIx]
    | some i =>
      simp only [sliceBounds, HT.sIx, Option.getD_none, show (1 : Int) > 0 by decide, if_true]
      by_cases h : i < 0
      · simp only [h, if_true] <;> omega
      · simp only [h, if_false] <;> omega
  · cases hi with
    | none => simp [sliceBounds, HT.sIx]
    | some i =>
      simp only [sliceBounds, HT.sIx, Option.getD_none, show (1 : Int) > 0 by decide, if_true]
      by_cases h : i < 0
      · simp only [h, if_true] <;> omega
      · simp only [h, if_false] <;> omega
theorem slicePick_cut (its : List Value) (lo hi : Option Int) : slicePick its.toArray lo hi none = ((its.drop (HT.sIx its.length 0 lo)).take (HT.sIx its.length its.length hi - HT.sIx its.length 0 lo)).toArray := by
  obtain ⟨h1, h2, h3⟩ := slice_bounds lo hi its.toArray.size
  unfold slicePick
  rw [h1, h2, h3]
  simp only [sliceRange_one, pick_run, List.size_toArray] <;> rfl
def rSlL (K : PySem.W.Frag) : V → Option Int → Option Int → Hp → VK → Prop := fun x lo hi H Q => ∃ a xs, x = .ref a ∧ SqL K H a xs ∧ ∀ p, H p = none → Q (.ref p) (upd H p (.lst (cutV xs lo hi)))
theorem sl_list : SlR X (rSlL X.K) := by
  intro pins s σ H x v vl vu lo hi sl Q I rx hs pl pu h
  obtain ⟨a, xs, rfl, hx, q⟩ := h
  cases rx
  obtain ⟨its, r, ht, hz⟩ := I.list hx
  have hlen := r.length
  refine ⟨"list", _, slot_list_getitem.lookup, ht.isList.typeIs, ?_⟩
  refine wpAny_getItem_list_slice ht.isList hs pl pu .none (by simp) ?_ (by rw [List.size_toArray] <;> omega)
  rw [slicePick_cut, ← hlen]
  refine ⟨.ref s.heap.objs.size, _, I.laid (t' := s.toks) (o := .lst (cutV xs lo hi)) (fun b ob q => Heap.get?_push_of_some _ q) (Nat.le_refl _) ?_, rfl, q _ (I.hok.fresh (Nat.le_refl _))⟩
  exact ⟨Nat.le_trans (cutV_length xs lo hi) hz, _, 0, (r.drop (HT.sIx xs.length 0 lo)).take (HT.sIx xs.length xs.length hi - HT.sIx xs.length 0 lo), Heap.get?_push_size _ rfl⟩
def flatV : V → Bool
  | .non => true
  | .bl _ => true
  | .int _ => true
  | .str _ => true
  | _ => false
def eqV : V → V → Bool
  | .non, .non => true
  | .bl a, .bl b => a == b
  | .bl a, .int b => (if a then 1 else 0) == b
  | .int a, .bl b => a == (if b then 1 else 0)
  | .int a, .int b => a == b
  | .str a, .str b => a == b
  | _, _ => false
theorem eqAt_V {A : Around} {s : Shared} {y x : V} {u v : Value} (ry : RelV y u) (rx : RelV x v) (fy : flatV y = true) (fx : flatV x = true) : SeqAt.EqAt A s u v (eqV y x) := by
  cases y with
  | non =>
    cases ry
    cases x with
    | non => cases rx; exact SeqAt.EqAt.same _
    | bl b => cases rx; exact SeqAt.EqAt.none_bool b
    | int b => obtain ⟨t, rfl⟩ := rx; exact SeqAt.EqAt.none_int b t
    | str b => obtain ⟨t, rfl⟩ := rx; exact SeqAt.EqAt.none_str b t
    | _ => exact absurd (show false = true from fx) Bool.false_ne_true
  | bl a =>
    cases ry
    cases x with
    | non => cases rx; exact SeqAt.EqAt.bool_none a
    | bl b => cases rx; exact SeqAt.EqAt.bool_bool a b
    | int b => obtain ⟨t, rfl⟩ := rx; exact SeqAt.EqAt.bool_int a b t
    | str b => obtain ⟨t, rfl⟩ := rx; exact SeqAt.EqAt.bool_str a b t
    | _ => exact absurd (show false = true from fx) Bool.false_ne_true
  | int a =>
    obtain ⟨t', rfl⟩ := ry
    cases x with
    | non => cases rx; exact SeqAt.EqAt.int_none a t'
    | bl b => cases rx; exact SeqAt.EqAt.int_bool a t' b
    | int b => obtain ⟨t, rfl⟩ := rx; exact SeqAt.EqAt.int_int a t' b t
    | str b => obtain ⟨t, rfl⟩ := rx; exact SeqAt.EqAt.int_str a t' b t
    | _ => exact absurd (show false = true from fx) Bool.false_ne_true
  | str a =>
    obtain ⟨t', rfl⟩ := ry
    cases x with
    | non => cases rx; exact SeqAt.EqAt.str_none a t'
    | bl b => cases rx; exact SeqAt.EqAt.str_bool a t' b
    | int b => obtain ⟨t, rfl⟩ := rx; exact SeqAt.EqAt.str_int a t' b t
    | str b => obtain ⟨t, rfl⟩ := rx; exact SeqAt.EqAt.str_str a t' b t
    | _ => exact absurd (show false = true from fx) Bool.false_ne_true
  | _ => exact absurd (show false = true from fy) Bool.false_ne_true
def eqU (x : V) (u : Value) : Bool := match u with
  | .none => eqV .non x
  | .bool b => eqV (.bl b) x
  | .int i _ => eqV (.int i) x
  | .str z _ => eqV (.str z) x
  | _ => false
theorem eqU_of {x y : V} {u : Value} (r : RelV y u) (f : flatV y = true) : eqU x u = eqV y x := by
  cases y with
  | non => cases r; rfl
  | bl b => cases r; rfl
  | int i => obtain ⟨t, rfl⟩ := r; rfl
  | str z => obtain ⟨t, rfl⟩ := r; rfl
  | _ => exact absurd (show false = true from f) Bool.false_ne_true
theorem any_eqU {x : V} : ∀ {xs : List V} {us : List Value}, Vals xs us → xs.all flatV = true → us.any (eqU x) = xs.any fun y => eqV y x
  | _, _, .nil, _ => rfl
  | y :: xs, u :: us, .cons r t, f => by
    rw [List.all_cons, Bool.and_eq_true] at f
    rw [List.any_cons, List.any_cons, eqU_of r f.1, any_eqU t f.2]
theorem mem_eqAt {A : Around} {s : Shared} {x : V} {v : Value} (rx : RelV x v) (fx : flatV x = true) : ∀ {xs : List V} {us : List Value}, Vals xs us → xs.all flatV = true → ∀ u ∈ us, SeqAt.EqAt A s u v (eqU x u)
  | _, _, .nil, _ => fun u hu => by cases hu
  | y :: xs, u :: us, .cons r t, f => fun u' hu => by
    rw [List.all_cons, Bool.and_eq_true] at f
    rcases List.mem_cons.mp hu with rfl | hu
    · rw [eqU_of r f.1]; exact eqAt_V r rx f.1 fx
    · exact mem_eqAt rx fx t f.2 u' hu
def inV (x : V) (xs : List V) : Bool := xs.any fun y => eqV y x
def rIn (K : PySem.W.Frag) (neg : Bool) : R2 := fun x y H Q => ∃ p xs, y = .ref p ∧ (SqL K H p xs ∨ SqT K H p xs) ∧ flatV x = true ∧ xs.all flatV = true ∧ Q (.bl (if neg then !inV x xs else inV x xs)) H
theorem op_in_seq : OpR X (compareOp .In) (rIn X.K false) := by
  intro pins s σ H x y v u Q I rx ry h
  obtain ⟨p, xs, rfl, hq, fx, fs, q⟩ := h
  cases ry
  rcases hq with hq | hq
  · obtain ⟨its, r, pl, hz⟩ := I.list hq
    refine SeqAt.in_listAt (eqU x) pl.isList (fun w hw => mem_eqAt rx fx r fs w (by simpa using hw)) ⟨.bl _, H, I, rfl, ?_⟩
    rw [show its.toArray.any (eqU x) = its.any (eqU x) by simp, any_eqU r fs]
    exact q
  · obtain ⟨its, r, pl, hz⟩ := I.tuple hq
    refine SeqAt.in_tupleAt (eqU x) pl (fun w hw => mem_eqAt rx fx r fs w (by simpa using hw)) ⟨.bl _, H, I, rfl, ?_⟩
    rw [show its.toArray.any (eqU x) = its.any (eqU x) by simp, any_eqU r fs]
    exact q
theorem op_notIn_seq : OpR X (compareOp .NotIn) (rIn X.K true) := by
  intro pins s σ H x y v u Q I rx ry h
  obtain ⟨p, xs, rfl, hq, fx, fs, q⟩ := h
  cases ry
  rcases hq with hq | hq
  · obtain ⟨its, r, pl, hz⟩ := I.list hq
    refine SeqAt.notIn_listAt (eqU x) pl.isList (fun w hw => mem_eqAt rx fx r fs w (by simpa using hw)) ⟨.bl _, H, I, rfl, ?_⟩
    rw [show its.toArray.any (eqU x) = its.any (eqU x) by simp, any_eqU r fs]
    exact q
  · obtain ⟨its, r, pl, hz⟩ := I.tuple hq
    refine SeqAt.notIn_tupleAt (eqU x) pl (fun w hw => mem_eqAt rx fx r fs w (by simpa using hw)) ⟨.bl _, H, I, rfl, ?_⟩
    rw [show its.toArray.any (eqU x) = its.any (eqU x) by simp, any_eqU r fs]
    exact q
theorem call_len_seq : CallR X (.builtin "len") (fun xs H Q => ∃ p ys, xs = [.ref p] ∧ (SqL X.K H p ys ∨ SqT X.K H p ys) ∧ Q (.int ys.length) H) := by
  intro pins s σ H xs us Q I r h
  obtain ⟨p, ys, rfl, hq, q⟩ := h
  obtain ⟨u, rfl, rx⟩ := vals1 r
  cases rx
  have hn := line63
  rcases hq with hq | hq
  · obtain ⟨its, r', pl, hz⟩ := I.list hq
    have hlen := r'.length
    exact Calls.call_len_list pl.isList (by simp only [List.size_toArray] <;> omega) ⟨.int ys.length, H, I.tok _, ⟨s.toks + 1, by rw [List.size_toArray, hlen]⟩, q⟩
  · obtain ⟨its, r', pl, hz⟩ := I.tuple hq
    have hlen := r'.length
    exact len_tuple pl (by simp only [List.size_toArray] <;> omega) ⟨.int ys.length, H, I.tok _, ⟨s.toks + 1, by rw [List.size_toArray, hlen]⟩, q⟩
theorem call_list_of : CallR X (.type "list") (fun xs H Q => ∃ p ys, xs = [.ref p] ∧ (SqL X.K H p ys ∨ SqT X.K H p ys) ∧ ∀ l, H l = none → Q (.ref l) (upd H l (.lst ys))) := by
  intro pins s σ H xs us Q I r h
  obtain ⟨p, ys, rfl, hq, q⟩ := h
  obtain ⟨u, rfl, rx⟩ := vals1 r
  cases rx
  have fin : ∀ (its : List Value), Vals ys its → ys.length ≤ sizeLine → ∀ (h' : Heap) (c' : Nat), (∀ b o', s.heap.get? b = some o' → h'.get? b = some o') →
      h'.get? s.heap.objs.size = some { cls := .type "list", dict := none, data := .seq its.toArray c', slots := #[] } → EP X pins σ Q (.ref s.heap.objs.size) { s with heap := h' } := fun its r' hz h' c' kp e =>
    ⟨.ref s.heap.objs.size, _, I.laid (t' := s.toks) kp (Nat.le_refl _) (show ObjOk X.prog X.w _ h' _ (.lst ys) from ⟨hz, its, c', r', e⟩), rfl, q _ (I.hok.fresh (Nat.le_refl _))⟩
  rcases hq with hq | hq
  · obtain ⟨its, r', pl, hz⟩ := I.list hq
    have hlen := r'.length
    obtain ⟨o, ho, hc, n, hd⟩ := pl.isList
    exact call_list_seq p (.inl rfl) ho hc hd (fun h' c' kp e => fin its r' hz h' c' kp e) (by simp only [List.size_toArray] <;> omega)
  · obtain ⟨its, r', pl, hz⟩ := I.tuple hq
    have hlen := r'.length
    obtain ⟨o, ho, hc, n, hd⟩ := pl
    exact call_list_seq p (.inr rfl) ho hc hd (fun h' c' kp e => fin its r' hz h' c' kp e) (by simp only [List.size_toArray] <;> omega)
theorem call_tuple_of : CallR X (.type "tuple") (fun xs H Q => ∃ p ys, xs = [.ref p] ∧ ((SqL X.K H p ys ∧ ∀ l, H l = none → Q (.ref l) (upd H l (.tup ys))) ∨ (SqT X.K H p ys ∧ Q (.ref p) H))) := by
  intro pins s σ H xs us Q I r h
  obtain ⟨p, ys, rfl, h⟩ := h
  obtain ⟨u, rfl, rx⟩ := vals1 r
  cases rx
  rcases h with ⟨hq, q⟩ | ⟨hq, q⟩
  · obtain ⟨its, r', pl, hz⟩ := I.list hq
    have hlen := r'.length
    refine call_tuple_list pl.isList (fun h' kp => ?_) (by simp only [List.size_toArray] <;> omega)
    have I1 : Inv X pins σ H { s with heap := h' } := I.kept (t' := s.toks) kp
    have I2 : Inv X pins σ (upd H h'.objs.size (.tup ys)) { s with heap := h'.push { cls := .type "tuple", data := .seq its.toArray } } :=
      I1.laid (t' := s.toks) (fun b o e => Heap.get?_push_of_some _ e) (Nat.le_refl _) (show ObjOk X.prog X.w _ _ _ (.tup ys) from ⟨hz, its, r', IsTup.new _ _⟩)
    exact ⟨.ref h'.objs.size, _, I2, rfl, q _ (I1.hok.fresh (Nat.le_refl _))⟩
  · obtain ⟨its, r', pl, hz⟩ := I.tuple hq
    exact call_tuple_same pl ⟨.ref p, H, I, rfl, q⟩
def tyV (K : PySem.W.Frag) (T : String) (x : V) (H : Hp) : Prop := match x with
  | .str _ => T = "str"
  | .int _ => T = "int"
  | .ref p => (T = "list" ∧ ∃ xs, SqL K H p xs) ∨ (T = "tuple" ∧ ∃ o, K.lookup p = some o ∧ o.cls = .type "tuple" ∧ o.dict = none) ∨
      (T = "dict" ∧ ((∃ kvs, H p = some (.dK kvs)) ∨ ∃ kvs, H p = some (.dT kvs))) ∨ (T = "set" ∧ ∃ S n, H p = some (.set S n))
  | _ => False
theorem tyV_is {pins : List (Addr × Obj)} {σ : St} {H : Hp} {s : Shared} {T : String} {x : V} {v : Value} (I : Inv X pins σ H s) (r : RelV x v) (ty : tyV X.K T x H) :
    s.TypeIs v T ∧ ∀ a, v = .ref a → ∃ ob, s.heap.get? a = some ob ∧ ob.dict = none := by
  cases x with
  | str z =>
    obtain ⟨t, rfl⟩ := r
    cases (show T = "str" from ty)
    exact ⟨typeIs_str s z t, fun _ e => nomatch e⟩
  | int i =>
    obtain ⟨t, rfl⟩ := r
    cases (show T = "int" from ty)
    exact ⟨typeIs_int s i t, fun _ e => nomatch e⟩
  | ref p =>
    cases r
    rcases ty with ⟨rfl, xs, hq⟩ | ⟨rfl, o, hk, hc, hd⟩ | ⟨rfl, hk⟩ | ⟨rfl, S, n, hk⟩
    · obtain ⟨its, _, pl, _⟩ := I.list hq
      refine ⟨pl.isList.typeIs, fun a e => ?_⟩
      cases e
      obtain ⟨o, n, e, c, hd, _⟩ := pl
      exact ⟨o, e, hd⟩
    · refine ⟨⟨o, I.kIn p o hk, hc⟩, fun a e => ?_⟩
      cases e
      exact ⟨o, I.kIn _ o hk, hd⟩
    · have z : ∃ o, s.heap.get? p = some o ∧ o.ExactDict := by
        rcases hk with ⟨kvs, hk⟩ | ⟨kvs, hk⟩
        · obtain ⟨_, _, _, _, o, _, _, e, ex, _⟩ := I.hok p _ hk
          exact ⟨o, e, ex⟩
        · obtain ⟨_, _, _, _, o, _, _, e, ex, _⟩ := I.hok p _ hk
          exact ⟨o, e, ex⟩
      obtain ⟨o, e, ex⟩ := z
      refine ⟨⟨o, e, ex.1⟩, fun a e2 => ?_⟩
      cases e2
      exact ⟨o, e, ex.2.1⟩
    · obtain ⟨o, _, _, _, e, ex, _⟩ := I.hok p _ hk
      refine ⟨⟨o, e, ex.1⟩, fun a e2 => ?_⟩
      cases e2
      exact ⟨o, e, ex.2.1⟩
  | _ => exact False.elim ty
def tBM0 (K : PySem.W.Frag) (T : String) (r : V → List V → Hp → VK → Prop) (to : TE) : TE := fun σ H Q => to σ H fun x H1 => tyV K T x H1 ∧ r x [] H1 Q
def tBM (K : PySem.W.Frag) (T : String) (r : V → List V → Hp → VK → Prop) (to : TE) (t : TA) : TE := fun σ H Q => to σ H fun x H1 => tyV K T x H1 ∧ t σ H1 fun xs H2 => r x xs H2 Q
variable {o e : Expr} {es : List Expr} {to : TE} {t : TA} {name : Str} {apos cpos : Pos} {T id : String} {r : V → List V → Hp → VK → Prop}
theorem pe_bm0 (pa : PlainAttrs T) (slot : Slot T name id) (hty : typeOf (.builtin id) = pure (.type "method_descriptor")) (hm : MtR X id r) (ho : PE X o to)
    (hbase : attributeBase o name X.env (eval o X.env) = eval o X.env := by rfl) (hline : (apos.endLine == cpos.line) = true := by rfl) : PE X (.Call (.Attribute o name apos) [] [] cpos) (tBM0 X.K T r to) := by
  intro pins s σ H Q I h
  refine wpAny_Call_method0_late hbase hline (thn (ho pins s σ H _ I h) fun v s1 ⟨x, H1, I1, r1, ty, q1⟩ => ?_)
  obtain ⟨h1, h2⟩ := tyV_is I1 r1 ty
  exact ⟨T, id, pa, slot, hty, h1, h2, Calls.callWith_builtin rfl (PySem.evalArgs_none (hm pins s1 σ H1 x [] v [] Q I1 r1 .nil q1))⟩
theorem pe_bm (pa : PlainAttrs T) (slot : Slot T name id) (hty : typeOf (.builtin id) = pure (.type "method_descriptor")) (hm : MtR X id r) (ho : PE X o to) (ha : PA X (e :: es) t)
    (hbase : attributeBase o name X.env (eval o X.env) = eval o X.env := by rfl)
    (hfew : ((backTo cpos (starEach (e :: es) X.env)).all (fun x => !x.1) && (backToKw cpos (keywordEach [] X.env)).all (fun x => x.1.isSome)
      && decide ((e :: es).length + ([] : List Keyword).length + (if ([] : List Keyword).isEmpty then 0 else 1) < 30)) = true := by rfl)
    (hline : (apos.endLine == cpos.line) = true := by rfl) (hs : starEach (e :: es) X.env = (false, eval e X.env) :: starEach es X.env := by rfl) (hplain : (backTo cpos (starEach es X.env)).any (·.1) = false := by rfl) :
    PE X (.Call (.Attribute o name apos) (e :: es) [] cpos) (tBM X.K T r to t) := by
  intro pins s σ H Q I h
  refine wpAny_Call_method_late hbase hfew hline rfl (thn (ho pins s σ H _ I h) fun v s1 ⟨x, H1, I1, r1, ty, q1⟩ => ?_)
  obtain ⟨h1, h2⟩ := tyV_is I1 r1 ty
  refine ⟨T, id, pa, slot, hty, h1, h2, ?_⟩
  have hA := ha cpos pins s1 σ H1 _ I1 q1
  rw [hs] at hA ⊢
  refine Calls.callWith_builtin (by show (false || (backTo cpos (starEach es X.env)).any (·.1)) = false; rw [hplain] <;> rfl) (Calls.evalArgs_plain ?_)
  exact thn hA fun us s2 ⟨vs, H2, I2, r2, q2⟩ => hm pins s2 σ H2 x vs v us Q I2 r1 r2 q2
end
end L2
namespace L2
open PySem PySem.Spec PyProof.Rows
def MtM (X : Cx) (id : String) (r : V → List V → Hp → VK → Prop) : Prop :=
  ∀ (pins : List (Addr × Obj)) (s : Shared) (σ : St) (H : Hp) (x : V) (xs : List V) (v : Value) (us : List Value) (Q : VK), Inv X pins σ H s → RelV x v → Vals xs us → r x xs H Q →
    wpAny (model X.prog X.w) X.A (call (.builtin id) (v :: us)) (EP X pins σ Q) X.xe s
theorem Vals.one : ∀ {x : V} {us : List Value}, Vals [x] us → ∃ u, us = [u] ∧ RelV x u
  | _, _, .cons r .nil => ⟨_, rfl, r⟩
theorem Vals.two : ∀ {x y : V} {us : List Value}, Vals [x, y] us → ∃ u v, us = [u, v] ∧ RelV x u ∧ RelV y v
  | _, _, _, .cons r (.cons q .nil) => ⟨_, _, rfl, r, q⟩
theorem Vals.zero : ∀ {us : List Value}, Vals [] us → us = []
  | _, .nil => rfl
theorem Vals.dropLast {xs : List V} {us : List Value} (h : Vals xs us) : Vals xs.dropLast us.dropLast := by
  induction h with
  | nil => exact .nil
  | cons r t ih =>
    cases t with
    | nil => exact .nil
    | cons q t' => exact .cons r ih
theorem Vals.eraseIdx : ∀ {xs : List V} {us : List Value} (i : Nat), Vals xs us → Vals (xs.eraseIdx i) (us.eraseIdx i)
  | _, _, _, .nil => .nil
  | _, _, 0, .cons _ t => t
  | _, _, i + 1, .cons r t => .cons r (Vals.eraseIdx i t)
theorem erase_last {α : Type} (l : List α) : l.eraseIdx (l.length - 1) = l.dropLast := by
  induction l with
  | nil => rfl
  | cons a r ih =>
    cases r with
    | nil => rfl
    | cons b r =>
      have e : (a :: b :: r).length - 1 = ((b :: r).length - 1) + 1 := by
        have h1 : (a :: b :: r).length = r.length + 2 := rfl
        have h2 : (b :: r).length = r.length + 1 := rfl
        omega
      rw [e, List.eraseIdx_cons_succ, ih]
      all_goals rfl
section
variable {X : Cx} {pins : List (Addr × Obj)} {σ : St} {H : Hp} {s : Shared} {l b : Addr} {xs ys zs : List V}
theorem Inv.lset {its its' : List Value} {n : Nat} {f : Array Value → Array Value} {t' : Nat} (I : Inv X pins σ H s) (hH : H l = some (.lst xs))
    (e : s.heap.get? l = some { cls := .type "list", data := .seq its.toArray n }) (hf : f its.toArray = its'.toArray) (hv : Vals ys its') (hz : ys.length ≤ sizeLine) :
    Inv X pins σ (upd H l (.lst ys)) { s with heap := s.heap.update l (Obj.mapSeq f), toks := t' } := by
  have q := PySem.IsL.update e f
  rw [hf] at q
  refine I.write (x := l) (e := l) (by rw [hH]; exact trivial) (.inl rfl) (fun b' u hb hu => (Heap.get?_update_other s.heap (Obj.mapSeq f) (Ne.symm hb)).trans hu) ⟨_, q⟩ ?_
  exact ⟨hz, its', _, hv, q⟩
theorem Inv.fresh (I : Inv X pins σ H s) : H s.heap.objs.size = none := I.hok.fresh (Nat.le_refl _)
theorem Inv.lstM (I : Inv X pins σ H s) (hH : H l = some (.lst xs)) : xs.length ≤ sizeLine ∧ ∃ (its : List Value) (n : Nat), Vals xs its ∧ xs.length = its.length ∧ s.heap.get? l = some { cls := .type "list", data := .seq its.toArray n } := by
  obtain ⟨z, its, n, r, e⟩ := I.hok l _ hH
  exact ⟨z, its, n, r, r.length, e⟩
end
section
variable {X : Cx}
def rAppend : V → List V → Hp → VK → Prop := fun x vs H Q => ∃ l xs y, x = .ref l ∧ vs = [y] ∧ H l = some (.lst xs) ∧ xs.length < sizeLine ∧ Q .non (upd H l (.lst (xs ++ [y])))
theorem mt_append : MtM X "list.append" rAppend := by
  intro pins s σ H x vs v us Q I rx rv h
  obtain ⟨l, xs, y, rfl, rfl, hH, hz, q⟩ := h
  cases rx
  obtain ⟨u, rfl, ru⟩ := rv.one
  obtain ⟨z, its, n, r, hl, e⟩ := I.lstM hH
  refine call_meets F.slot_list_append ⟨_, e, rfl⟩ F.entry_list_append (F.args_list_append_2 _ _) (PySem.list_append l its.toArray n u (by rw [List.size_toArray]; omega)) ⟨e, ?_⟩
  refine ⟨.non, _, I.lset (its' := its ++ [u]) hH e (by simp) (r.append (.cons ru .nil)) ?_, rfl, q⟩
  rw [List.length_append, List.length_singleton]
  omega
def rPop : V → List V → Hp → VK → Prop := fun x vs H Q => ∃ l xs y, x = .ref l ∧ vs = [] ∧ H l = some (.lst xs) ∧ xs[xs.length - 1]? = some y ∧ Q y (upd H l (.lst xs.dropLast))
theorem mt_pop : MtM X "list.pop" rPop := by
  intro pins s σ H x vs v us Q I rx rv h
  obtain ⟨l, xs, y, rfl, rfl, hH, hy, q⟩ := h
  cases rx
  have hus := rv.zero
  subst hus
  obtain ⟨z, its, n, r, hl, e⟩ := I.lstM hH
  obtain ⟨u, hu, ru⟩ := r.get hy
  have hy' : its.toArray[its.toArray.size - 1]? = some u := by
    show its.toArray[its.length - 1]? = some u
    rw [← Array.getElem?_toList, ← hl]
    exact hu
  refine call_meets F.slot_list_pop ⟨_, e, rfl⟩ F.entry_list_pop (F.args_list_pop_1 _) (MeetsSeq.list_pop_last l its.toArray n u hy' (by rw [List.size_toArray]; omega)) ⟨e, ?_⟩
  refine ⟨y, _, I.lset (its' := its.dropLast) hH e ?_ r.dropLast ?_, ru, q⟩
  · show its.toArray.eraseIdxIfInBounds (its.toArray.size - 1) = its.dropLast.toArray
    rw [List.size_toArray, List.eraseIdxIfInBounds_toArray, erase_last]
  · rw [List.length_dropLast]
    omega
end
section
variable {prog : Program} {w : World} {A : Around} {E : Value → Shared → Prop} {s : Shared}
end
section
variable {X : Cx}
end
end L2
namespace Att
open PySem PySem.W PySem.Calls PyProof.Rows
theorem ints_of_wellAll {P : Params} {h : Heap} : ∀ (ns : List Int) (vs : List Value), WellAll P h vs (ns.map WData.int) → IntsAre vs ns := by
  intro ns
  induction ns with
  | nil =>
    intro vs w
    rw [List.map_nil] at w
    cases w
    exact .nil
  | cons n ns ih =>
    intro vs w
    rw [List.map_cons] at w
    cases w with
    | cons a b =>
      cases a
      exact .cons _ _ (ih _ b)
theorem script_of {l : OpenLaw} {n : Nat} (hn : l.most = some n) {P : Params} {h : Heap} {args : List WData} {vals : List Value}
    (hpre : l.row.toRowW.claim.pre args = true) (hwl : WellAll P h vals args) :
    ∃ a vs ns, vals = [Value.ref a] ∧ args = [WData.list (ns.map WData.int)] ∧ h.get? a = some { cls := .type "list", data := .seq vs.toArray } ∧ IntsAre vs ns ∧ ns.length ≤ n := by
  have hsh : WShape.hasAll [] args [.list .int] = true := (pre_splitW hpre).1
  have hc : l.pre.holds [] { args := args } = true := (pre_splitW hpre).2
  obtain ⟨d, r, rfl, h1, h2⟩ := hasAllW_cons hsh
  obtain rfl := hasAllW_nil h2
  obtain ⟨xs, rfl, h3⟩ := hasW_list h1
  obtain ⟨ns, rfl⟩ := items_int h3
  have hlen : ns.length ≤ n := by
    unfold OpenLaw.pre at hc
    have h4 : (WTm.not (.lt (.lit (.int (n : Int))) (.len (.arg 0)))).holds [] { args := [.list (ns.map .int)] } = true := by
      have h4 := (holds_andW hc).1
      rw [hn] at h4
      exact h4
    have h5 := condW_of h4 (w_not (w_lt w_lit (w_len_list (w_arg rfl))))
    rw [List.length_map] at h5
    refine Nat.le_of_not_lt fun q => ?_
    have q' : (n : Int) < ((ns.length : Nat) : Int) := by omega
    first
      | (rw [decide_eq_true q'] at h5; exact absurd h5 (by decide))
      | (simp at h5; omega)
  cases hwl with
  | cons w1 w2 =>
    cases w2
    cases w1 with
    | list ho hall => exact ⟨_, _, ns, rfl, rfl, ho, ints_of_wellAll ns _ hall, hlen⟩
theorem post_true (l : OpenLaw) (args : List WData) : l.row.toRowW.claim.post args (.bool true) args = true :=
  postW_of (r := l.row.toRowW) (X := (true == true))
    (show WShape.has [] (.bool true) .bool = true by first | rfl | decide | simp [WShape.has, WShape.arms, WShape.armsAll])
    (show (WTm.eq .res (.lit (.bool true))).value [] { args := args, res := some (.bool true), after := args } = some (.bool (true == true)) from w_eq_bool (w_res rfl) w_lit) rfl
theorem attach_call {l : OpenLaw} {n : Nat} {q : Program} {loose : List Str} {XP : (Str → Option Value) → Heap → Prop} {YP : World → Heap → Prop} {d : DefRec}
    (hn : l.most = some n) (hdf : d.params.defaults = [])
    (call : ∀ (w : World) (s₀ s₁ : Shared) (mg mb : Str → Option Value) (fa : Addr) (o : Obj) (pm cd doc : Value) (a : Addr) (vs : List Value) (ns : List Int),
      Ground q loose [] XP w s₀ mg mb s₁.heap → YP w s₁.heap →
      s₁.heap.get? fa = some o → o.data = .func (docDef d.name d.params d.body d.scope pm cd doc) → s₁.heap.CodeRec cd d.name → mg d.name = some (.ref fa) →
      s₁.heap.get? a = some { cls := .type "list", data := .seq vs.toArray } → IntsAre vs ns → ns.length ≤ n → s₁.gens = #[] →
      codeAny (model l.prog w) callerA (.call (.ref fa) ⟨[.ref a], []⟩) (fun r s' => r = .ok (.ret (.bool true)) ∧ OldK s₁.heap s'.heap ∧ s'.os = s₁.os ∧ AllBare s'.gens) s₁) :
    WalkO q loose XP YP l.row.toRowW d [] (fun f vs => PySem.call f vs) := by
  intro w s₀ s₁ mg mb G Y fa o pm cd doc dV kV ho hd hcd hD hmg hg args vals as hpre hlay hrd hwl hlo
  obtain rfl : dV = .none := Dflts.none hD hdf
  obtain rfl : kV = .none := Dflts.noKw hD
  obtain ⟨a, vs, ns, rfl, rfl, hobj, hints, hlen⟩ := script_of hn hpre hwl
  refine enter_call (codeAny_mono (call w s₀ s₁ mg mb fa o pm cd doc a vs ns G Y ho (fd_plain hd) hcd hmg hobj hints hlen hg) fun r s' hq => ?_)
  obtain ⟨rfl, h2, h3, h4⟩ := hq
  exact ⟨.inl ⟨.bool true, .bool true, [], rfl, fun _ => rfl, .bool true, post_true l _, fun _ => ⟨List.Pairwise.nil, fun _ hm => (nomatch hm)⟩⟩, h2, h3, h4⟩
section
variable {prog : Program} {w : World} {A : Around} {E : Value → Shared → Prop} {s : Shared} {K : Frag}
end
end Att
namespace L2
open PySem PySem.Spec PyProof.Rows
theorem vals_ints : ∀ {vs : List Value} {ns : List Int}, IntsAre vs ns → Vals (ns.map V.int) vs
  | _, _, .nil => .nil
  | _, _, .cons n t h => .cons ⟨t, rfl⟩ (vals_ints h)
def Only (H : Hp) : Prop := ∀ b, H b = none ∨ ∃ o xs, H b = some (.frz o (.lst xs))
theorem law_call {P : Program} {w : World} {K : PySem.W.Frag} {mg mb : Str → Option Value} {CX : CXT} {k : Nat} {fa a : Addr} {fd : FuncData} {x : Str} {sp : Sp} {s₁ : Shared} {vs : List Value} {ns : List Int}
    (KX : K.In s₁.heap) (hns : s₁.heap.Ns mainGlobals mg) (hb : s₁.heap.Ns builtinsNs mb) (hbb : ∀ x : Str, x ≠ "__name__" → mb x = bootBuiltins x) (hlim : s₁.heap.NoLimit) (hg : s₁.gens = #[])
    (ha : s₁.heap.get? a = some { cls := .type "list", data := .seq vs.toArray }) (hi : IntsAre vs ns) (hl : ns.length ≤ sizeLine) (hr : Room k callerA)
    (F : ∀ base : Heap, K.In base → base.Ns mainGlobals mg → FnOk P w K mg base CX k fa fd [x] sp) (hbind : ∀ (s : Shared) (u : Value), BindsTo s fd ⟨[u], []⟩ [(x, u)])
    (hsp : ∀ H : Hp, Only H → SqL K H a (ns.map V.int) → sp [.ref a] H (fun v _ => v = .bl true) fun _ _ _ => False)
    (hCX : ∀ H e s', CX [] H s₁ (fun _ _ _ => False) e s' → False) :
    codeAny (model P w) callerA (.call (.ref fa) ⟨[.ref a], []⟩) (fun r s' => r = .ok (.ret (.bool true)) ∧ OldK s₁.heap s'.heap ∧ s'.os = s₁.os ∧ AllBare s'.gens) s₁ := by
  have rv := vals_ints hi
  have lenV := hi.length
  have core : ∀ H : Hp, Only H → SqL K H a (ns.map V.int) → HOk P w H s₁.heap → (∀ b, H b ≠ none → b = a) → (H a ≠ none → K.lookup a = none) →
      codeAny (model P w) callerA (.call (.ref fa) ⟨[.ref a], []⟩) (fun r s' => r = .ok (.ret (.bool true)) ∧ OldK s₁.heap s'.heap ∧ s'.os = s₁.os ∧ AllBare s'.gens) s₁ := by
    intro H hO hS hok hA hK
    have base_of : ∀ {b : Addr} {o : Obj}, s₁.heap.get? b = some o → H b = none → (hidT s₁.heap H).get? b = some o := fun e n => hidT_get e n
    have noA : ∀ {b : Addr} {o : Obj} {es : Array DictEntry} {ep : Nat}, s₁.heap.get? b = some o → o.data = .dict es ep → H b = none := fun {b o es ep} e d => by
      cases q : H b with
      | none => rfl
      | some u =>
        have e' : b = a := hA b (by rw [q]; simp)
        subst e'
        rw [ha] at e; cases e
        have d' : Data.seq vs.toArray _ = Data.dict es ep := d
        cases d'
    have nsK : ∀ {b : Addr} {m : Str → Option Value}, s₁.heap.Ns b m → (hidT s₁.heap H).Ns b m := fun {b m} ⟨o, es, ep, e, d, r⟩ => ⟨o, es, ep, base_of e (noA e d), d, r⟩
    have hKb : K.In (hidT s₁.heap H) := fun b o e => base_of (KX b o e) (by
      cases q : H b with
      | none => rfl
      | some u =>
        have e' : b = a := hA b (by rw [q]; simp)
        subst e'
        rw [hK (by rw [q]; simp)] at e; cases e)
    have hM : Mod K mg (hidT s₁.heap H) := ⟨hKb, nsK hns, ⟨mb, nsK hb, hbb⟩, let ⟨mc, h1, h2⟩ := hlim; ⟨mc, nsK h1, h2⟩⟩
    have e0 : Env0 P w K mg (hidT s₁.heap H) callerA [] s₁ H := ⟨rfl, hM, fun b o e => of_hidT e, Nat.le_of_eq (hidT_size _ _), trivial, fun b hb => absurd (show b ∈ ([] : List Addr) from hb) (by simp), hok, .of_eq hg⟩
    refine codeAny_mono ((F _ hKb (nsK hns)).run callerA [] s₁ H ⟨[.ref a], []⟩ [.ref a] [.ref a] _ _ hr e0 (hbind s₁ (.ref a)) (.cons rfl .nil) (hsp H hO hS)) fun r s' h => ?_
    cases r with
    | error e => exact (hCX H e s' h).elim
    | ok fl =>
      cases fl with
      | next => exact False.elim h
      | brk => exact False.elim h
      | cont => exact False.elim h
      | ret u =>
        obtain ⟨v, H', os, bare, un, hok', r', q⟩ := h
        have q' : v = .bl true := q
        subst q'
        obtain rfl : u = Value.bool true := r'
        refine ⟨rfl, OldK.of_keep fun b o e => ?_, os, bare⟩
        cases q : H b with
        | none => exact un.keep b o e q (by intro z; exact absurd (show b ∈ ([] : List Addr) from z) (by simp)) (by simp)
        | some u =>
          rcases hO b with z | ⟨ob, xs, z⟩
          · rw [q] at z; cases z
          · have z2 := un.frzs b ob _ z
            obtain ⟨e1, _⟩ := hok b _ z
            obtain ⟨e2, _⟩ := hok' b _ z2
            rw [e] at e1; cases e1
            exact e2
  cases hk : K.lookup a with
  | some o =>
    have e := KX a o hk
    rw [ha] at e
    cases e
    refine core (fun _ => none) (fun _ => .inl rfl) (.inr ⟨_, vs.toArray, _, hk, rfl, rfl, rfl, by rw [List.size_toArray, lenV]; exact hl, by simpa using rv⟩) (fun b u z => by have z' : (none : Option HO) = some u := z; cases z') (fun b z => absurd rfl z) fun z => absurd rfl z
  | none =>
    refine core (fun b => if b = a then some (.frz { cls := .type "list", data := .seq vs.toArray } (.lst (ns.map V.int))) else none) (fun b => ?_) (.inl (.inr ⟨{ cls := .type "list", data := .seq vs.toArray }, if_pos rfl⟩)) (fun b u z => ?_) (fun b z => ?_) fun _ => hk
    · by_cases hb : b = a
      · exact .inr ⟨_, _, if_pos hb⟩
      · exact .inl (if_neg hb)
    · by_cases hb : b = a
      · have z' := (if_pos hb).symm.trans z
        cases z'
        subst hb
        exact ⟨ha, by rw [List.length_map]; exact hl, vs, _, rv, ha⟩
      · have z' := (if_neg hb).symm.trans z
        cases z'
    · by_cases hb : b = a
      · exact hb
      · exact absurd (if_neg hb) z
end L2
namespace L2
open PySem PySem.Spec PyProof.Rows
abbrev KOf {K : PySem.W.Frag} {h : Heap} (_ : K.In h) : PySem.W.Frag := K
theorem walk_of {l : PySem.W.OpenLaw} {n k : Nat} {q : Program} {loose : List Str} {XP : (Str → Option Value) → Heap → Prop} {YP : World → Heap → Prop} {d : DefRec} {K : Params → PySem.W.Frag} {CX : World → CXT} {sp : World → Sp} {x : Str}
    (hn : l.most = some n) (hn2 : n ≤ sizeLine) (hdf : d.params.defaults = []) (hr : Room k callerA)
    (hY : ∀ (w : World) (h : Heap), YP w h → (K w.params).In h)
    (F : ∀ (w : World) (mg : Str → Option Value) (fa : Addr) (h : Heap), (K w.params).In h → h.Ns mainGlobals mg → mg d.name = some (.ref fa) →
      ∃ fd : FuncData, (∀ (s : Shared) (u : Value), BindsTo s fd ⟨[u], []⟩ [(x, u)]) ∧
        ∀ base : Heap, (K w.params).In base → base.Ns mainGlobals mg → FnOk l.prog w (K w.params) mg base (CX w) k fa fd [x] (sp w))
    (hsp : ∀ (w : World) (H : Hp) (a : Addr) (ns : List Int), ns.length ≤ n → Only H → SqL (K w.params) H a (ns.map V.int) → sp w [.ref a] H (fun v _ => v = .bl true) fun _ _ _ => False)
    (hCX : ∀ (w : World) (H : Hp) (s : Shared) (e : Value) (s' : Shared), CX w [] H s (fun _ _ _ => False) e s' → False) :
    PySem.W.WalkO q loose XP YP l.row.toRowW d [] (fun f vs => PySem.call f vs) := by
  refine Att.attach_call hn hdf fun w s₀ s₁ mg mb fa o pm cd doc a vs ns G Y ho hd hcd hmg hobj hints hlen hg => ?_
  have KX := hY w _ Y
  obtain ⟨fd, hb, hF⟩ := F w mg fa _ KX G.T.g hmg
  exact law_call KX G.T.g G.T.b G.T.builtins G.T.nolimit hg hobj hints (Nat.le_trans hlen hn2) hr hF hb (fun H hO hS => hsp w H a ns hlen hO hS) fun H e s' => hCX w H s₁ e s'
theorem walk_ofK {l : PySem.W.OpenLaw} {n k : Nat} {q : Program} {loose : List Str} {XP : (Str → Option Value) → Heap → Prop} {YP : World → Heap → Prop} {d : DefRec} {K : Params → PySem.W.Frag} {CX : CXT} {sp : PySem.W.Frag → Sp} {x : Str}
    (hn : l.most = some n) (hn2 : n ≤ sizeLine) (hdf : d.params.defaults = []) (hr : Room k callerA)
    (hY : ∀ (w : World) (h : Heap), YP w h → (K w.params).In h)
    (F : ∀ (w : World) (mg : Str → Option Value) (fa : Addr) (h : Heap), (K w.params).In h → h.Ns mainGlobals mg → mg d.name = some (.ref fa) →
      ∃ fd : FuncData, (∀ (s : Shared) (u : Value), BindsTo s fd ⟨[u], []⟩ [(x, u)]) ∧
        ∀ base : Heap, (K w.params).In base → base.Ns mainGlobals mg → FnOk l.prog w (K w.params) mg base CX k fa fd [x] (sp (K w.params)))
    (hsp : ∀ (K : PySem.W.Frag) (H : Hp) (a : Addr) (ns : List Int), ns.length ≤ n → Only H → SqL K H a (ns.map V.int) → sp K [.ref a] H (fun v _ => v = .bl true) fun _ _ _ => False)
    (hCX : ∀ (H : Hp) (s : Shared) (e : Value) (s' : Shared), CX [] H s (fun _ _ _ => False) e s' → False) :
    PySem.W.WalkO q loose XP YP l.row.toRowW d [] (fun f vs => PySem.call f vs) :=
  walk_of (K := K) (CX := fun _ => CX) (sp := fun w => sp (K w.params)) hn hn2 hdf hr hY F (fun w H a ns h1 h2 h3 => hsp (K w.params) H a ns h1 h2 h3) fun _ H s e s' => hCX H s e s'
end L2
namespace L2
open PySem PySem.Spec PyProof.Rows
def inClass (s : Stmt) (j : Nat) : Stmt := match s with
  | .ClassDef _ _ _ body _ _ _ _ _ _ _ => body.getD j (.Pass ⟨0, 0, 0, 0⟩)
  | _ => .Pass ⟨0, 0, 0, 0⟩
def defArgs (s : Stmt) : Arguments := match s with
  | .FunctionDef _ a _ _ _ _ _ _ _ _ => a
  | _ => { posonlyargs := [], args := [], vararg := none, kwonlyargs := [], kw_defaults := [], kwarg := none, defaults := [] }
def defBody (s : Stmt) : List Stmt := match s with
  | .FunctionDef _ _ b _ _ _ _ _ _ _ => b
  | _ => []
def defScope (s : Stmt) : Scope := match s with
  | .FunctionDef _ _ _ _ _ _ sc _ _ _ => sc
  | _ => { kind := .function, names := [], isGenerator := false, isCoroutine := false }
abbrev CX0 : CXT := fun _ _ _ _ _ _ => False
abbrev E0 : XK := fun _ _ _ => False
theorem pass0 {X : Cx} : Passes CX0 X E0 := fun _ _ _ _ _ _ _ h => h.elim
structure Fun (K : PySem.W.Frag) (x qual : Str) (st : Stmt) (f : Addr) (fd : FuncData) : Prop where
  ex : ∃ (oc : Value) (od : Option Addr) (kV doc pm : Value) (an : Option Addr) (cdv ct : Value) (osl : Array (Option Value)),
    fd = PySem.W.fnOf x qual (defArgs st) (defBody st) (defScope st) .none kV doc pm an cdv ct ∧ K.lookup f = some ⟨oc, od, .func fd, osl⟩ ∧ PySem.W.codeIn K cdv qual = true
  kp : PySem.W.keepIn K (.ref f) = true
section
variable {P : Program} {w : World} {K : PySem.W.Frag} {mg : Str → Option Value} {base : Heap}
theorem Fun.ok {x qual : Str} {st : Stmt} {f : Addr} {fd : FuncData} {N ps : List Str} {k : Nat} {sp : Sp} (F : Fun K x qual st f fd) (S : FnScope N ps (defScope st)) (len : ∀ vs H Q E, sp vs H Q E → vs.length = ps.length)
    (hbody : ∀ (cdv : Value) (A : Around) (outer : List Env) (s : Shared) (H : Hp) (vs : List V) (Q : VK) (E : XK), Room k (A.deeper (envOfC qual (defScope st) s.heap.objs.size f cdv)) → sp vs H Q E →
      ∃ t, PSs (cxOf CX0 P w K mg base N qual (defScope st) f cdv A outer s H E).nox (defBody st) t ∧ t { nx := fun _ H' => Q .non H', rt := Q } (start N vs) H) : FnOk P w K mg base CX0 (k + 1) f fd ps sp := by
  obtain ⟨oc, od, kV, doc, pm, an, cdv, ct, osl, rfl, lk, hcd⟩ := F.ex
  refine fn_of lk hcd S len fun A outer s H vs Q E hr hsp => ?_
  obtain ⟨t, h, q⟩ := hbody cdv A outer s H vs Q E hr hsp
  exact ⟨t, h.nox, q⟩
theorem Fun.binds {x qual : Str} {st : Stmt} {f : Addr} {fd : FuncData} {ps : List Str} (F : Fun K x qual st f fd)
    (h : ∀ (kV doc pm : Value) (an : Option Addr) (cdv ct : Value) (us : List Value), us.length = ps.length → bindArgs (PySem.W.fnOf x qual (defArgs st) (defBody st) (defScope st) .none kV doc pm an cdv ct) ⟨us, []⟩ = pure (ps.zip us)) : Binds K fd ps [] := by
  obtain ⟨oc, od, kV, doc, pm, an, cdv, ct, osl, rfl, lk, hcd⟩ := F.ex
  exact .all (h kV doc pm an cdv ct)
theorem fun_mk {x qual : Str} {st : Stmt} {f : Addr} {oc : Value} {od an : Option Addr} {osl : Array (Option Value)} {kV doc pm cdv ct : Value} (l : K.lookup f = some ⟨oc, od, .func (PySem.W.fnOf x qual (defArgs st) (defBody st) (defScope st) .none kV doc pm an cdv ct), osl⟩)
    (c : PySem.W.codeIn K cdv qual = true) (k : PySem.W.keepIn K (.ref f) = true) : Fun K x qual st f (PySem.W.fnOf x qual (defArgs st) (defBody st) (defScope st) .none kV doc pm an cdv ct) := ⟨⟨oc, od, kV, doc, pm, an, cdv, ct, osl, rfl, l, c⟩, k⟩
end
section
variable {X : Cx}
theorem pv (i : Nat) {x : Str} {pos : Pos} (hN : X.N[i]? = some x := by rfl) (hv : Vis X.env.scope x := by first | exact Or.inl rfl | exact Or.inr (Or.inl rfl) | exact Or.inr (Or.inr rfl)) (hd : (x == ("__debug__" : Str)) = false := by decide)
    (hcd : (x == ("__classdict__" : Str)) = false := by decide) : PE X (.Name x pos) (tVar i) := pe_var hN hv hd hcd
end
theorem iteF {A B : Prop} (h : B) : if false = true then A else B := by
  rw [if_neg Bool.false_ne_true]
  exact h
theorem iteT {A B : Prop} (h : A) : if true = true then A else B := by
  rw [if_pos rfl]
  exact h
theorem ite2 {c A B : Prop} [Decidable c] (h1 : c → A) (h2 : ¬ c → B) : if c then A else B := by
  by_cases h : c
  · rw [if_pos h]
    exact h1 h
  · rw [if_neg h]
    exact h2 h
def Same (H H' : Hp) : Prop := ∀ b o, H b = some o → H' b = some o
theorem Same.refl (H : Hp) : Same H H := fun _ _ h => h
theorem Same.trans {H H1 H2 : Hp} (a : Same H H1) (b : Same H1 H2) : Same H H2 := fun c o h => b c o (a c o h)
theorem Same.free {H H' : Hp} (e : Same H H') {l : Addr} (h : H' l = Option.none) : H l = Option.none := by
  cases q : H l with
  | none => rfl
  | some o =>
    rw [e l o q] at h
    cases h
theorem Same.seq {K : PySem.W.Frag} {H H' : Hp} {a : Addr} {xs : List V} (e : Same H H') (h : SqL K H a xs) : SqL K H' a xs := by
  rcases h with (h | ⟨o, h⟩) | h
  · exact .inl (.inl (e _ _ h))
  · exact .inl (.inr ⟨o, e _ _ h⟩)
  · exact .inr h
end L2
set_option Elab.async false
set_option linter.all false
set_option maxRecDepth 100000
namespace L2
open PySem PySem.Spec PyProof.Rows
end L2
namespace L2
open PySem PySem.Spec PyProof.Rows
section
variable (P : Program) (w : World)
end
section
variable {P : Program} {w : World} {H H' : Hp} {h h' : Heap} {a : Addr} {o : HO}
end
section
variable {P : Program} {w : World} {H : Hp} {h h' : Heap} {x e : Addr} {o' : HO}
end
section
variable {fs fs' ex ex' : List Addr} {H H1 H2 : Hp} {h h1 h2 h' : Heap} {a x e : Addr} {o : HO}
end
end L2
namespace L2
open PySem PySem.Spec PyProof.Rows
section
variable {X : Cx} {pins : List (Addr × Obj)} {σ : List (Option V)} {H H' : Hp} {s : Shared} {h' : Heap}
end
end L2
namespace L2
open PySem PySem.Spec PyProof.Rows
section
variable {X : Cx}
variable {a b : Expr} {ta tb : TE} {pos : Pos}
variable {tA tB' : TT} {rest : List Expr}
end
end L2
namespace L2
open PySem PySem.Spec PyProof.Rows
section
variable {X : Cx} {pins : List (Addr × Obj)} {σ : St} {H : Hp} {s : Shared} {a : Addr} {xs ys : List V}
end
section
variable {X : Cx} {pins : List (Addr × Obj)} {σ : St} {H : Hp} {s : Shared} {E : Value → Shared → Prop}
end
section
variable {X : Cx} {st : Stmt} {rest : List Stmt} {t u : TS} {e : Expr} {te : TE} {pos : Pos}
end
section
variable {X : Cx} {pos : Pos}
end
section
variable {X : Cx} {pos : Pos}
end
end L2
namespace L2
open PySem PySem.Spec PyProof.Rows
section
variable {X : Cx} {tg : Expr}
end
end L2
namespace L2
open PySem PySem.Spec PyProof.Rows
section
variable {X : Cx} {a b c : Expr} {ta tb tc : TE} {pos : Pos}
end
section
variable {X : Cx} {a b c : Expr} {ta tb tc : TE} {pos : Pos}
end
end L2
namespace L2
open PySem PySem.Spec PyProof.Rows
section
variable {prog : Program} {w : World} {A : Around} {E : Value → Shared → Prop} {s : Shared} {K : PySem.W.Frag} {x dx C f : Addr} {mA : Str → Option Value} {name : Str} {v : Value}
end
section
variable {P : Program} {w : World} {H H' : Hp} {h h' : Heap} {a C dx : Addr} {fs fs' : List (Str × V)}
end
section
variable {X : Cx} {pins : List (Addr × Obj)} {σ : St} {H : Hp} {s : Shared} {a C dx : Addr} {fs : List (Str × V)} {f : Str} {v : V} {A : Around} {E : Value → Shared → Prop}
end
section
variable {X : Cx} {o e value : Expr} {f : Str} {pos pos' tpos : Pos} {ta tv : TE}
end
section
variable {X : Cx} {pins : List (Addr × Obj)} {σ : St} {H : Hp} {s : Shared} {A : Around} {E : Value → Shared → Prop} {Q : Value → Shared → Prop} {c : Value} {b : Bool}
end
end L2
namespace L2
open PySem PySem.Spec PyProof.Rows
section
variable {X : Cx} {e : Expr} {es : List Expr} {te : TE} {t : TA} {pos : Pos}
end
section
variable {X : Cx} {pins : List (Addr × Obj)} {σ : St} {H : Hp} {s s' : Shared}
end
section
variable {X : Cx} {CX : CXT} {k : Nat} {f C : Addr} {fd : FuncData} {ps : List Str} {sp : Sp} {dvs : List V} {ds : List Value} {E : XK} {x m : Str} {p pos apos : Pos} {e o : Expr} {es : List Expr} {ta : TE} {t : TA}
end
section
variable {X : Cx} {CX : CXT} {k : Nat} {f C : Addr} {fd : FuncData} {ps ks : List Str} {sp : Sp} {E : XK} {x m : Str} {p pos apos kpos : Pos} {e o : Expr} {es : List Expr} {kws : List Keyword} {te ta : TE} {t tk : TA} {nm : Option Str}
variable {g : List Value → List Value → List Value} {gV : List V → List V → List V}
end
end L2
namespace L2
open PySem PySem.Spec PyProof.Rows
section
variable {X : Cx} {x : Str} {p pos : Pos} {e : Expr} {es : List Expr} {t : TA} {id T : String} {r : List V → Hp → VK → Prop}
end
end L2
namespace L2
open PySem PySem.Spec PyProof.Rows
section
variable {κ : Type} [DecidableEq κ]
def valV (kvs : List (κ × V)) (k : κ) : Option V := (kvs.find? fun kv => decide (kv.1 = k)).map (·.2)
def putK (kvs : List (κ × V)) (k : κ) (v : V) : List (κ × V) :=
  if (kvs.any fun kv => decide (kv.1 = k)) = true then kvs.map (fun kv => if kv.1 = k then (kv.1, v) else kv) else kvs ++ [(k, v)]
def dropK (kvs : List (κ × V)) (k : κ) : List (κ × V) := kvs.filter fun kv => decide (kv.1 ≠ k)
theorem valV_pos {p : κ × V} {r : List (κ × V)} {k : κ} (e : p.1 = k) : valV (p :: r) k = some p.2 := by simp [valV, List.find?_cons, e]
theorem valV_neg {p : κ × V} {r : List (κ × V)} {k : κ} (e : ¬ p.1 = k) : valV (p :: r) k = valV r k := by simp [valV, List.find?_cons, e]
theorem valV_any (k : κ) : ∀ kvs : List (κ × V), (kvs.any fun kv => decide (kv.1 = k)) = (valV kvs k).isSome
  | [] => rfl
  | p :: r => by
    rw [List.any_cons]
    by_cases e : p.1 = k
    · simp only [valV_pos e, decide_eq_true e, Bool.true_or, Option.isSome_some]
    · rw [valV_neg e, decide_eq_false e, Bool.false_or]; exact valV_any k r
theorem length_putK (kvs : List (κ × V)) (k : κ) (v : V) : (putK kvs k v).length ≤ kvs.length + 1 := by
  unfold putK
  split
  · rw [List.length_map]; omega
  · rw [List.length_append, List.length_cons, List.length_nil]; omega
theorem RelO.isSome_eq {o : Option V} {u : Option Value} (r : RelO o u) : o.isSome = u.isSome := by
  cases o with
  | none => cases u with
    | none => rfl
    | some _ => exact (show False from r).elim
  | some _ => cases u with
    | none => exact (show False from r).elim
    | some _ => rfl
theorem RelO.getD {o : Option V} {u : Option Value} {d : V} {d' : Value} (r : RelO o u) (rd : RelV d d') : RelV (o.getD d) (u.getD d') := by
  cases o with
  | none => cases u with
    | none => exact rd
    | some _ => exact (show False from r).elim
  | some _ => cases u with
    | none => exact (show False from r).elim
    | some _ => exact r
theorem KV.val {kvs : List (κ × V)} {vs : List (κ × Value)} (r : KV kvs vs) (k : κ) : RelO (valV kvs k) (valueAt vs k) := by
  unfold KV at r
  induction r with
  | nil => exact True.intro
  | @cons p q ps qs h t ih =>
    obtain ⟨h1, h2⟩ := h
    by_cases e : p.1 = k
    · have e' : q.1 = k := h1.symm.trans e
      have b : valueAt (q :: qs) k = some q.2 := by simp [valueAt, List.find?_cons, e']
      rw [valV_pos e, b]; exact h2
    · have e' : ¬ q.1 = k := fun z => e (h1.trans z)
      have b : valueAt (q :: qs) k = valueAt qs k := by simp [valueAt, List.find?_cons, e']
      rw [valV_neg e, b]; exact ih
theorem KV.any {kvs : List (κ × V)} {vs : List (κ × Value)} (r : KV kvs vs) (k : κ) : (kvs.any fun kv => decide (kv.1 = k)) = vs.any fun kv => decide (kv.1 = k) := by
  unfold KV at r
  induction r with
  | nil => rfl
  | cons h t ih => rw [List.any_cons, List.any_cons, ih, h.1]
theorem KV.repl {kvs : List (κ × V)} {vs : List (κ × Value)} (r : KV kvs vs) (k : κ) {y : V} {u : Value} (ry : RelV y u) :
    KV (kvs.map fun kv => if kv.1 = k then (kv.1, y) else kv) (vs.map fun kv => if kv.1 = k then (kv.1, u) else kv) := by
  unfold KV at r ⊢
  induction r with
  | nil => exact .nil
  | @cons p q ps qs h t ih =>
    rw [List.map_cons, List.map_cons]
    refine .cons ?_ ih
    obtain ⟨h1, h2⟩ := h
    by_cases e : p.1 = k
    · rw [if_pos e, if_pos (h1.symm.trans e)]; exact ⟨h1, ry⟩
    · rw [if_neg e, if_neg (fun z => e (h1.trans z))]; exact ⟨h1, h2⟩
theorem KV.put {kvs : List (κ × V)} {vs : List (κ × Value)} (r : KV kvs vs) (k : κ) {y : V} {u : Value} (ry : RelV y u) : KV (putK kvs k y) (stored vs k u) := by
  unfold putK stored
  rw [r.any k]
  by_cases e : (vs.any fun kv => decide (kv.1 = k)) = true
  · rw [if_pos e, if_pos e]; exact r.repl k ry
  · rw [if_neg e, if_neg e]; exact Paired.snoc r ⟨rfl, ry⟩
theorem KV.drop {kvs : List (κ × V)} {vs : List (κ × Value)} (r : KV kvs vs) (k : κ) : KV (dropK kvs k) (without vs k) := by
  unfold KV at r ⊢
  unfold dropK without
  induction r with
  | nil => exact .nil
  | @cons p q ps qs h t ih =>
    obtain ⟨h1, h2⟩ := h
    rw [List.filter_cons, List.filter_cons]
    by_cases e : p.1 = k
    · have a : ¬ decide (p.1 ≠ k) = true := by simp [e]
      have b : ¬ decide (q.1 ≠ k) = true := by simp [h1.symm.trans e]
      rw [if_neg a, if_neg b]; exact ih
    · have e' : ¬ q.1 = k := fun z => e (h1.trans z)
      have a : decide (p.1 ≠ k) = true := by simp [e]
      have b : decide (q.1 ≠ k) = true := by simp [e']
      rw [if_pos a, if_pos b]; exact .cons ⟨h1, h2⟩ ih
theorem KV.keys {kvs : List (κ × V)} {vs : List (κ × Value)} (r : KV kvs vs) : kvs.map (·.1) = vs.map (·.1) := by
  unfold KV at r
  induction r with
  | nil => rfl
  | cons h t ih => rw [List.map_cons, List.map_cons, ih, h.1]
theorem KV.length {kvs : List (κ × V)} {vs : List (κ × Value)} (r : KV kvs vs) : kvs.length = vs.length := Paired.length r
theorem dropK_le (kvs : List (κ × V)) (k : κ) : (dropK kvs k).length ≤ kvs.length := List.length_filter_le _ _
end
theorem kV_is {P : Program} {w : World} {k : Key} {u : Value} (r : RelV (kV k) u) : (mixKind P w).is k u = true := by
  cases k with
  | inl i => obtain ⟨t, e⟩ := (show ∃ t, u = Value.int i t from r); subst e; exact mixKind_int P w i t
  | inr x => obtain ⟨t, e⟩ := (show ∃ t, u = Value.str x t from r); subst e; exact mixKind_str P w x t
theorem items_are {P : Program} {w : World} : ∀ {ks : List Key} {us : List Value}, Vals (ks.map kV) us → ItemsAre (mixKind P w) ks us
  | [], _, r => by rw [List.map_nil] at r; cases r; exact .nil
  | k :: ks, _, r => by
    rw [List.map_cons] at r
    cases r with
    | cons h t => exact .cons (kV_is h) (items_are t)
abbrev KT (H : Hp) : List (List Key × V) → List (List Key × Addr × Value) → Prop := Paired fun p q => p.1 = q.1 ∧ H q.2.1 = some (.tup (p.1.map kV)) ∧ RelV p.2 q.2.2
theorem KT.val {H : Hp} {kvs : List (List Key × V)} {xs : List (List Key × Addr × Value)} (r : KT H kvs xs) (k : List Key) : RelO (valV kvs k) ((atKey xs k).map (·.2)) := by
  induction r with
  | nil => exact True.intro
  | @cons p q ps qs h t ih =>
    obtain ⟨h1, _, h2⟩ := h
    by_cases e : p.1 = k
    · have e' : q.1 = k := h1.symm.trans e
      have b : atKey (q :: qs) k = some q.2 := by simp [atKey, List.find?_cons, e']
      rw [valV_pos e, b]; exact h2
    · have e' : ¬ q.1 = k := fun z => e (h1.trans z)
      have b : atKey (q :: qs) k = atKey qs k := by simp [atKey, List.find?_cons, e']
      rw [valV_neg e, b]; exact ih
theorem KT.repl {H : Hp} {kvs : List (List Key × V)} {xs : List (List Key × Addr × Value)} (r : KT H kvs xs) (k : List Key) {y : V} {u : Value} (ry : RelV y u) :
    KT H (kvs.map fun kv => if kv.1 = k then (kv.1, y) else kv) (xs.map (putAt k u)) := by
  induction r with
  | nil => exact .nil
  | @cons p q ps qs h t ih =>
    rw [List.map_cons, List.map_cons]
    refine .cons ?_ ih
    obtain ⟨h1, h2, h3⟩ := h
    unfold putAt
    by_cases e : p.1 = k
    · rw [if_pos e, if_pos (h1.symm.trans e)]; exact ⟨h1, h2, ry⟩
    · rw [if_neg e, if_neg (fun z => e (h1.trans z))]; exact ⟨h1, h2, h3⟩
theorem KT.put {H : Hp} {kvs : List (List Key × V)} {xs : List (List Key × Addr × Value)} (r : KT H kvs xs) (k : List Key) {b : Addr} {y : V} {u : Value} (hb : H b = some (.tup (k.map kV))) (ry : RelV y u) :
    KT H (putK kvs k y) (storedH xs k b u) := by
  have e : (kvs.any fun kv => decide (kv.1 = k)) = (atKey xs k).isSome := by
    rw [valV_any, (r.val k).isSome_eq, Option.isSome_map]
  unfold putK storedH
  rw [e]
  by_cases q : (atKey xs k).isSome = true
  · rw [if_pos q, if_pos q]; exact r.repl k ry
  · rw [if_neg q, if_neg q]; exact Paired.snoc r ⟨rfl, hb, ry⟩
theorem KT.keeps {H H' : Hp} {kvs : List (List Key × V)} {xs : List (List Key × Addr × Value)} (r : KT H kvs xs) (ht : ∀ b ys, H b = some (.tup ys) → H' b = some (.tup ys)) : KT H' kvs xs :=
  Paired.mapP r fun _ _ z => ⟨z.1, ht _ _ z.2.1, z.2.2⟩
section
variable {P : Program} {w : World} {H : Hp} {h : Heap} {a : Addr}
theorem rd_of {u : HO} (ok : HOk P w H h) (e : Rd H a u) : ObjOk P w H h a u := e.ok ok
theorem dk_rd {kvs : List (Key × V)} (ok : HOk P w H h) (e : Rd H a (.dK kvs)) : kvs.length ≤ sizeLine ∧ (a == sysModules) = false ∧ ∃ vs, KV kvs vs ∧ h.DictOf (mixKind P w) a vs :=
  show ObjOk P w H h a (.dK kvs) from rd_of ok e
theorem dk_of {kvs : List (Key × V)} (ok : HOk P w H h) (e : H a = some (.dK kvs)) : kvs.length ≤ sizeLine ∧ (a == sysModules) = false ∧ ∃ vs, KV kvs vs ∧ h.DictOf (mixKind P w) a vs := dk_rd ok (.inl e)
theorem key_of {ks : List Key} (ok : HOk P w H h) (e : H a = some (.tup (ks.map kV))) : (tupleKind (mixKind P w)).is h ks a := by
  obtain ⟨_, its, r, o, h1, h2, n, h3⟩ := (show ObjOk P w H h a (.tup (ks.map kV)) from ok a _ e)
  exact ⟨o, its.toArray, n, h1, h2, h3, by simpa using items_are r⟩
theorem dt_rd {kvs : List (List Key × V)} (ok : HOk P w H h) (e : Rd H a (.dT kvs)) : kvs.length ≤ sizeLine ∧ (a == sysModules) = false ∧
    ∃ xs, KT H kvs xs ∧ h.DictOfH (tupleKind (mixKind P w)) a xs := by
  obtain ⟨z, y, xs, r, o, es, ep, h1, h2, h3, h4, h5⟩ := (show ObjOk P w H h a (.dT kvs) from rd_of ok e)
  refine ⟨z, y, xs, r, o, es, ep, h1, h2, h3, h4, fun x hx => ?_, h5⟩
  have all : ∀ {l : List (List Key × V)} {m : List (List Key × Addr × Value)}, KT H l m → ∀ x ∈ m, (tupleKind (mixKind P w)).is h x.1 x.2.1 := by
    intro l m q
    induction q with
    | nil => intro x hx; exact nomatch hx
    | @cons p q ps qs hq t ih =>
      intro x hx
      rcases List.mem_cons.mp hx with e | hx
      · subst e
        exact key_of ok (by rw [← hq.1]; exact hq.2.1)
      · exact ih x hx
  exact all r x hx
theorem dt_of {kvs : List (List Key × V)} (ok : HOk P w H h) (e : H a = some (.dT kvs)) : kvs.length ≤ sizeLine ∧ (a == sysModules) = false ∧
    ∃ xs, KT H kvs xs ∧ h.DictOfH (tupleKind (mixKind P w)) a xs := dt_rd ok (.inl e)
end
def DGet (H : Hp) (a : Addr) (y : V) (r : Option V) : Prop :=
  (∃ kvs k, Rd H a (.dK kvs) ∧ y = kV k ∧ r = valV kvs k) ∨ ∃ kvs k b, Rd H a (.dT kvs) ∧ y = .ref b ∧ H b = some (.tup (k.map kV)) ∧ r = valV kvs k
def DPut (H : Hp) (a : Addr) (y v : V) (H' : Hp) : Prop :=
  (∃ kvs k, H a = some (.dK kvs) ∧ y = kV k ∧ kvs.length < sizeLine ∧ H' = upd H a (.dK (putK kvs k v))) ∨
  ∃ kvs k b, H a = some (.dT kvs) ∧ y = .ref b ∧ H b = some (.tup (k.map kV)) ∧ kvs.length < sizeLine ∧ H' = upd H a (.dT (putK kvs k v))
theorem DGet.k {H : Hp} {a : Addr} {kvs : List (Key × V)} {k : Key} (e : H a = some (.dK kvs)) : DGet H a (kV k) (valV kvs k) := .inl ⟨kvs, k, .inl e, rfl, rfl⟩
theorem DGet.t {H : Hp} {a b : Addr} {kvs : List (List Key × V)} {k : List Key} (e : H a = some (.dT kvs)) (eb : H b = some (.tup (k.map kV))) : DGet H a (.ref b) (valV kvs k) := .inr ⟨kvs, k, b, .inl e, rfl, eb, rfl⟩
theorem DPut.k {H : Hp} {a : Addr} {kvs : List (Key × V)} {k : Key} {v : V} (e : H a = some (.dK kvs)) (hl : kvs.length < sizeLine) : DPut H a (kV k) v (upd H a (.dK (putK kvs k v))) := .inl ⟨kvs, k, e, rfl, hl, rfl⟩
theorem DPut.t {H : Hp} {a b : Addr} {kvs : List (List Key × V)} {k : List Key} {v : V} (e : H a = some (.dT kvs)) (eb : H b = some (.tup (k.map kV))) (hl : kvs.length < sizeLine) :
    DPut H a (.ref b) v (upd H a (.dT (putK kvs k v))) := .inr ⟨kvs, k, b, e, rfl, eb, hl, rfl⟩
section
variable {X : Cx} {pins : List (Addr × Obj)} {σ : St} {H : Hp} {s : Shared} {a : Addr} {y v : V} {u r : Value} {o : Option V} {A : Around} {E : Value → Shared → Prop}
theorem Inv.big (I : Inv X pins σ H s) : sysModules < s.heap.objs.size := by
  have h : mainGlobals < s.heap.objs.size := (I.mod.glob.keeps I.bk).lt
  exact Nat.lt_trans (by decide) h
theorem d_getItem {Q : Value → Shared → Prop} (hu : A.units + 1 < cLine) (I : Inv X pins σ H s) (g : DGet H a y (some v)) (ry : RelV y u) (h : ∀ w' s', Inv X pins σ H s' → RelV v w' → Q w' s') :
    wpAny (model X.prog X.w) A (getItem (.ref a) u) Q E s := by
  rcases g with ⟨kvs, k, e, ey, l⟩ | ⟨kvs, k, b, e, ey, eb, l⟩
  · subst ey
    obtain ⟨z, hd, vs, rel, dd⟩ := dk_rd I.hok e
    obtain ⟨w', hw, rw'⟩ := RelO.some_of (v := v) (o := valueAt vs k) (by rw [l]; exact rel.val k)
    exact wpAny_getItem_of (kV_is ry) dd.mapOf hw (h w' _ (I.tok _) rw')
  · subst ey
    cases (show u = Value.ref b from ry)
    obtain ⟨z, hd, xs, rel, dd⟩ := dt_rd I.hok e
    obtain ⟨w', hw, rw'⟩ := RelO.some_of (v := v) (o := (atKey xs k).map (·.2)) (by rw [l]; exact rel.val k)
    obtain ⟨p, hp, hp2⟩ := Option.map_eq_some_iff.mp hw
    refine wpAny_getItem_heap (tupleKind_room_in1 hu) (key_of I.hok eb) dd hp ?_
    rw [hp2]
    exact h w' _ (I.tok _) rw'
theorem d_in {Q : Value → Shared → Prop} (hu : A.units + 1 < cLine) (I : Inv X pins σ H s) (g : DGet H a y o) (ry : RelV y u) (h : ∀ s', Inv X pins σ H s' → Q (.bool o.isSome) s') :
    wpAny (model X.prog X.w) A (compareOp .In u (.ref a)) Q E s := by
  rcases g with ⟨kvs, k, e, ey, l⟩ | ⟨kvs, k, b, e, ey, eb, l⟩
  · subst ey
    obtain ⟨z, hd, vs, rel, dd⟩ := dk_rd I.hok e
    refine wpAny_in_of (kV_is ry) hd dd.mapOf ?_
    rw [← (rel.val k).isSome_eq, ← l]
    exact h _ (I.tok _)
  · subst ey
    cases (show u = Value.ref b from ry)
    obtain ⟨z, hd, xs, rel, dd⟩ := dt_rd I.hok e
    refine wpAny_in_heap (tupleKind_room_in1 hu) (key_of I.hok eb) hd dd ?_
    have q := (rel.val k).isSome_eq
    rw [Option.isSome_map] at q
    rw [← q, ← l]
    exact h _ (I.tok _)
theorem d_notIn {Q : Value → Shared → Prop} (hu : A.units + 1 < cLine) (I : Inv X pins σ H s) (g : DGet H a y o) (ry : RelV y u) (h : ∀ s', Inv X pins σ H s' → Q (.bool (!o.isSome)) s') :
    wpAny (model X.prog X.w) A (compareOp .NotIn u (.ref a)) Q E s := by
  rcases g with ⟨kvs, k, e, ey, l⟩ | ⟨kvs, k, b, e, ey, eb, l⟩
  · subst ey
    obtain ⟨z, hd, vs, rel, dd⟩ := dk_rd I.hok e
    refine wpAny_notIn_of (kV_is ry) hd dd.mapOf ?_
    rw [← (rel.val k).isSome_eq, ← l]
    exact h _ (I.tok _)
  · subst ey
    cases (show u = Value.ref b from ry)
    obtain ⟨z, hd, xs, rel, dd⟩ := dt_rd I.hok e
    refine wpAny_notIn_heap (tupleKind_room_in1 hu) (key_of I.hok eb) hd dd ?_
    have q := (rel.val k).isSome_eq
    rw [Option.isSome_map] at q
    rw [← q, ← l]
    exact h _ (I.tok _)
theorem d_write {h' : Heap} {t' : Nat} {ob : HO} (I : Inv X pins σ H s) (mu : Mut (H a)) (hs : Heap.SameBut a s.heap h') (he : ∃ q, h'.get? a = some q) (new : ObjOk X.prog X.w (upd H a ob) h' a ob) :
    Inv X pins σ (upd H a ob) { s with heap := h', toks := t' } :=
  I.write (x := a) (e := a) mu (.inl rfl) (fun b q hb z => (hs.2 b hb).trans z) he new
theorem dk_new {P : Program} {w : World} {H' : Hp} {h' : Heap} {kvs : List (Key × V)} {vs : List (Key × Value)} (z : kvs.length ≤ sizeLine) (hd : (a == sysModules) = false) (rel : KV kvs vs) (dd : h'.DictOf (mixKind P w) a vs) :
    ObjOk P w H' h' a (.dK kvs) := ⟨z, hd, vs, rel, dd⟩
theorem d_setItem {H' : Hp} {Q : Unit → Shared → Prop} (hu : A.units + 1 < cLine) (I : Inv X pins σ H s) (g : DPut H a y v H') (ry : RelV y u) (rv : RelV v r) (h : ∀ s', Inv X pins σ H' s' → Q () s') :
    wpAny (model X.prog X.w) A (setItem (.ref a) u r) Q E s := by
  rcases g with ⟨kvs, k, e, ey, l, eH⟩ | ⟨kvs, k, b, e, ey, eb, l, eH⟩
  · subst ey eH
    obtain ⟨z, hd, vs, rel, dd⟩ := dk_of I.hok e
    have hz : vs.length ≤ sizeLine := by rw [← rel.length]; exact z
    have hl : (putK kvs k v).length ≤ sizeLine := by have := length_putK kvs k v; omega
    refine wpAny_setItem_pairs (hsz := hz) (kV_is ry) dd fun h' dd' hs => h _ ?_
    have he : ∃ q, h'.get? a = some q := let ⟨q, _, _, hq, _⟩ := dd'; ⟨q, hq⟩
    exact d_write I (by rw [e]; exact True.intro) hs he (dk_new hl hd (rel.put k rv) dd')
  · subst ey eH
    cases (show u = Value.ref b from ry)
    obtain ⟨z, hd, xs, rel, dd⟩ := dt_of I.hok e
    have hz : xs.length ≤ sizeLine := by rw [← Paired.length rel]; exact z
    have hl : (putK kvs k v).length ≤ sizeLine := by have := length_putK kvs k v; omega
    refine wpAny_setItem_heap (hsz := hz) (tupleKind_room_in1 hu) (key_of I.hok eb) dd fun h' dd' hs => h _ ?_
    obtain ⟨q, es, ep, hq, h2, h3, h4, _, h5⟩ := dd'
    refine d_write I (by rw [e]; exact True.intro) hs ⟨q, hq⟩ ⟨hl, hd, _, (rel.put k eb rv).keeps fun c ys ec => ?_, q, es, ep, hq, h2, h3, h4, h5⟩
    rw [upd_ne (ne_of ec e (fun z => nomatch z))]
    exact ec
end
section
variable {X : Cx} {pins : List (Addr × Obj)} {σ : St} {H : Hp} {s : Shared} {a : Addr} {kvs : List (Key × V)} {k : Key} {u : Value} {A : Around} {E : Value → Shared → Prop}
theorem d_pop {v : V} {more : List Value} {Q : Value → Shared → Prop} (I : Inv X pins σ H s) (e : H a = some (.dK kvs)) (ry : RelV (kV k) u) (l : valV kvs k = some v) (hm : more = [] ∨ ∃ x, more = [x])
    (h : ∀ w' s', Inv X pins σ (upd H a (.dK (dropK kvs k))) s' → RelV v w' → Q w' s') : wpAny (model X.prog X.w) A (call (.builtin "dict.pop") (.ref a :: u :: more)) Q E s := by
  obtain ⟨z, hd, vs, rel, dd⟩ := dk_of I.hok e
  obtain ⟨w', hw, rw'⟩ := RelO.some_of (v := v) (o := valueAt vs k) (by rw [← l]; exact rel.val k)
  have hp : (keyPart u).isSome = true := by
    cases k with
    | inl i => obtain ⟨t, q⟩ := (show ∃ t, u = Value.int i t from ry); subst q; rfl
    | inr x => obtain ⟨t, q⟩ := (show ∃ t, u = Value.str x t from ry); subst q; rfl
  have ha : argsOk "dict.pop" ⟨.ref a :: u :: more, []⟩ := by
    rcases hm with q | ⟨x, q⟩
    · subst q; exact PySem.F.args_dict_pop_2 _ _
    · subst q; exact PySem.F.args_dict_pop_3 _ _ _
  refine call_meetsIn PySem.F.slot_dict_pop dd.typeIs PySem.F.entry_dict_pop ha (meets_dict_pop_there (mixKind X.prog X.w) a (kV_is ry) more hm hp)
    ⟨vs, w', dd, by rw [← rel.length]; exact z, hw, fun h' dd' hs => h w' _ ?_ rw'⟩
  have he : ∃ q, h'.get? a = some q := let ⟨q, _, _, hq, _⟩ := dd'; ⟨q, hq⟩
  exact d_write I (by rw [e]; exact True.intro) hs he (dk_new (Nat.le_trans (dropK_le kvs k) z) hd (rel.drop k) dd')
end
def NoSl (i : Expr) : Prop := ∀ ov iv, subscripted i false ov iv = operate [ov, iv] (getItem ov iv)
theorem subD_of {prog : Program} {w : World} {A : Around} {E : Value → Shared → Prop} {s : Shared} {env : Env} {value slice : Expr} {pos : Pos} {T id : String} {Q : Value → Shared → Prop}
    (hl : typeLookup (.type T) "__getitem__" = pure (some (.builtin id))) (hs : NoSl slice)
    (h : wpAny (model prog w) A (eval value env) (fun o s₁ => wpAny (model prog w) A (eval slice env) (fun i s₂ => s₂.TypeIs o T ∧ wpAny (model prog w) A (getItem o i) Q E s₂) E s₁) E s) :
    wpAny (model prog w) A (eval (.Subscript value slice pos) env) Q E s := by
  refine Subscript_ (wpAny_mono h (fun o s₁ h₁ => wpAny_mono h₁ (fun i s₂ h₂ => ?_) fun _ _ x => x) fun _ _ x => x)
  obtain ⟨hT, h₂⟩ := h₂
  unfold subscriptTail
  refine wpAny_bind ?_
  rw [getitemInPython_of_ne hT.not_modules]
  refine wpAny_bind (wpAny_specialOf hT hl ?_)
  have fin : wpAny (model prog w) A (subscripted slice false o i) (fun r s₃ => wpAny (model prog w) A (letTemporaryGo value o r >>= fun _ => pure r) Q E s₃) E s₂ := by
    rw [hs o i]
    exact wpAny_operating (wpAny_mono h₂ (fun r s₃ h₃ => wpAny_bind (wpAny_letTemporaryGo (wpAny_pure h₃))) fun _ _ x => x)
  first
    | exact wpAny_pure (wpAny_bind fin)
    | exact wpAny_bind (wpAny_pure (wpAny_bind fin))
    | exact wpAny_bind fin
theorem dict_typeIs {X : Cx} {pins : List (Addr × Obj)} {σ : St} {H : Hp} {s : Shared} {a : Addr} {y : V} {o : Option V} (I : Inv X pins σ H s) (g : DGet H a y o) : s.TypeIs (.ref a) "dict" := by
  rcases g with ⟨kvs, k, e, _, _⟩ | ⟨kvs, k, b, e, _, _, _⟩
  · obtain ⟨_, _, vs, _, dd⟩ := dk_rd I.hok e
    exact dd.typeIs
  · obtain ⟨_, _, xs, _, dd⟩ := dt_rd I.hok e
    exact dd.typeIs
def tDGet (td ty : TE) : TE := fun σ H Q => td σ H fun x H1 => ty σ H1 fun y H2 => ∃ a v, x = .ref a ∧ DGet H2 a y (some v) ∧ Q v H2
def tDIn (ty td : TE) : TE := fun σ H Q => ty σ H fun y H1 => td σ H1 fun x H2 => ∃ a o, x = .ref a ∧ DGet H2 a y o ∧ Q (.bl o.isSome) H2
def tDNotIn (ty td : TE) : TE := fun σ H Q => ty σ H fun y H1 => td σ H1 fun x H2 => ∃ a o, x = .ref a ∧ DGet H2 a y o ∧ Q (.bl (!o.isSome)) H2
def sDPut (td ty tv : TE) : TS := fun D σ H => tv σ H fun v H1 => td σ H1 fun x H2 => ty σ H2 fun y H3 => ∃ a H4, x = .ref a ∧ DPut H3 a y v H4 ∧ D.nx σ H4
section
variable {X : Cx} {o i e value : Expr} {pos pos' tpos : Pos} {td ty tv : TE}
theorem pe_dget (hu : X.A.units + 1 < cLine) (ho : PE X o td) (hi : PE X i ty) (hs : NoSl i) : PE X (.Subscript o i pos) (tDGet td ty) := by
  intro pins s σ H Q I h
  refine subD_of PySem.F.slot_dict_getitem.lookup hs (thn (ho pins s σ H _ I h) fun u s1 ⟨x, H1, I1, rx, q1⟩ => thn (hi pins s1 σ H1 _ I1 q1) fun iv s2 ⟨y, H2, I2, ry, a, v, ex, g, q2⟩ => ?_)
  subst ex
  obtain rfl : u = Value.ref a := rx
  exact ⟨dict_typeIs I2 g, d_getItem hu I2 g ry fun w' s3 I3 rw' => ⟨v, H2, I3, rw', q2⟩⟩
theorem pc_din (hu : X.A.units + 1 < cLine) (hi : PE X i ty) (ho : PE X o td) : PC X .In i o (tDIn ty td) := by
  intro pins s σ H Q I h
  refine thn (hi pins s σ H _ I h) fun iv s1 ⟨y, H1, I1, ry, q1⟩ => thn (ho pins s1 σ H1 _ I1 q1) fun u s2 ⟨x, H2, I2, rx, a, ov, ex, g, q2⟩ => ?_
  subst ex
  obtain rfl : u = Value.ref a := rx
  exact d_in hu I2 g ry fun s3 I3 => ⟨.bl ov.isSome, H2, I3, rfl, q2⟩
theorem pc_dnotin (hu : X.A.units + 1 < cLine) (hi : PE X i ty) (ho : PE X o td) : PC X .NotIn i o (tDNotIn ty td) := by
  intro pins s σ H Q I h
  refine thn (hi pins s σ H _ I h) fun iv s1 ⟨y, H1, I1, ry, q1⟩ => thn (ho pins s1 σ H1 _ I1 q1) fun u s2 ⟨x, H2, I2, rx, a, ov, ex, g, q2⟩ => ?_
  subst ex
  obtain rfl : u = Value.ref a := rx
  exact d_notIn hu I2 g ry fun s3 I3 => ⟨.bl (!ov.isSome), H2, I3, rfl, q2⟩
theorem ps_dput (hu : X.A.units + 1 < cLine) (ho : PE X o td) (hi : PE X i ty) (hv : PE X value tv) (hs : swapsWith value (some (.Subscript o i pos')) pos.line X.env = pure false) :
    PS X (.Assign [.Subscript o i pos'] value pos) (sDPut td ty tv) := by
  intro pins s σ H D I h
  refine wpAny_Assign_Subscript (thn (hv pins s σ H _ I h) fun r s1 ⟨v, H1, I1, rv, q1⟩ => thn (ho pins s1 σ H1 _ I1 q1) fun u s2 ⟨x, H2, I2, rx, q2⟩ => thn (hi pins s2 σ H2 _ I2 q2) fun iv s3 ⟨y, H3, I3, ry, a, H4, ex, g, q3⟩ => ?_) hs
  subst ex
  obtain rfl : u = Value.ref a := rx
  exact d_setItem hu I3 g ry rv fun s4 I4 => ⟨σ, H4, I4, q3⟩
end
theorem dk_empty {P : Program} {w : World} {H : Hp} (h : Heap) (hb : sysModules < h.objs.size) : ObjOk P w H (h.push { cls := .type "dict", data := .dict #[] }) h.objs.size (.dK []) :=
  ⟨Nat.zero_le _, beq_eq_false_iff_ne.mpr (Ne.symm (Nat.ne_of_lt hb)), [], .nil, Heap.DictOf.new h⟩
def tDNewK : TE := fun _ H Q => ∀ p, H p = none → Q (.ref p) (upd H p (.dK []))
section
variable {X : Cx} {pos : Pos}
theorem pe_dnewK : PE X (.Dict [] [] pos) tDNewK := fun pins s σ H Q I h =>
  wpAny_Dict_empty ⟨.ref s.heap.objs.size, _, I.laid (a := s.heap.objs.size) (o := .dK []) (t' := s.toks) (fun _ _ q => Heap.get?_push_of_some _ q) (Nat.le_refl _) (dk_empty s.heap I.big), rfl, h _ (I.hok.fresh (Nat.le_refl _))⟩
end
abbrev VV : List (V × V) → List (Value × Value) → Prop := Paired fun p q => RelV p.1 q.1 ∧ RelV p.2 q.2
structure M1 (X : Cx) (o : Expr) (m : Str) (apos : Pos) (e : Expr) (cpos : Pos) : Prop where
  base : attributeBase o m X.env (eval o X.env) = eval o X.env
  few : ((backTo cpos (starEach [e] X.env)).all (fun x => !x.1) && (backToKw cpos (keywordEach [] X.env)).all (fun x => x.1.isSome)
    && decide (([e] : List Expr).length + ([] : List Keyword).length + (if ([] : List Keyword).isEmpty then 0 else 1) < 30)) = true
  line : (apos.endLine == cpos.line) = true
  trees : backTo cpos (starEach [e] X.env) = [(false, eval e X.env)]
structure M2 (X : Cx) (o : Expr) (m : Str) (apos : Pos) (e f : Expr) (cpos : Pos) : Prop where
  base : attributeBase o m X.env (eval o X.env) = eval o X.env
  few : ((backTo cpos (starEach [e, f] X.env)).all (fun x => !x.1) && (backToKw cpos (keywordEach [] X.env)).all (fun x => x.1.isSome)
    && decide (([e, f] : List Expr).length + ([] : List Keyword).length + (if ([] : List Keyword).isEmpty then 0 else 1) < 30)) = true
  line : (apos.endLine == cpos.line) = true
  trees : backTo cpos (starEach [e, f] X.env) = [(false, eval e X.env), (false, eval f X.env)]
def IsD (H : Hp) (a : Addr) : Prop := (∃ kvs, Rd H a (.dK kvs)) ∨ ∃ kvs, Rd H a (.dT kvs)
theorem isD_at {X : Cx} {pins : List (Addr × Obj)} {σ : St} {H : Hp} {s : Shared} {a : Addr} (I : Inv X pins σ H s) (d : IsD H a) :
    s.TypeIs (.ref a) "dict" ∧ (∀ b, Value.ref a = .ref b → ∃ ob, s.heap.get? b = some ob ∧ ob.dict = none) ∧ (a == sysModules) = false := by
  rcases d with ⟨kvs, e⟩ | ⟨kvs, e⟩
  · obtain ⟨_, hd, vs, _, dd⟩ := dk_rd I.hok e
    refine ⟨dd.typeIs, fun b q => ?_, hd⟩
    cases q
    obtain ⟨ob, _, _, h1, h2, _⟩ := dd
    exact ⟨ob, h1, h2.2.1⟩
  · obtain ⟨_, hd, xs, _, dd⟩ := dt_rd I.hok e
    refine ⟨dd.typeIs, fun b q => ?_, hd⟩
    cases q
    obtain ⟨ob, _, _, h1, h2, _⟩ := dd
    exact ⟨ob, h1, h2.2.1⟩
section
variable {X : Cx} {pins : List (Addr × Obj)} {σ : St} {H : Hp} {s : Shared} {a : Addr} {y d : V} {u r : Value} {o : Option V} {A : Around} {E : Value → Shared → Prop}
theorem d_get1 {Q : Value → Shared → Prop} (hu : A.units + 1 < cLine) (I : Inv X pins σ H s) (g : DGet H a y o) (ry : RelV y u) (h : ∀ w' s', Inv X pins σ H s' → RelV (o.getD .non) w' → Q w' s') :
    wpAny (model X.prog X.w) A (call (.builtin "dict.get") [.ref a, u]) Q E s := by
  rcases g with ⟨kvs, k, e, ey, l⟩ | ⟨kvs, k, b, e, ey, eb, l⟩
  · subst ey
    obtain ⟨z, hd, vs, rel, dd⟩ := dk_rd I.hok e
    refine call_meetsIn PySem.F.slot_dict_get dd.typeIs PySem.F.entry_dict_get (PySem.F.args_dict_get_2 _ _) (meets_dict_get (mixKind X.prog X.w) a (kV_is ry) hd) ⟨_, dd.mapOf, h _ _ (I.tok _) ?_⟩
    rw [l]
    exact (rel.val k).getD rfl
  · subst ey
    cases (show u = Value.ref b from ry)
    obtain ⟨z, hd, xs, rel, dd⟩ := dt_rd I.hok e
    refine call_meetsIn PySem.F.slot_dict_get dd.typeIs PySem.F.entry_dict_get (PySem.F.args_dict_get_2 _ _) (meetsH_dict_get (tupleKind (mixKind X.prog X.w)) a b hd) ⟨tupleKind_room_in1 hu, k, xs, key_of I.hok eb, dd, h _ _ (I.tok _) ?_⟩
    rw [l]
    exact (rel.val k).getD rfl
theorem d_get2 {Q : Value → Shared → Prop} (hu : A.units + 1 < cLine) (I : Inv X pins σ H s) (g : DGet H a y o) (ry : RelV y u) (rd : RelV d r) (h : ∀ w' s', Inv X pins σ H s' → RelV (o.getD d) w' → Q w' s') :
    wpAny (model X.prog X.w) A (call (.builtin "dict.get") [.ref a, u, r]) Q E s := by
  rcases g with ⟨kvs, k, e, ey, l⟩ | ⟨kvs, k, b, e, ey, eb, l⟩
  · subst ey
    obtain ⟨z, hd, vs, rel, dd⟩ := dk_rd I.hok e
    refine call_meetsIn PySem.F.slot_dict_get dd.typeIs PySem.F.entry_dict_get (PySem.F.args_dict_get_3 _ _ _) (meets_dict_get_default (mixKind X.prog X.w) a (kV_is ry) hd r) ⟨_, dd.mapOf, h _ _ (I.tok _) ?_⟩
    rw [l]
    exact (rel.val k).getD rd
  · subst ey
    cases (show u = Value.ref b from ry)
    obtain ⟨z, hd, xs, rel, dd⟩ := dt_rd I.hok e
    refine call_meetsIn PySem.F.slot_dict_get dd.typeIs PySem.F.entry_dict_get (PySem.F.args_dict_get_3 _ _ _) (meetsH_dict_get_default (tupleKind (mixKind X.prog X.w)) a b hd r) ⟨tupleKind_room_in1 hu, k, xs, key_of I.hok eb, dd, h _ _ (I.tok _) ?_⟩
    rw [l]
    exact (rel.val k).getD rd
end
def tDGet1 (td ty : TE) : TE := fun σ H Q => td σ H fun x H1 => ∃ a, x = .ref a ∧ IsD H1 a ∧ ty σ H1 fun y H2 => ∃ o, DGet H2 a y o ∧ Q (o.getD .non) H2
def tDGet2 (td ty tx : TE) : TE := fun σ H Q => td σ H fun x H1 => ∃ a, x = .ref a ∧ IsD H1 a ∧ ty σ H1 fun y H2 => tx σ H2 fun z H3 => ∃ o, DGet H3 a y o ∧ Q (o.getD z) H3
def tDPop1 (td ty : TE) : TE := fun σ H Q => td σ H fun x H1 => ∃ a, x = .ref a ∧ IsD H1 a ∧ ty σ H1 fun y H2 => ∃ kvs k v, H2 a = some (.dK kvs) ∧ y = kV k ∧ valV kvs k = some v ∧ Q v (upd H2 a (.dK (dropK kvs k)))
section
variable {X : Cx} {o e f : Expr} {apos cpos : Pos} {td ty tx : TE}
theorem pe_dget1 (hu : X.A.units + 1 < cLine) (ho : PE X o td) (he : PE X e ty) (m : M1 X o "get" apos e cpos) : PE X (.Call (.Attribute o "get" apos) [e] [] cpos) (tDGet1 td ty) := by
  intro pins s σ H Q I h
  refine wpAny_Call_method m.base m.few m.line PySem.F.plainAttrs_dict PySem.F.slot_dict_get PySem.F.type_dict_get (thn (ho pins s σ H _ I h) fun u s1 ⟨x, H1, I1, rx, a, ex, d, q1⟩ => ?_)
  subst ex
  obtain rfl : u = Value.ref a := rx
  obtain ⟨t1, t2, _⟩ := isD_at I1 d
  refine ⟨t1, t2, ?_⟩
  rw [m.trees]
  refine Calls.callWith_builtin rfl (Calls.evalArgs_plain (Calls.spliced_cons (thn (he pins s1 σ H1 _ I1 q1) fun iv s2 ⟨y, H2, I2, ry, ov, g, q2⟩ => Calls.spliced_nil ?_)))
  exact d_get1 hu I2 g ry fun w' s3 I3 rw' => ⟨_, H2, I3, rw', q2⟩
theorem pe_dget2 (hu : X.A.units + 1 < cLine) (ho : PE X o td) (he : PE X e ty) (hf : PE X f tx) (m : M2 X o "get" apos e f cpos) : PE X (.Call (.Attribute o "get" apos) [e, f] [] cpos) (tDGet2 td ty tx) := by
  intro pins s σ H Q I h
  refine wpAny_Call_method m.base m.few m.line PySem.F.plainAttrs_dict PySem.F.slot_dict_get PySem.F.type_dict_get (thn (ho pins s σ H _ I h) fun u s1 ⟨x, H1, I1, rx, a, ex, d, q1⟩ => ?_)
  subst ex
  obtain rfl : u = Value.ref a := rx
  obtain ⟨t1, t2, _⟩ := isD_at I1 d
  refine ⟨t1, t2, ?_⟩
  rw [m.trees]
  refine Calls.callWith_builtin rfl (Calls.evalArgs_plain (Calls.spliced_cons (thn (he pins s1 σ H1 _ I1 q1) fun iv s2 ⟨y, H2, I2, ry, q2⟩ =>
    Calls.spliced_cons (thn (hf pins s2 σ H2 _ I2 q2) fun fv s3 ⟨z, H3, I3, rz, ov, g, q3⟩ => Calls.spliced_nil ?_))))
  exact d_get2 hu I3 g ry rz fun w' s4 I4 rw' => ⟨_, H3, I4, rw', q3⟩
theorem pe_dpop1 (ho : PE X o td) (he : PE X e ty) (m : M1 X o "pop" apos e cpos) : PE X (.Call (.Attribute o "pop" apos) [e] [] cpos) (tDPop1 td ty) := by
  intro pins s σ H Q I h
  refine wpAny_Call_method m.base m.few m.line PySem.F.plainAttrs_dict PySem.F.slot_dict_pop PySem.F.type_dict_pop (thn (ho pins s σ H _ I h) fun u s1 ⟨x, H1, I1, rx, a, ex, d, q1⟩ => ?_)
  subst ex
  obtain rfl : u = Value.ref a := rx
  obtain ⟨t1, t2, _⟩ := isD_at I1 d
  refine ⟨t1, t2, ?_⟩
  rw [m.trees]
  refine Calls.callWith_builtin rfl (Calls.evalArgs_plain (Calls.spliced_cons (thn (he pins s1 σ H1 _ I1 q1) fun iv s2 ⟨y, H2, I2, ry, kvs, k, v, ea, ey, l, q2⟩ => Calls.spliced_nil ?_)))
  subst ey
  exact d_pop I2 ea ry l (.inl rfl) fun w' s3 I3 rw' => ⟨v, _, I3, rw', q2⟩
end
section
variable {X : Cx} {pins : List (Addr × Obj)} {σ : St} {H : Hp} {s : Shared} {a : Addr} {kvs : List (Key × V)} {A : Around} {E : Value → Shared → Prop}
theorem d_copyOf {Q : Value → Shared → Prop} (I : Inv X pins σ H s) (e : Rd H a (.dK kvs)) (h : ∀ p s', H p = none → Inv X pins σ (upd H p (.dK kvs)) s' → Q (.ref p) s') : wpAny (model X.prog X.w) A (call (.type "dict") [.ref a]) Q E s := by
  obtain ⟨z, hd, vs, rel, dd⟩ := dk_rd I.hok e
  refine kt_call_dict hd dd (by rw [← rel.length]; exact z) fun h' dd' hs => ?_
  refine h _ _ (I.hok.fresh (Nat.le_refl _)) (I.laid (a := s.heap.objs.size) (o := .dK kvs) (t' := s.toks) (fun b q hq => ?_) (Nat.le_refl _) (dk_new z (beq_eq_false_iff_ne.mpr (Ne.symm (Nat.ne_of_lt I.big))) rel dd'))
  exact (hs.2 b (Nat.ne_of_lt (Heap.lt_size hq))).trans (Heap.get?_push_of_some _ hq)
end
section
variable {X : Cx} {pins : List (Addr × Obj)} {σ : St} {H : Hp} {s : Shared} {a : Addr} {y : V} {u : Value} {A : Around} {E : Value → Shared → Prop}
end
end L2
namespace Att
open PySem PySem.W PySem.Calls PyProof.Rows
section
variable {prog : Program} {w : World} {A : Around} {E : Value → Shared → Prop} {s : Shared} {K : Frag}
end
end Att
namespace L2
open PySem PySem.Spec PyProof.Rows
end L2
namespace L2
open PySem PySem.Spec PyProof.Rows
end L2
namespace L2
open PySem PySem.Spec PyProof.Rows
section
variable {P : Program} {w : World} {K : PySem.W.Frag} {mg : Str → Option Value} {base : Heap}
end
section
variable {X : Cx}
end
section
variable {κ : Type} [DecidableEq κ]
end
end L2
set_option Elab.async false
set_option linter.all false
set_option maxRecDepth 100000
namespace L2
open PySem PySem.Spec PyProof.Rows
theorem comp_loop {prog : Program} {w : World} {A : Around} {R : Result → Shared → Prop} {s : Shared} {elt target iter : Expr} {ifs : List Expr} {scope : Scope} {pos : Pos} {it acc : Value} {env : Env} (J : Nat → Shared → Prop)
    (turn : ∀ n s, J n s → wpAny (model prog w) A (pyNext it) (fun r s1 => match r with
      | none => R (.ok .next) s1
      | some v => wpAny (model prog w) A (letOwnedTupleGo target it v) (fun _ s0 => wpAny (model prog w) A (assign target env v) (fun _ s2 =>
          wpAny (model prog w) A (forIn ifs true fun c r => if r = true then do let ok ← isTrue c env (eval c env); pure (ForInStep.yield ok) else pure (ForInStep.yield r)) (fun ok s3 =>
            if ok = true then wpAny (model prog w) A (eval elt env) (fun x s4 => wpAny (model prog w) A (call (.builtin "list.append") [acc, x]) (fun _ s5 => ∃ m, m < n ∧ J m s5) (fun _ _ => False) s4) (fun _ _ => False) s3
            else ∃ m, m < n ∧ J m s3) (fun _ _ => False) s2) (fun _ _ => False) s0) (fun _ _ => False) s1) (fun _ _ => False) s) (n : Nat) (h : J n s) :
    codeAny (model prog w) A (.compLoop (.ListComp elt [⟨target, iter, ifs, 0⟩] scope pos) 0 it acc env) R s := by
  refine codeAny_loop rfl J (fun n s hJ => ?_) n h
  show wpAny _ A ((compTurn (.ListComp elt [⟨target, iter, ifs, 0⟩] scope pos) 0 it acc env).onRaise (fun x => do noteFrame x env; theTreesLotGoes x)) _ _ s
  refine wpAny_noted ?_
  rw [compTurn_list]
  refine wpAny_bind (wpAny_standAt (wpAny_bind (wpAny_mono (turn n s hJ) (fun r s1 h1 => ?_) fun _ _ z => z.elim)))
  cases r with
  | none => exact wpAny_pure h1
  | some v =>
    refine wpAny_bind (wpAny_mono h1 (fun _ s0 h0 => ?_) fun _ _ z => z.elim)
    refine wpAny_bind (wpAny_mono h0 (fun _ s2 h2 => wpAny_bind (wpAny_mono h2 (fun ok s3 h3 => ?_) fun _ _ z => z.elim)) fun _ _ z => z.elim)
    cases ok with
    | false => exact wpAny_pure ⟨rfl, h3⟩
    | true => exact wpAny_bind (wpAny_bind (wpAny_mono h3 (fun x s4 h4 => wpAny_bind (wpAny_mono h4 (fun _ s5 h5 => wpAny_pure (wpAny_pure ⟨rfl, h5⟩)) fun _ _ z => z.elim)) fun _ _ z => z.elim))
abbrev Cx.blk (X : Cx) (N : List Str) (scope : Scope) (cl : List (Str × Addr)) (C : Addr) (s : Shared) (H : Hp) (ex : List Addr) (pn : List (Addr × Obj)) : Cx :=
  { X with N := N, s₀ := s, H₀ := H, env := compEnvC scope cl C X.env, outer := X.stack, stack := X.stack, ex := ex, fn := fun _ => false, pn := pn, xe := fun _ _ => False }
structure Blk (X : Cx) (x : Str) (scope : Scope) (cl : List (Str × Addr)) (N : List Str) (places : List Nat) : Prop where
  clos : closureFor scope X.env = pure cl
  noCell : ∀ y ∈ scope.names, y.2 ≠ .cell
  kind : scope.kind = .function
  names : ∀ y ∈ scope.names, y.2 = .local → scope.names.lookup y.1 = some .local
  var : scope.names.lookup x = some .local
  head : N[0]? = some x
  nd : N.Nodup
  len : N.length = places.length + 1
  sub : ∀ y c, cl.lookup y = some c → X.env.cells.lookup y = some c
  has : ∀ y, ((relabel scope X.env).names.lookup y = some .cell ∨ (relabel scope X.env).names.lookup y = some .free) → ∃ c, cl.lookup y = some c
  at_ : ∀ (i j : Nat) (y : Str), places[i]? = some j → N[i + 1]? = some y → X.N[j]? = some y ∧ (X.env.scope.names.lookup y = some .cell ∨ X.env.scope.names.lookup y = some .free) ∧ ((relabel scope X.env).names.lookup y = some .cell ∨ (relabel scope X.env).names.lookup y = some .free)
def blkσ (places : List Nat) (v : Option V) (σ : St) : St := v :: places.map fun j => (σ[j]?).getD none
def compBody (J : It) (places : List Nat) (tt : TT) (te : TE) (σ : St) (Q : VK) (H1 : Hp) (D : Addr) : Prop := ∃ W : Nat → Nat → Hp → Prop, (∃ m, W 0 m (upd H1 D (.lst []))) ∧ ∀ i m H, W i m H →
  (J.stop i H ∧ Q (.ref D) H) ∨ (J.go i H ∧ ∃ N : Hp → Prop, (∀ H', N H' → ∃ m', m' < m ∧ W (i + 1) m' H') ∧ ∀ x H', J.yld i H x H' → tt (blkσ places (some x) σ) H' fun b H2 =>
    if b = true then te (blkσ places (some x) σ) H2 fun y H3 => ∃ ys, H3 D = some (.lst ys) ∧ ys.length < sizeLine ∧ N (upd H3 D (.lst (ys ++ [y]))) else N H2)
def tComp (places : List Nat) (wi : TI) (tt : TT) (te : TE) : TE := fun σ H Q => wi σ H fun J H1 => ∀ D, H1 D = none → compBody J places tt te σ Q H1 D
def tYes : TT := fun _ H Q => Q true H
inductive Ifs (X : Cx) : List Expr → TT → Prop
  | none : Ifs X [] tYes
  | one {c : Expr} {t : TT} (h : PT X c t) : Ifs X [c] t
section
variable {X : Cx} {pins : List (Addr × Obj)} {σ : St} {H : Hp} {s : Shared} {x : Str} {scope : Scope} {cl : List (Str × Addr)} {N : List Str} {places : List Nat} {fp : List Addr} {C : Addr}
theorem blk_ok (B : Blk X x scope cl N places) (I : Inv X pins σ H s) (f : ∀ b ∈ fp, FpOk X pins H b) (hlt : ∀ b ∈ fp, b < s.heap.objs.size) (hC : s.heap.objs.size ≤ C) : (X.blk N scope cl C s H fp (X.pn ++ pins)).Ok where
  mod := I.ok.mod
  kind := B.kind
  glob := I.ok.glob
  blt := I.ok.blt
  above := hC
  inj := fun a b c e1 e2 => I.ok.inj a b c (B.sub _ _ e1) (B.sub _ _ e2)
  has := fun y h => B.has y h
  cab := fun _ _ z => nomatch z
  hd := I.ok.hd
  frames := I.ok.frames
  stk := .inl rfl
  exf := fun b hb => ⟨fun z => absurd (hlt b hb) (by rw [show b = C from z]; exact Nat.not_lt.mpr hC), fun y c e => (f b hb).2.2.2.2.1 y c (B.sub _ _ e)⟩
  bs := I.bs
  bsz := Nat.le_trans I.ok.bsz I.sz
  noex := fun b o e hb => by
    rcases (f b hb).2.2.2.1 with z | z
    · exact I.ok.noex b o e z
    · exact absurd (Nat.lt_of_lt_of_le (Heap.lt_size e) (Nat.le_trans I.ok.bsz z)) (Nat.lt_irrefl _)
  exfs := fun b hb hf => by
    rcases List.mem_cons.mp (I.stkSub b hf) with z | z
    · exact (f b hb).2.1 z
    · exact (f b hb).2.2.1 z
  funs := I.stack
  frf := I.stkFree
theorem blkσ_len (v : Option V) (B : Blk X x scope cl N places) : (blkσ places v σ).length = N.length := by
  rw [B.len]
  simp [blkσ]
theorem blk_back {H' : Hp} {s' : Shared} {v : Option V} {pins' : List (Addr × Obj)} (I : Inv X pins σ H s) (f : ∀ b ∈ fp, FpOk X pins H b) (J : Inv (X.blk N scope cl C s H fp (X.pn ++ pins)) pins' (blkσ places v σ) H' s') : Inv X pins σ H' s' :=
  I.call' (ch := fp) J.os J.base J.hok J.bare fun b hb => ⟨(f b hb).2.2.2.1, (f b hb).2.1, (f b hb).2.2.2.2.1, (f b hb).2.2.2.2.2⟩
theorem comp_run {elt iter : Expr} {ifs : List Expr} {px pos : Pos} {it : Addr} {tn : Nat → Heap → Prop} {J : It} {tt : TT} {te : TE} {Q : V → Hp → Prop} {RR : Value → Addr → Result → Shared → Prop} {E : Value → Shared → Prop} (hc : X.calm = true) (B : Blk X x scope cl N places)
    (hifs : ∀ C s H fp pn, Ifs (X.blk N scope cl C s H fp pn) ifs tt) (helt : ∀ C s H fp pn, PE (X.blk N scope cl C s H fp pn) elt te)
    (I : Inv X pins σ H s) (T : Turn X.prog X.w X.K (.Name x px) J fp it tn) (st : tn 0 s.heap) (f : ∀ b ∈ fp, FpOk X pins H b)
    (h : ∀ D, H D = none → compBody J places tt te σ Q H D)
    (hRR : ∀ D C s' H', Inv X pins σ H' s' → H' C = none → C ≠ X.env.locals → X.s₀.heap.objs.size ≤ C → (∀ y c, X.env.cells.lookup y = some c → c ≠ C) → (∀ p ∈ X.pn ++ pins, p.1 ≠ C) → (∃ m, s'.heap.Ns C m) → Q (.ref D) H' → RR (.ref D) C (.ok .next) s') :
    wpAny (model X.prog X.w) X.A (newList []) (fun acc s3 => wpAny (model X.prog X.w) X.A (newFunctionEnv scope X.env.globals cl [] X.env.qual none .none (some X.env)) (fun cenv s4 =>
      codeAny (model X.prog X.w) X.A (.compStart (.ListComp elt [⟨.Name x px, iter, ifs, 0⟩] scope pos) 0 (.ref it) acc { cenv with scope := relabel scope X.env }) (RR acc cenv.locals) s4) E s3) E s := by
  refine wpAny_newObj_type (wpAny_newFunctionEnv B.noCell (by intro y hy; simp at hy) (fun h1 hns1 hsb1 => ?_) B.kind)
  dsimp only at hns1 hsb1 ⊢
  generalize hH2 : s.heap.push { cls := .type "list", dict := none, data := .seq ([] : List Value).toArray } = G at hns1 hsb1 ⊢
  have szG : G.objs.size = s.heap.objs.size + 1 := by rw [← hH2, Heap.size_push]
  have hCle : s.heap.objs.size ≤ G.objs.size := by rw [szG]; exact Nat.le_succ _
  have hDC : s.heap.objs.size ≠ G.objs.size := by rw [szG]; exact Nat.ne_of_lt (Nat.lt_succ_self _)
  have old : ∀ b o, s.heap.get? b = some o → h1.get? b = some o := fun b o e =>
    hsb1.extBut b o (by rw [szG]; exact Nat.ne_of_lt (Nat.lt_succ_of_lt (Heap.lt_size e))) (Heap.get?_push_of_some _ (hH2 ▸ Heap.get?_push_of_some _ e))
  have hacc : h1.get? s.heap.objs.size = some { cls := .type "list", data := .seq ([] : List Value).toArray 0 } := hsb1.extBut _ _ hDC (Heap.get?_push_of_some _ (hH2 ▸ Heap.get?_push_size _ rfl))
  have hlt : ∀ b ∈ fp, b < s.heap.objs.size := fun b hb => let ⟨o, e, _⟩ := T.obj 0 _ st b hb; Heap.lt_size e
  have fD : H s.heap.objs.size = none := I.hok.fresh (Nat.le_refl _)
  have fC : H G.objs.size = none := I.hok.fresh hCle
  have nL : G.objs.size ≠ X.env.locals := fun z => absurd I.lt (by rw [← z]; exact Nat.not_lt.mpr hCle)
  have nCell : ∀ y c, X.env.cells.lookup y = some c → c < s.heap.objs.size := fun y c e => let ⟨_, o, ho, _⟩ := I.cell y c e; Heap.lt_size ho
  have nPin : ∀ p ∈ X.pn ++ pins, p.1 < s.heap.objs.size := fun p hp => Heap.lt_size (I.pin p hp).1
  obtain ⟨W, ⟨m0, w0⟩, turn⟩ := h s.heap.objs.size fD
  have okB := blk_ok (C := G.objs.size) B I f hlt hCle
  have I0 : Inv (X.blk N scope cl G.objs.size s H fp (X.pn ++ pins)) [] (blkσ places none σ) (upd H s.heap.objs.size (.lst [])) { s with heap := h1, toks := s.toks + ([] : List (Str × Value)).length } := by
    refine ⟨okB, rfl, I.bare, Un.laid old (Nat.le_refl _) fD, ⟨_, hns1, fun i y v e1 e2 e3 => ?_⟩, fun y c e => ?_, ?_, fun y c e => ?_, fun p hp => ?_, I.hok.laid old (Nat.le_refl _) ⟨Nat.zero_le _, [], 0, .nil, hacc⟩, blkσ_len _ B⟩
    · cases i with
      | zero => cases e2
      | succ i =>
        have e2' : (places.map fun j => (σ[j]?).getD none)[i]? = some (some v) := e2
        rw [List.getElem?_map] at e2'
        cases ep : places[i]? with
        | none => rw [ep] at e2'; cases e2'
        | some j =>
          rw [ep] at e2'
          have e4 : (σ[j]?).getD none = some v := Option.some.inj e2'
          have e5 : σ[j]? = some (some v) := by
            cases es : σ[j]? with
            | none => rw [es] at e4; cases e4
            | some o => rw [es] at e4; exact congrArg some e4
          obtain ⟨a1, a2, a3⟩ := B.at_ i j y ep e1
          obtain ⟨mX, hnX, hlX⟩ := I.loc
          obtain ⟨u, r, l⟩ := hlX j y v a1 e5 (a2.elim (fun z => .inr (.inl z)) fun z => .inr (.inr z))
          refine ⟨u, r, .inr ⟨a3, ?_⟩⟩
          rcases l with ⟨k, _⟩ | ⟨k, c, ec, ⟨o, ho, hd⟩⟩
          · have k' : X.env.scope.names.lookup y = some .local := k
            rcases a2 with z | z <;> (rw [z] at k'; cases k')
          · obtain ⟨c', e'⟩ := B.has y a3
            have := B.sub _ _ e'
            rw [ec] at this
            cases this
            exact ⟨c, e', o, old _ _ ho, hd⟩
    · obtain ⟨v, o, ho, hd⟩ := I.cell y c (B.sub _ _ e)
      exact ⟨v, o, old _ _ ho, hd⟩
    · show upd H s.heap.objs.size (.lst []) G.objs.size = none
      rw [upd_ne (Ne.symm hDC)]
      exact fC
    · rw [upd_ne (Nat.ne_of_lt (nCell y c (B.sub _ _ e)))]
      exact I.freeC y c (B.sub _ _ e)
    · have hp' : p ∈ X.pn ++ pins := by simpa using hp
      obtain ⟨q1, q2, q3, q4, q5⟩ := I.pin p hp'
      refine ⟨old _ _ q1, by rw [upd_ne (Nat.ne_of_lt (nPin p hp'))]; exact q2, ?_, fun z => ?_, q5⟩
      · exact fun z => absurd (nPin p hp') (by rw [show p.1 = G.objs.size from z]; exact Nat.not_lt.mpr hCle)
      · rcases List.mem_cons.mp (I.stkSub _ z) with y | y
        · exact q3 y
        · exact q4 y
  have stat : ∀ {H' : Hp}, (∀ b ∈ fp, H' b = none) → ∀ b ∈ fp, FpOk (X.blk N scope cl G.objs.size s H fp (X.pn ++ pins)) [] H' b := fun hn b hb =>
    ⟨hn b hb, (okB.exf b hb).1, okB.exfs b hb, .inl hb, (okB.exf b hb).2, fun p hp => (f b hb).2.2.2.2.2 p (by simpa using hp)⟩
  have st1 : tn 0 h1 := T.keep _ _ _ st fun b _ o e => old b o e
  have loop : codeAny (model X.prog X.w) X.A (.compLoop (.ListComp elt [⟨.Name x px, iter, ifs, 0⟩] scope pos) 0 (.ref it) (.ref s.heap.objs.size) (compEnvC scope cl G.objs.size X.env)) (RR (.ref s.heap.objs.size) G.objs.size) { s with heap := h1, toks := s.toks + ([] : List (Str × Value)).length } := by
    refine comp_loop (fun n s' => ∃ i v H', Inv (X.blk N scope cl G.objs.size s H fp (X.pn ++ pins)) [] (blkσ places v σ) H' s' ∧ tn i s'.heap ∧ (∀ b ∈ fp, H' b = none) ∧ W i n H') ?_ m0
      ⟨0, none, _, I0, st1, fun b hb => by rw [upd_ne (Nat.ne_of_lt (hlt b hb))]; exact (f b hb).1, w0⟩
    rintro n s3 ⟨i, v3, H3, I3, st3, fr3, w3⟩
    rcases turn i n H3 w3 with ⟨stop, qn⟩ | ⟨go, Nx, hNx, step⟩
    · refine thn (T.done (X.blk N scope cl G.objs.size s H fp (X.pn ++ pins)) rfl rfl rfl hc i [] s3 _ H3 _ I3 (stat fr3) st3 stop) fun r s4 ⟨hr, I4⟩ => ?_
      subst hr
      obtain ⟨m4, hm4, _⟩ := I4.loc
      exact hRR _ _ s4 H3 (blk_back I f I4) I4.free nL (Nat.le_trans I.sz hCle) (fun y c e => Nat.ne_of_lt (Nat.lt_of_lt_of_le (nCell y c e) hCle)) (fun p hp => Nat.ne_of_lt (Nat.lt_of_lt_of_le (nPin p hp) hCle)) ⟨m4, hm4⟩ qn
    · refine thn (T.item (X.blk N scope cl G.objs.size s H fp (X.pn ++ pins)) rfl rfl rfl hc i [] s3 _ H3 _ I3 (stat fr3) st3 go) fun r s4 ⟨u, hr, h4⟩ => ?_
      subst hr
      refine thn h4 fun _ s5 ⟨y5, H5, I5, r5, yl5, st5, fr5⟩ => ?_
      have I5' := I5.pinned (stat fr5) (T.obj _ _ st5)
      have gv : PG (X.blk N scope cl G.objs.size s H fp (X.pn ++ pins)) (.Name x px) (gName 0) := pg_name B.nd B.head (.inl (lookup_relabel_local B.var)) (.inr (lookup_relabel_local B.var))
      have sg : (blkσ places v3 σ).set 0 (some y5) = blkσ places (some y5) σ := rfl
      refine thn (gv _ s5 _ H5 y5 u (fun σ6 H6 => σ6 = blkσ places (some y5) σ ∧ H6 = H5) I5' r5 ⟨sg, rfl⟩) fun _ s6 ⟨σ6, H6, I6, e6, e6'⟩ => ?_
      subst e6 e6'
      have again : ∀ {s7 : Shared} {H7 : Hp}, Inv (X.blk N scope cl G.objs.size s H fp (X.pn ++ pins)) ([] ++ pinsAt fp s5.heap) (blkσ places (some y5) σ) H7 s7 → Nx H7 →
          ∃ m, m < n ∧ ∃ i v H', Inv (X.blk N scope cl G.objs.size s H fp (X.pn ++ pins)) [] (blkσ places v σ) H' s7 ∧ tn i s7.heap ∧ (∀ b ∈ fp, H' b = none) ∧ W i m H' := fun {s7 H7} I7 n7 => by
        obtain ⟨m', hm, w7⟩ := hNx H7 n7
        refine ⟨m', hm, i + 1, some y5, H7, I7.unpinned, T.keep _ _ _ st5 fun b hb o e => (I7.pin (b, o) (List.mem_append_right _ (List.mem_append_right _ (mem_pinsAt hb e)))).1, fun b hb => ?_, w7⟩
        obtain ⟨o, e, d⟩ := T.obj _ _ st5 b hb
        exact (I7.pin (b, o) (List.mem_append_right _ (List.mem_append_right _ (mem_pinsAt hb e)))).2.1
      have tests : wpAny (model X.prog X.w) X.A (forIn ifs true fun c r => if r = true then do let ok ← isTrue c (compEnvC scope cl G.objs.size X.env) (eval c (compEnvC scope cl G.objs.size X.env)); pure (ForInStep.yield ok) else pure (ForInStep.yield r))
          (TP (X.blk N scope cl G.objs.size s H fp (X.pn ++ pins)) ([] ++ pinsAt fp s5.heap) (blkσ places (some y5) σ) fun b H2 =>
            if b = true then te (blkσ places (some y5) σ) H2 fun y H3 => ∃ ys, H3 s.heap.objs.size = some (.lst ys) ∧ ys.length < sizeLine ∧ Nx (upd H3 s.heap.objs.size (.lst (ys ++ [y]))) else Nx H2) (fun _ _ => False) s6 := by
        have q := step y5 H6 yl5
        cases hifs G.objs.size s H fp (X.pn ++ pins) with
        | none => exact wpAny_tests_nil ⟨H6, I6, q⟩
        | one hT => exact wpAny_tests_one (hT _ s6 _ H6 _ I6 q)
      refine thn tests fun ok s7 ⟨H7, I7, q7⟩ => ?_
      cases ok with
      | false => exact again I7 q7
      | true =>
        simp only [if_true] at q7 ⊢
        refine thn (helt _ _ _ _ _ _ s7 _ H7 _ I7 q7) fun yv s8 ⟨y, H8, I8, r8, ys, hys, hz, q8⟩ => ?_
        refine thn (mt_append _ s8 _ H8 (.ref s.heap.objs.size) [y] _ [yv] (fun _ H9 => Nx H9) I8 rfl (.cons r8 .nil) ⟨_, ys, y, rfl, rfl, hys, hz, q8⟩) fun _ s9 ⟨_, H9, I9, _, q9⟩ => ?_
        exact again I9 q9
  exact codeAny_compStart_list loop (T.self X.A 0 _ _ _ st1 loop)
theorem pe_comp {elt iter : Expr} {ifs : List Expr} {px pos : Pos} {wi : TI} {tt : TT} {te : TE} (hc : X.calm = true) (B : Blk X x scope cl N places) (hi : PI X (.Name x px) iter wi)
    (hifs : ∀ C s H fp pn, Ifs (X.blk N scope cl C s H fp pn) ifs tt) (helt : ∀ C s H fp pn, PE (X.blk N scope cl C s H fp pn) elt te) (hs : ∀ x, foldedSetIterable iter X.env x = pure x := by intro _; rfl) :
    PE X (.ListComp elt [⟨.Name x px, iter, ifs, 0⟩] scope pos) (tComp places wi tt te) := by
  intro pins s σ H Q I h
  rw [eval_ListComp]
  refine wpAny_comprehension_free (use := none) rfl hs B.clos B.kind B.names (thn (hi pins s σ H _ I h) fun v s1 h1 => thn h1 fun itv s2 h2 => ?_)
  obtain ⟨it, fp, tn, J, H2, e, I2, T, st2, f2, q⟩ := h2
  subst e
  refine comp_run (Q := Q) (RR := fun acc C => compPost (model X.prog X.w) X.A X.xe none (EP X pins σ Q) acc C) hc B hifs helt I2 T st2 f2 q ?_
  intro D C s' H' I' n1 n2 n3 n4 n5 ⟨m, hm⟩ q'
  refine ⟨m, hm, fun h' hs' => ⟨.ref D, H', ?_, rfl, q'⟩⟩
  exact I'.turned (t' := s'.toks) (fun b o nb e => (hs'.2 b nb).trans e) n1 n2 (.inr n3) n4 n5
theorem ps_comp {elt iter : Expr} {ifs : List Expr} {px pos spos : Pos} {wi : TI} {tt : TT} {te : TE} {i : Nat} {y : Str} {py : Pos} (hN : X.N.Nodup) (hi' : X.N[i]? = some y) (hy : Loc X.env.scope y) (hc : X.calm = true) (B : Blk X x scope cl N places) (hi : PI X (.Name x px) iter wi)
    (hifs : ∀ C s H fp pn, Ifs (X.blk N scope cl C s H fp pn) ifs tt) (helt : ∀ C s H fp pn, PE (X.blk N scope cl C s H fp pn) elt te)
    (hsw : swapsWith (.ListComp elt [⟨.Name x px, iter, ifs, 0⟩] scope pos) (some (.Name y py)) spos.line X.env = pure true := by rfl) (hs : ∀ x, foldedSetIterable iter X.env x = pure x := by intro _; rfl)
    (hf : X.fn y = true ∨ X.env.scope.names.lookup y = some .local := by first | exact .inl rfl | exact .inr rfl | assumption) :
    PS X (.Assign [.Name y py] (.ListComp elt [⟨.Name x px, iter, ifs, 0⟩] scope pos) spos) (tAsg (tComp places wi tt te) (gName i)) := by
  intro pins s σ H D I h
  rw [exec_Assign_Name_used _ _ _ _ hsw]
  refine wpAny_bind (wpAny_standAt (wpAny_bind ?_))
  show wpAny _ X.A (do let _ ← comprehension (.ListComp elt [⟨.Name x px, iter, ifs, 0⟩] scope pos) scope X.env _ (newList []) false (eval iter X.env) (some (assign (.Name y py) X.env))) _ _ s
  refine wpAny_bind (wpAny_mono (wpAny_comprehension_free (use := some (assign (.Name y py) X.env)) (Q := fun _ s' => SP X pins D .next s') rfl hs B.clos B.kind B.names (thn (hi pins s σ H _ I h) fun v s1 h1 => thn h1 fun itv s2 h2 => ?_)) (fun _ s' hq => wpAny_pure (wpAny_pure hq)) fun _ _ e => e)
  obtain ⟨it, fp, tn, J, H2, e, I2, T, st2, f2, q⟩ := h2
  subst e
  refine comp_run (Q := fun v H1 => gName i v σ H1 D.nx) (RR := fun acc C => compPost (model X.prog X.w) X.A X.xe (some (assign (.Name y py) X.env)) (fun _ s' => SP X pins D .next s') acc C) hc B hifs helt I2 T st2 f2 q ?_
  intro Da C s' H' I' n1 n2 n3 n4 n5 ⟨m, hm⟩ q'
  show wpAny _ X.A (assign (.Name y py) X.env (.ref Da)) _ _ s'
  refine wpAny_assign_Name (store_ok2 I' hN hi' hy (show RelV (.ref Da) (.ref Da) from rfl) (fun s5 I5 ⟨a, sb, ha⟩ => ?_) hf)
  have na : C ≠ a := by
    rcases ha with z | z
    · exact z ▸ n2
    · exact fun w => n4 y a z w.symm
  refine ⟨m, hm.sameBut sb na, fun h' hs' => ⟨_, H', ?_, q'⟩⟩
  exact I5.turned (t' := s5.toks) (fun b o nb e => (hs'.2 b nb).trans e) n1 n2 (.inr n3) n4 n5
end
end L2
set_option Elab.async false
set_option maxRecDepth 100000
namespace MX
open PySem PySem.W PyProof.Rows
theorem nm : (toString "max" ++ toString ".loop" : String) = "max.loop" := by decide
theorem args_dflt (a d : Value) : argsOk "max" ⟨[a], [(Str.ofString "default", d)]⟩ := by
  unfold argsOk
  kernel_rfl
section
variable {prog : Program} {w : World} {A : Around} {R : Result → Shared → Prop} {I : Addr} {fp wr : List Addr} {n : Nat} {P : Nat → Value → Prop} {St : Nat → Heap → Prop} {kw : List (Str × Value)}
theorem turns (W : Walks prog w A.in1 I fp wr n P St) (bt : Nat → Nat → Bool) (cmp : CmpOf prog w A.in1 .Gt P bt) (B : Addr) (hB : B ∉ fp) : ∀ (left j : Nat) (s : Shared) (best : Value) (c : Nat), n - (j + 1) = left → j + 1 ≤ n → St (j + 1) s.heap → P (argBest bt j) best →
    s.heap.get? B = some { cls := .type "list", dict := none, data := .seq #[best, best] c, slots := #[] } →
    (∀ v h' tk, P (argBest bt (n - 1)) v → (∀ b o, b ∉ wr → b ≠ B → s.heap.get? b = some o → h'.get? b = some o) → R (.ok (.ret v)) { s with heap := h', toks := tk }) → codeAny (model prog w) A (.builtin "max.loop" ⟨[.ref I, .none, .ref B], kw⟩) R s := by
  have hBw : B ∉ wr := fun z => hB (W.sub _ z)
  intro left
  induction left with
  | zero =>
    intro j s best c e1 e2 st hP ho hR
    have en : j + 1 = n := by omega
    refine codeAny_builtin F.entry_max_loop ?_
    rw [Around.under_plainId F.plain_max_loop _]
    show wpAny _ A.in1 (seqItems? (.ref B) >>= _) _ _ s
    refine wpAny_bind (wpAny_seqItems ho rfl ?_)
    show wpAny _ A.in1 (tryCatch (pyNext (.ref I)) _ >>= _) _ _ s
    refine wpAny_bind (wpAny_tryCatch (W.done s _ _ (en ▸ st) fun h1 tk k1 => ?_))
    have ho1 := k1 B _ hBw ho
    show wpAny _ A.in1 (updateSeq B (fun _ => #[]) >>= _) _ _ _
    refine wpAny_bind ?_
    refine wpAny_updateSeq ho1 rfl (wpAny_bind (wpAny_letGo (wpAny_pure ?_)))
    exact hR best _ tk (by rw [← en]; exact hP) fun b o n1 n2 q => (Heap.get?_update_other _ _ (Ne.symm n2)).trans (k1 b o n1 q)
  | succ left ih =>
    intro j s best c e1 e2 st hP ho hR
    have lt : j + 1 < n := by omega
    refine codeAny_builtin F.entry_max_loop ?_
    rw [Around.under_plainId F.plain_max_loop _]
    show wpAny _ A.in1 (seqItems? (.ref B) >>= _) _ _ s
    refine wpAny_bind (wpAny_seqItems ho rfl ?_)
    show wpAny _ A.in1 (tryCatch (pyNext (.ref I)) _ >>= _) _ _ s
    refine wpAny_bind (wpAny_tryCatch (W.item (j + 1) s _ _ lt st fun v h1 tk hv st1 k1 => ?_))
    have ho1 := k1 B _ hBw ho
    show wpAny _ A.in1 (tryCatch (holding [v, v] (richCompare .Gt v best >>= _)) _ >>= _) _ _ _
    refine wpAny_bind (wpAny_tryCatch (wpAny_holding (wpAny_bind (cmp (j + 1) (argBest bt j) v best _ _ _ hv hP ?_))))
    refine wpAny_bind (wpAny_holding (wpAny_truthy_bool ?_))
    refine wpAny_bind (wpAny_letGo (wpAny_pure ?_))
    cases eb : bt (j + 1) (argBest bt j) with
    | true =>
      simp only [if_true]
      refine wpAny_bind ?_
      refine wpAny_updateSeq ho1 rfl (wpAny_bind (wpAny_letGo ?_))
      rw [nm]
      refine wpAny_pure ⟨plainId_quiet F.plain_max_loop _, ih (j + 1) _ v _ (by omega) lt (W.frame _ _ _ st1 fun b n1 o q => ?_) (by simp only [argBest, eb, if_true]; exact hv) (Heap.get?_update_self _ ho1 rfl) fun u h2 tk2 hu k2 => ?_⟩
      · exact (Heap.get?_update_other _ _ (fun z : B = b => hB (by rw [z]; exact n1))).trans q
      · exact hR u h2 tk2 hu fun b o n1 n2 q => k2 b o n1 n2 ((Heap.get?_update_other _ _ (Ne.symm n2)).trans (k1 b o n1 q))
    | false =>
      simp only [Bool.false_eq_true, if_false]
      refine wpAny_bind (wpAny_letGo ?_)
      rw [nm]
      refine wpAny_pure ⟨plainId_quiet F.plain_max_loop _, ih (j + 1) _ best c (by omega) lt st1 (by simp only [argBest, eb, Bool.false_eq_true, if_false]; exact hP) ho1 fun u h2 tk2 hu k2 => ?_⟩
      exact hR u h2 tk2 hu fun b o n1 n2 q => k2 b o n1 n2 (k1 b o n1 q)
end
section
variable {prog : Program} {w : World} {A : Around} {E : Value → Shared → Prop} {s : Shared}
theorem by_walk {x d : Value} {Q : Value → Shared → Prop}
    (h : wpAny (model prog w) A.in1 (pyIter x) (fun it s2 => ∃ I fp wr n P St bt, it = .ref I ∧ Walks prog w A.in1 I fp wr n P St ∧ St 0 s2.heap ∧ (∀ b ∈ fp, b < s2.heap.objs.size) ∧ CmpOf prog w A.in1 .Gt P bt ∧
      (0 < n → ∀ v h' tk, P (argBest bt (n - 1)) v → (∀ b o, b ∉ wr → s2.heap.get? b = some o → h'.get? b = some o) → Q v { s2 with heap := h', toks := tk }) ∧
      (n = 0 → ∀ h' tk, (∀ b o, b ∉ wr → s2.heap.get? b = some o → h'.get? b = some o) → Q d { s2 with heap := h', toks := tk })) E s) :
    wpAny (model prog w) A (call (.builtin "max") [x] [(Str.ofString "default", d)]) Q E s := by
  refine kmk_tree F.kind_max F.plain_max F.entry_max (args_dflt _ _) ?_
  show wpAny _ A.in1 (Builtin.Builtins.bindParams "max" ["key", "default"] 0 ⟨[], [(Str.ofString "default", d)]⟩ >>= _) _ _ s
  refine wpAny_bind (wpAny_of_eq (show Builtin.Builtins.bindParams "max" ["key", "default"] 0 ⟨[], [(Str.ofString "default", d)]⟩ = pure [none, some d] from rfl) ?_)
  refine wpAny_bind (wpAny_pure ?_)
  refine wpAny_bind (wpAny_mono h (fun it s2 h2 => ?_) fun _ _ e => e)
  obtain ⟨I, fp, wr, n, P, St, bt, rfl, W, st, hfp, cmp, hQ, hQ0⟩ := h2
  refine wpAny_bind (wpAny_newObj_type ?_)
  have hB : s2.heap.objs.size ∉ fp := fun z => Nat.lt_irrefl _ (hfp _ z)
  have hBw : s2.heap.objs.size ∉ wr := fun z => hB (W.sub _ z)
  rw [nm]
  refine wpAny_pure ⟨plainId_quiet F.plain_max_loop _, codeAny_builtin F.entry_max_loop ?_⟩
  rw [Around.under_plainId F.plain_max_loop _]
  have ho : (s2.heap.push { cls := .type "list", dict := none, data := .seq #[] 0, slots := #[] }).get? s2.heap.objs.size = some { cls := .type "list", dict := none, data := .seq #[] 0, slots := #[] } := Heap.get?_push_size _ rfl
  have st' := W.frame 0 _ (s2.heap.push { cls := .type "list", dict := none, data := .seq #[] 0, slots := #[] }) st fun b _ o e => Heap.get?_push_of_some _ e
  show wpAny _ A.in1 (seqItems? (.ref s2.heap.objs.size) >>= _) _ _ _
  refine wpAny_bind (wpAny_seqItems ho rfl ?_)
  show wpAny _ A.in1 (tryCatch (pyNext (.ref I)) _ >>= _) _ _ _
  by_cases hn : 0 < n
  · refine wpAny_bind (wpAny_tryCatch (W.item 0 _ _ _ hn st' fun v h1 tk hv st1 k1 => ?_))
    have ho1 := k1 _ _ hBw ho
    show wpAny _ A.in1 (updateSeq s2.heap.objs.size (fun _ => #[v, v]) >>= _) _ _ _
    refine wpAny_bind ?_
    refine wpAny_updateSeq ho1 rfl ?_
    rw [nm]
    refine wpAny_pure ⟨plainId_quiet F.plain_max_loop _, turns W bt cmp s2.heap.objs.size hB _ 0 _ v _ rfl hn (W.frame _ _ _ st1 fun b n1 o q => ?_) hv (Heap.get?_update_self _ ho1 rfl) fun u h2 tk2 hu k2 => ?_⟩
    · exact (Heap.get?_update_other _ _ (fun z => hB (by rw [z]; exact n1))).trans q
    · exact hQ hn u h2 tk2 hu fun b o n1 q => k2 b o n1 (Nat.ne_of_lt (Heap.lt_size q)) ((Heap.get?_update_other _ _ (Nat.ne_of_gt (Heap.lt_size q))).trans (k1 b o n1 (Heap.get?_push_of_some _ q)))
  · have e0 : n = 0 := by omega
    subst e0
    refine wpAny_bind (wpAny_tryCatch (W.done _ _ _ st' fun h1 tk k1 => ?_))
    show wpAny _ A.in1 (rule _ >>= _) _ _ _
    refine wpAny_bind (wpAny_rule (wpAny_pure ?_))
    exact hQ0 rfl h1 tk fun b o n1 q => k1 b o n1 (Heap.get?_push_of_some _ q)
end
end MX
set_option Elab.async false
set_option linter.all false
set_option maxRecDepth 100000
namespace L2
open PySem PySem.Spec PyProof.Rows
theorem ints_items {its : List Value} {ns : List Int} (hi : IntsAre its ns) : ∃ xs : Array (Int × Tok), its.toArray = intItems xs ∧ xs.toList.map (·.1) = ns := by
  obtain ⟨xs, e⟩ := hi.allInts.items
  refine ⟨xs, e, ?_⟩
  rw [← nums_intItems, ← e]
  exact hi.numsOf
section
variable {X : Cx}
theorem call_sum (hc : X.calm = true) : CallR X (.builtin "sum") (fun xs H Q => ∃ (p : Addr) (ns : List Int), xs = [.ref p] ∧ SqL X.K H p (ns.map V.int) ∧ Q (.int ns.sum) H) := by
  intro pins s σ H xs us Q I r h
  obtain ⟨p, ns, rfl, hq, q⟩ := h
  obtain ⟨u, rfl, rx⟩ := vals1 r
  cases rx
  obtain ⟨its, r', pl, hz⟩ := I.list hq
  obtain ⟨zs, e, e2⟩ := ints_items (intsAre_of r')
  have hl : s.heap.IsList p (intItems zs) := e ▸ pl.isList
  refine sum_intListG (I.ok.hd hc) hl fun h' tk t' k => ⟨.int ns.sum, H, I.kept k, ⟨t', ?_⟩, q⟩
  rw [preSum_eq, List.take_of_length_le (by simp), e2]
def great : List Int → Option Int
  | [] => none
  | n :: ns => some (ns.foldl max n)
theorem foldl_max_mem : ∀ (ns : List Int) (n : Int), ns.foldl max n ∈ n :: ns
  | [], n => by simp
  | m :: ns, n => by
    have := foldl_max_mem ns (max n m)
    simp only [List.foldl_cons]
    rcases List.mem_cons.mp this with e | h
    · rw [e]
      by_cases hm : n ≤ m
      · rw [Int.max_eq_right hm]; simp
      · rw [Int.max_eq_left (by omega)]; simp
    · exact List.mem_cons_of_mem _ (List.mem_cons_of_mem _ h)
theorem foldl_max_ge : ∀ (ns : List Int) (n : Int), ∀ a ∈ n :: ns, a ≤ ns.foldl max n
  | [], n, a, h => by simp at h; simp [h]
  | m :: ns, n, a, h => by
    simp only [List.foldl_cons]
    have g := foldl_max_ge ns (max n m)
    rcases List.mem_cons.mp h with rfl | h
    · exact Int.le_trans (Int.le_max_left ..) (g _ (List.mem_cons_self ..))
    · rcases List.mem_cons.mp h with rfl | h
      · exact Int.le_trans (Int.le_max_right ..) (g _ (List.mem_cons_self ..))
      · exact g a (List.mem_cons_of_mem _ h)
theorem great_of {ns : List Int} {M : Int} (h1 : M ∈ ns) (h2 : ∀ a ∈ ns, a ≤ M) : great ns = some M := by
  cases ns with
  | nil => cases h1
  | cons n ns =>
    have a := foldl_max_mem ns n
    have b := foldl_max_ge ns n M h1
    have c := h2 _ a
    show some (ns.foldl max n) = some M
    rw [show ns.foldl max n = M by omega]
def rMaxD (K : PySem.W.Frag) : List V → V → Hp → VK → Prop := fun xs d H Q => ∃ (p : Addr) (ns : List Int), xs = [.ref p] ∧ SqL K H p (ns.map V.int) ∧ Q (match great ns with | some m => .int m | none => d) H
theorem max_dflt (hc : X.calm = true) {pins : List (Addr × Obj)} {s : Shared} {σ : St} {H : Hp} {xs : List V} {us : List Value} {d : V} {dv : Value} {Q : VK} (I : Inv X pins σ H s) (r : Vals xs us) (rd : RelV d dv) (h : rMaxD X.K xs d H Q) :
    wpAny (model X.prog X.w) X.A (call (.builtin "max") us [(Str.ofString "default", dv)]) (EP X pins σ Q) X.xe s := by
  obtain ⟨p, ns, rfl, hq, q⟩ := h
  obtain ⟨u, rfl, rx⟩ := vals1 r
  cases rx
  obtain ⟨its, r', pl, hz⟩ := I.list hq
  obtain ⟨zs, e, e2⟩ := ints_items (intsAre_of r')
  have hl : s.heap.IsList p (intItems zs) := e ▸ pl.isList
  refine MX.by_walk (iter_intList hl fun s2 e3 st hfp hlI => ?_)
  subst e3
  refine ⟨_, _, _, _, _, _, _, rfl, Walks.list (A := X.A.in1) (I.ok.hd hc) _ p hlI (intItems zs), st, hfp, CmpOf.ints_gt (numAt zs) (fun _ _ => intItems_at), fun hn v h' tk hP hk => ?_, fun hn h' tk hk => ?_⟩
  · have hs : (intItems zs).size = zs.size := by simp [intItems]
    rw [hs] at hn hP
    obtain ⟨t, rfl⟩ := intItems_at hP
    obtain ⟨g1, g2⟩ := argBest_gt (numAt zs) (zs.size - 1)
    have hlen : ns.length = zs.size := by rw [← e2]; simp
    have hm : great ns = some (numAt zs (argBest (fun i j => decide (numAt zs i > numAt zs j)) (zs.size - 1))) := by
      have at_ : ∀ j, j < ns.length → ns.getD j 0 ∈ ns := fun j hj => by simp [List.getD_eq_getElem?_getD, List.getElem?_eq_getElem hj]
      refine great_of ?_ fun a ha => ?_
      · rw [numAt_eq, e2]
        exact at_ _ (by omega)
      · obtain ⟨j, hj, rfl⟩ := List.getElem_of_mem ha
        have := g2 j (by omega)
        rw [numAt_eq, e2] at this
        simpa [List.getD_eq_getElem?_getD, List.getElem?_eq_getElem hj] using this
    rw [hm] at q
    exact ⟨.int _, H, I.kept (old_kept hk), ⟨t, rfl⟩, q⟩
  · have hlen : ns = [] := by
      have : ns.length = 0 := by
        rw [← e2]
        simpa [intItems] using hn
      exact List.length_eq_zero_iff.mp this
    subst hlen
    exact ⟨d, H, I.kept (old_kept hk), rd, q⟩
def tMaxD (K : PySem.W.Frag) (t : TA) (td : TE) : TE := fun σ H Q => t σ H fun vs H1 => tCons td tNil σ H1 fun zs H2 => ∃ d, zs = [d] ∧ rMaxD K vs d H2 Q
theorem pe_maxD (hc : X.calm = true) {e d : Expr} {p kp pos : Pos} {t : TA} {td : TE} (hg : Gl X "max") (hm : X.mg "max" = none) (ha : PA X [e] t) (hd : PE X d td)
    (he : backTo pos (starEach [e] X.env) = (false, eval e X.env) :: backTo pos (starEach [] X.env) := by rfl) (hpl : (backTo pos (starEach [e] X.env)).any (·.1) = false := by rfl) :
    PE X (.Call (.Name "max" p) [e] [⟨some "default", d, kp⟩] pos) (tMaxD X.K t td) := by
  intro pins s σ H Q I h
  refine wpAny_Call_Name_kw (ld_blt I hg hm boot_max ?_ (by decide) (by decide))
  refine callWith_kw (thn (ha pos pins s σ H _ I h) fun us s1 ⟨vs, H1, I1, r1, q1⟩ => ?_) he hpl
  refine thn (pk_cons (nm := some "default") (kpos := kp) hd pk_nil pos pins s1 σ H1 _ I1 q1) fun ws s2 ⟨zs, H2, I2, rz, z, ez, q2⟩ => ?_
  subst ez
  obtain ⟨wv, rfl, rw1⟩ := vals1 rz
  exact max_dflt hc I2 r1 rw1 q2
end
end L2
set_option Elab.async false
set_option linter.all false
set_option maxRecDepth 100000
namespace L2
open PySem PySem.Spec PyProof.Rows
theorem ObjOk.obj {P : Program} {w : World} {H : Hp} {h : Heap} {a : Addr} {o : HO} (x : ObjOk P w H h a o) : ∃ ob, h.get? a = some ob := by
  cases o with
  | lst xs => obtain ⟨_, _, _, _, e⟩ := x; exact ⟨_, e⟩
  | tup xs => obtain ⟨_, _, _, ob, e, _⟩ := x; exact ⟨_, e⟩
  | dK kvs => obtain ⟨_, _, _, _, o, _, _, e, _⟩ := x; exact ⟨_, e⟩
  | dT kvs => obtain ⟨_, _, _, _, o, _, _, e, _⟩ := x; exact ⟨_, e⟩
  | set S n => obtain ⟨o, _, _, _, e, _⟩ := x; exact ⟨_, e⟩
  | ins C dx fs => obtain ⟨_, _, _, e, _⟩ := x; exact ⟨_, e⟩
  | own y => exact x
  | xd fs => obtain ⟨_, ⟨_, _, _, e, _⟩, _⟩ := x; exact ⟨_, e⟩
  | rng lo hi => obtain ⟨_, _, _, e⟩ := x; exact ⟨_, e⟩
  | frz ob u => obtain ⟨e, _⟩ := x; exact ⟨_, e⟩
  | tbl ps => exact ⟨_, show h.get? a = some _ from x⟩
  | met f y => exact ⟨_, show h.get? a = some _ from x⟩
  | ext φ => exact x.2.1
structure Bk (fs : List Addr) (H H' : Hp) (h B : Heap) : Prop where
  bk : ∀ b o, h.get? b = some o → b ∉ fs → H b = none → B.get? b = some o
  ba : ∀ b o, h.get? b = some o → b ∉ fs → ∃ ob, B.get? b = some ob
  bt : ∀ b o, H' b = some o → ∃ ob, B.get? b = some ob
theorem Bk.on {P : Program} {w : World} {fs : List Addr} {H H' : Hp} {h h' h2 B : Heap} (k : Bk fs H H' h B) (u : Un fs [] H H' h h') (hok : HOk P w H' h') (st : B.StaysIn h') (st2 : B.StaysIn h2) (sl : h'.UpToSlots h2)
    (nf : ∀ b ∈ fs, ∀ o, h.get? b = some o → ∀ vs, o.data ≠ .fields vs) (ff : ∀ b ∈ fs, H b = none) : Un fs [] H H' h h2 ∧ HOk P w H' h2 := by
  have slot : ∀ b o, h.get? b = some o → H b = none → b ∈ fs → ∃ s, h2.get? b = some { o with slots := s } := fun b o e n hb => by
    obtain ⟨s1, e1⟩ := u.slot b o e n hb (by simp)
    obtain ⟨s2, e2⟩ := sl b _ e1 (nf b hb o e)
    exact ⟨s2, e2⟩
  refine ⟨⟨fun b o e n hb _ => st2 _ _ (k.bk b o e hb n), fun b o e n hb _ => slot b o e n hb, u.free, fun b o e _ => ?_, u.tups, u.frzs, u.tbls⟩, fun a o e => (hok a o e).stay (fun b v hb q => ?_) (fun _ q => q) fun _ _ q => q⟩
  · by_cases hb : b ∈ fs
    · obtain ⟨s, q⟩ := slot b o e (ff b hb) hb
      exact ⟨_, q⟩
    · obtain ⟨ob, q⟩ := k.ba b o e hb
      exact ⟨ob, st2 _ _ q⟩
  · have tr : ∃ z, H' b = some z := by
      rcases hb with z | z
      · exact ⟨o, z ▸ e⟩
      · exact ⟨_, z⟩
    obtain ⟨z, hz⟩ := tr
    obtain ⟨ob, q1⟩ := k.bt b z hz
    have q2 := st _ _ q1
    rw [q] at q2
    cases q2
    exact st2 _ _ q1
structure Fly (P : Program) (w : World) (outer : List Env) (H : Hp) (s : Shared) (ea : Addr) (C : Value) (H' : Hp) (s' : Shared) : Prop where
  os : s'.os = s.os
  bare : AllBare s'.gens
  un : Un (frs outer) [] H H' s.heap s'.heap
  hok : HOk P w H' s'.heap
  fl : ∃ t B, Heap.FlyingW B outer ea C (.ref t) s'.heap ∧ Bk (frs outer) H H' s.heap B
def CX1 (P : Program) (w : World) : CXT := fun outer H s E e s' => ∃ ea C H', e = .ref ea ∧ Fly P w outer H s ea C H' s' ∧ E C none H'
structure Cx.Own (X : Cx) : Prop where
  stk : X.stack = X.env :: X.outer
  frm : X.env.frame = some X.env.locals
  ex : X.ex = []
section
variable {X : Cx} {pins : List (Addr × Obj)} {σ : St} {H H' : Hp} {s s' : Shared} {ea : Addr} {C : Value} {M : Model}
theorem Inv.notFrame (I : Inv X pins σ H s) {b : Addr} {o : Obj} (e : X.s₀.heap.get? b = some o) (nb : b ∉ X.fs) : b ∉ frs X.stack := fun hb => by
  rcases List.mem_cons.mp (I.stkSub b hb) with z | z
  · exact absurd (Nat.lt_of_lt_of_le (Heap.lt_size e) (z ▸ I.ok.above)) (Nat.lt_irrefl _)
  · exact nb z
theorem Inv.nfO (I : Inv X pins σ H s) : ∀ b ∈ X.fs, ∀ o, X.s₀.heap.get? b = some o → ∀ vs, o.data ≠ .fields vs := fun b hb o e => by
  obtain ⟨_, o', e', n⟩ := I.ok.funs.mem hb
  rw [e] at e'
  cases e'
  exact n
theorem Inv.nfS (I : Inv X pins σ H s) : ∀ b ∈ frs X.stack, ∀ o, s.heap.get? b = some o → ∀ vs, o.data ≠ .fields vs := fun b hb o e => by
  obtain ⟨_, o', e', n⟩ := I.stack.mem hb
  rw [e] at e'
  cases e'
  exact n
theorem Inv.raises {h' : Heap} {vs : List Value} {Q : Unit → Shared → Prop} {E : Value → Shared → Prop} (I : Inv X pins σ H s) (O : X.Own) (hm : Heap.MadeExcOf s.heap h' ea C vs)
    (hQ : ∀ h2, Fly X.prog X.w X.outer X.H₀ X.s₀ ea C H { s with heap := h2 } → Q () { s with heap := h2 }) : wpAny M X.A (leaving X.env (.ref ea)) Q E { s with heap := h' } := by
  have hin : ∀ env ∈ X.env :: X.outer, ∀ b, env.frame = some b → b ∈ frs (X.env :: X.outer) := fun env he b hb => List.mem_filterMap.mpr ⟨env, he, hb⟩
  have hst : s.heap.FunFrames X.base (X.env :: X.outer) := O.stk ▸ I.stack
  have nF : ∀ b o, X.s₀.heap.get? b = some o → b ∉ X.fs → b ∉ frs (X.env :: X.outer) := fun b o e nb => O.stk ▸ I.notFrame e nb
  refine wpAny_leaves_madeW (base := PySem.W.hideAll s.heap (frs (X.env :: X.outer))) (h := s.heap) (by rw [I.ok.frames, O.stk]) O.frm (fun b o q => PySem.W.of_hideAll _ q) (PySem.W.funFrames_hide hst hin) hm fun h2 t x1 _ _ x4 => hQ h2 ?_
  have k : Bk (frs X.outer) X.H₀ H X.s₀.heap (PySem.W.hideAll s.heap (frs (X.env :: X.outer))) := by
    refine ⟨fun b o e nb n => ?_, fun b o e nb => ?_, fun b o e => ?_⟩
    · exact PySem.W.hideAll_get _ (I.base.keep b o e n nb (by rw [O.ex]; simp)) (nF b o e nb)
    · obtain ⟨o', e'⟩ := I.base.there b o e (by rw [O.ex]; simp)
      exact ⟨o', PySem.W.hideAll_get _ e' (nF b o e nb)⟩
    · obtain ⟨ob, e'⟩ := (I.hok b o e).obj
      refine ⟨ob, PySem.W.hideAll_get _ e' fun hb => ?_⟩
      rw [I.stkFree b (by rw [O.stk]; exact hb)] at e
      cases e
  have ub : Un (frs X.outer) [] X.H₀ H X.s₀.heap s.heap := by
    have := I.base
    rw [O.ex] at this
    exact this
  obtain ⟨u, hk⟩ := k.on ub I.hok (fun b o q => PySem.W.of_hideAll _ q) x1.1 ((Heap.UpToSlots.of_keeps hm.keeps).trans x4) I.nfO I.ok.frf
  exact ⟨I.os, I.bare, u, hk, t, _, x1, k⟩
theorem Inv.passes {Q : Unit → Shared → Prop} {E : Value → Shared → Prop} (I : Inv X pins σ H s) (O : X.Own) (f : Fly X.prog X.w X.stack H s ea C H' s')
    (hQ : ∀ h2, Fly X.prog X.w X.outer X.H₀ X.s₀ ea C H' { s' with heap := h2 } → Q () { s' with heap := h2 }) : wpAny M X.A (leaving X.env (.ref ea)) Q E s' := by
  obtain ⟨t, B, fl, k⟩ := f.fl
  have I' : Inv X pins σ H' s' := I.call' (ch := []) f.os f.un f.hok f.bare (fun _ z => nomatch z)
  rw [O.stk] at fl
  refine wpAny_leaves_onW (by rw [I.ok.frames, O.stk]) O.frm fl fun h2 x1 x2 => hQ h2 ?_
  have k2 : Bk (frs X.outer) X.H₀ H' X.s₀.heap B := by
    refine ⟨fun b o e nb n => ?_, fun b o e nb => ?_, k.bt⟩
    · exact k.bk b o (I.base.keep b o e n nb (by rw [O.ex]; simp)) (I.notFrame e nb) (I.base.free b o e n (by rw [O.ex]; simp))
    · obtain ⟨o', e'⟩ := I.base.there b o e (by rw [O.ex]; simp)
      exact k.ba b o' e' (I.notFrame e nb)
  have ub : Un (frs X.outer) [] X.H₀ H' X.s₀.heap s'.heap := by
    have := I'.base
    rw [O.ex] at this
    exact this
  obtain ⟨u, hk⟩ := k2.on ub f.hok fl.1 x1.1 x2 I.nfO I.ok.frf
  exact ⟨I'.os, f.bare, u, hk, t, B, x1, k2⟩
theorem Inv.landed (I : Inv X pins σ H s) (f : Fly X.prog X.w X.stack H s ea C H' s') {B h2 : Heap} (k : Bk (frs X.stack) H H' s.heap B) (st : B.StaysIn s'.heap) (st2 : B.StaysIn h2) (sl : s'.heap.UpToSlots h2) (tk : Nat) :
    Inv X pins σ H' { s' with heap := h2, toks := tk } := by
  obtain ⟨u, hk⟩ := k.on f.un f.hok st st2 sl I.nfS I.stkFree
  exact I.call' (s' := { s' with heap := h2, toks := tk }) (ch := []) f.os u hk f.bare (fun _ z => nomatch z)
end
abbrev Cx.suite (X : Cx) (e : Value) : Cx := { X with A := X.A.mark (some e), calm := false, xe := fun _ _ => False }
abbrev Cx.tryc (X : Cx) (pn : List (Addr × Obj)) (E : Value → Shared → Prop) : Cx := { X with pn := pn, xe := E }
theorem Cx.Ok.suite {X : Cx} (ok : X.Ok) (e : Value) : (X.suite e).Ok :=
  ⟨ok.mod, ok.kind, ok.glob, ok.blt, ok.above, ok.inj, ok.has, ok.cab, (fun z => nomatch z), ok.frames, ok.stk, ok.exf, ok.bs, ok.bsz, ok.noex, ok.exfs, ok.funs, ok.frf⟩
theorem Cx.Ok.tryc {X : Cx} (ok : X.Ok) (pn : List (Addr × Obj)) (E : Value → Shared → Prop) : (X.tryc pn E).Ok :=
  ⟨ok.mod, ok.kind, ok.glob, ok.blt, ok.above, ok.inj, ok.has, ok.cab, ok.hd, ok.frames, ok.stk, ok.exf, ok.bs, ok.bsz, ok.noex, ok.exfs, ok.funs, ok.frf⟩
section
variable {X : Cx} {pins : List (Addr × Obj)} {σ : St} {H H' : Hp} {s s' : Shared} {e : Value} {E : Value → Shared → Prop}
theorem Inv.suite (I : Inv X pins σ H s) (e : Value) : Inv (X.suite e) pins σ H s := ⟨I.ok.suite e, I.os, I.bare, I.base, I.loc, I.cell, I.free, I.freeC, I.pin, I.hok, I.len⟩
theorem Inv.unsuite (I : Inv (X.suite e) pins σ H s) (ok : X.Ok) : Inv X pins σ H s := ⟨ok, I.os, I.bare, I.base, I.loc, I.cell, I.free, I.freeC, I.pin, I.hok, I.len⟩
theorem Inv.tryc (I : Inv X pins σ H s) (E : Value → Shared → Prop) : Inv (X.tryc (X.pn ++ pins) E) [] σ H s :=
  ⟨I.ok.tryc _ E, I.os, I.bare, I.base, I.loc, I.cell, I.free, I.freeC, (by have := I.pin; simpa using this), I.hok, I.len⟩
theorem Inv.untryc {pins' : List (Addr × Obj)} (I : Inv (X.tryc (X.pn ++ pins) E) pins' σ H s) (ok : X.Ok) : Inv X pins σ H s :=
  ⟨ok, I.os, I.bare, I.base, I.loc, I.cell, I.free, I.freeC, (fun p hp => I.pin p (List.mem_append_left _ hp)), I.hok, I.len⟩
theorem SP.unsuite {D : Ends} {f : Flow} (ok : X.Ok) (h : SP (X.suite e) pins D f s) : SP X pins D f s := by
  cases f with
  | next => obtain ⟨σ', H', I, q⟩ := h; exact ⟨σ', H', I.unsuite ok, q⟩
  | brk => obtain ⟨σ', H', I, q⟩ := h; exact ⟨σ', H', I.unsuite ok, q⟩
  | cont => obtain ⟨σ', H', I, q⟩ := h; exact ⟨σ', H', I.unsuite ok, q⟩
  | ret u => obtain ⟨v, σ', H', I, q⟩ := h; exact ⟨v, σ', H', I.unsuite ok, q⟩
end
section
variable {P : Program} {w : World} {K : PySem.W.Frag} {mg : Str → Option Value} {base : Heap}
theorem Fun.okX {x qual : Str} {st : Stmt} {f : Addr} {fd : FuncData} {N ps : List Str} {k : Nat} {sp : Sp} (F : Fun K x qual st f fd) (S : FnScope N ps (defScope st)) (len : ∀ vs H Q E, sp vs H Q E → vs.length = ps.length)
    (hbody : ∀ (cdv : Value) (A : Around) (outer : List Env) (s : Shared) (H : Hp) (vs : List V) (Q : VK) (E : XK), Room k (A.deeper (envOfC qual (defScope st) s.heap.objs.size f cdv)) → sp vs H Q E →
      ∃ t, PSs (cxOf (CX1 P w) P w K mg base N qual (defScope st) f cdv A outer s H E) (defBody st) t ∧ t { nx := fun _ H' => Q .non H', rt := Q } (start N vs) H) : FnOk P w K mg base (CX1 P w) (k + 1) f fd ps sp := by
  obtain ⟨oc, od, kV, doc, pm, an, cdv, ct, osl, rfl, lk, hcd⟩ := F.ex
  exact fn_of lk hcd S len fun A outer s H vs Q E hr hsp => hbody cdv A outer s H vs Q E hr hsp
end
def PassT (CX : CXT) (X : Cx) (E : St → XK) : Prop := ∀ (pins : List (Addr × Obj)) (σ : St) (H : Hp) (s : Shared) (e : Value) (s' : Shared), Inv X pins σ H s → CX X.stack H s (E σ) e s' → X.xe e s'
def RaisT (X : Cx) (E : St → XK) : Prop := ∀ (pins : List (Addr × Obj)) (σ : St) (H : Hp) (s : Shared) (h' : Heap) (ea : Addr) (C : Value) (vs : List Value), Inv X pins σ H s → Heap.MadeExcOf s.heap h' ea C vs → E σ C none H → X.xe (.ref ea) { s with heap := h' }
section
variable {P : Program} {w : World} {K : PySem.W.Frag} {mg : Str → Option Value} {base : Heap} {N : List Str} {qual : Str} {scope : Scope} {f : Addr} {cd : Value} {A : Around} {outer : List Env} {s : Shared} {H : Hp} {E : XK}
theorem own_cx : (cxOf (CX1 P w) P w K mg base N qual scope f cd A outer s H E).Own := ⟨rfl, rfl, rfl⟩
theorem pass_cx : PassT (CX1 P w) (cxOf (CX1 P w) P w K mg base N qual scope f cd A outer s H E) (fun _ => E) := fun pins σ H1 s1 e s' I hc => by
  obtain ⟨ea, C, H', rfl, fl, q⟩ := hc
  exact Inv.passes I own_cx fl fun h2 fl2 => ⟨ea, C, H', rfl, fl2, q⟩
theorem rais_cx : RaisT (cxOf (CX1 P w) P w K mg base N qual scope f cd A outer s H E) (fun _ => E) := fun pins σ H1 s1 h' ea C vs I hm q =>
  Inv.raises I own_cx hm fun h2 fl2 => ⟨ea, C, H1, rfl, fl2, q⟩
end
end L2
set_option Elab.async false
set_option linter.all false
set_option maxRecDepth 100000
namespace L2
open PySem PySem.Spec PyProof.Rows
def tCallT (sp : Sp) (dvs : List V) (E : St → XK) (t : TA) : TE := fun σ H Q => t σ H fun vs H1 => sp (vs ++ dvs) H1 Q (E σ)
section
variable {X : Cx} {CX : CXT} {k : Nat} {f C : Addr} {fd : FuncData} {ps : List Str} {sp : Sp} {dvs : List V} {ds : List Value} {E : St → XK} {x m : Str} {p pos apos : Pos} {e o : Expr} {es : List Expr} {ta : TE} {t : TA}
theorem run_fnT {pins : List (Addr × Obj)} {σ : St} {H : Hp} {s : Shared} {Q : VK} {us : List Value} {vs : List V} (F : FnOk X.prog X.w X.K X.mg X.base CX k f fd ps sp) (hr : Room k X.A) (hb : Binds X.K fd ps ds) (hd : Vals dvs ds) (hx : PassT CX X E)
    (I : Inv X pins σ H s) (r : Vals vs us) (h : sp (vs ++ dvs) H Q (E σ)) : wpAny (model X.prog X.w) X.A (call (.ref f) us) (EP X pins σ Q) X.xe s := by
  have r2 : Vals (vs ++ dvs) (us ++ ds) := r.append hd
  have hl : (us ++ ds).length = ps.length := by rw [← r2.length]; exact F.len _ _ _ _ h
  refine wpAny_call (codeAny_mono (F.run X.A X.stack s H ⟨us, []⟩ (us ++ ds) (vs ++ dvs) Q (E σ) hr I.env0 (hb s us I.kIn hl) r2 h) fun r s' hq => ?_)
  cases r with
  | error e => exact hx pins σ H s e s' I hq
  | ok fl =>
    cases fl with
    | ret u => exact I.after hq
    | next => exact False.elim hq
    | brk => exact False.elim hq
    | cont => exact False.elim hq
theorem pe_callT (F : FnOk X.prog X.w X.K X.mg X.base CX k f fd ps sp) (hr : Room k X.A) (hg : Gl X x) (hm : X.mg x = some (.ref f)) (hk : PySem.W.keepIn X.K (.ref f) = true) (hb : Binds X.K fd ps ds) (hd : Vals dvs ds) (hx : PassT CX X E)
    (ha : PA X (e :: es) t) (hdb : (x == ("__debug__" : Str)) = false := by decide) (he : starEach (e :: es) X.env = (false, eval e X.env) :: starEach es X.env := by rfl) (hpl : (backTo pos (starEach es X.env)).any (·.1) = false := by rfl) :
    PE X (.Call (.Name x p) (e :: es) [] pos) (tCallT sp dvs E t) := by
  intro pins s σ H Q I h
  refine wpAny_Call_Name_kw (ld_glob I hg hm ?_ hdb)
  refine PySem.W.callWith_K (h₀ := X.base) I.ok.mod.kin hk (thn (ha pos pins s σ H _ I h) fun us s1 ⟨vs, H1, I1, r, q⟩ => ⟨I1.kIn, ?_⟩) he hpl
  exact run_fnT F hr hb hd hx I1 r q
end
theorem exc_obj {K : PySem.W.Frag} {h : Heap} {C : Addr} {bmB : List Value} {newId : String} (X : K.In h) (q : PySem.W.excIn K C bmB newId = true) :
    ∃ bm N nm qn bs hdct sn sub ab col dd k0 k1 k2 k3 k5 mN, h.get? C = some (excClassObj nm qn C N bs bm hdct sn sub ab col dd k0 k1 k2 k3 k5 newId) ∧ h.Ns N mN ∧ mN "__init__" = none ∧ OwnTail h bmB bm := by
  unfold PySem.W.excIn at q
  split at q
  · rename_i dd cd sl ho
    split at q
    · rename_i C' bm k0 k1 k2 k3 n k5 hm hs
      simp only [Bool.and_eq_true, beq_iff_eq, Bool.not_eq_true'] at q
      obtain ⟨⟨⟨⟨⟨rfl, rfl⟩, hdel⟩, ht⟩, hok⟩, hni⟩ := q
      obtain ⟨nm, bs, mro, ns, qn, hd, sn, sub, ab, col, del⟩ := cd
      dsimp only at hm hdel hok hni
      subst hm hdel
      have hsl : sl = #[k0, k1, k2, k3, some (.builtin n), k5] := by
        obtain ⟨l⟩ := sl
        simp only at hs
        rw [hs]
      subst hsl
      exact ⟨bm, ns, nm, qn, bs, hd, sn, sub, ab, col, dd, k0, k1, k2, k3, k5, _, X _ _ ho, .of_isNs (PySem.W.isNs_of_in X hok), PySem.W.nsMap_none_of_in X hok hni, PySem.W.tail_of_in X ht⟩
    · cases q
  · cases q
abbrev mroVE : List Value := [.type "ValueError", .type "Exception", .type "BaseException", .type "object"]
abbrev ExcC (K : PySem.W.Frag) (C : Addr) : Prop := PySem.W.excIn K C mroVE "ValueError.__new__" = true
def tRaise (C : Addr) (E : St → XK) (t : TA) : TS := fun _ σ H => t σ H fun vs H1 => vs.length ≤ sizeLine ∧ E σ (.ref C) none H1
theorem ps_raise {X : Cx} {E : St → XK} {C : Addr} {x : Str} {np cpos pos : Pos} {e₀ : Expr} {rest : List Expr} {t : TA} (hE : RaisT X E) (hg : Gl X x) (hm : X.mg x = some (.ref C)) (q : ExcC X.K C) (hc : X.calm = true) (ha : PA X (e₀ :: rest) t)
    (hd : (x == ("__debug__" : Str)) = false := by decide) (he : starEach (e₀ :: rest) X.env = (false, eval e₀ X.env) :: starEach rest X.env := by rfl) (hpl : (backTo cpos (starEach rest X.env)).any (·.1) = false := by rfl) :
    PS X (.Raise (some (.Call (.Name x np) (e₀ :: rest) [] cpos)) none pos) (tRaise C E t) := by
  intro pins s σ H D I h
  obtain ⟨bm, N, nm, qn, bs, hdct, sn, sub, ab, col, dd, k0, k1, k2, k3, k5, mN, hC, hN, hni, T⟩ := exc_obj I.mod.kin q
  refine wpAny_Raise_call_subT (C := C) (nm := nm) (q := qn) (N := N) (bs := bs) (bm := bm) (hdct := hdct) (sn := sn) (sub := sub) (ab := ab) (col := col) (dd := dd) (k0 := k0) (k1 := k1) (k2 := k2) (k3 := k3) (k5 := k5)
    PySem.F.excBase_ValueError (mN := mN) (T.hasType PySem.F.excBase_ValueError.hasBase) (I.ok.hd hc) (by rw [he]; show (false || (backTo cpos (starEach rest X.env)).any (·.1)) = false; rw [hpl]; rfl) hni (ld_glob I hg hm ⟨rfl, ?_⟩ hd)
  have h2 := ha cpos pins s σ H _ I h
  rw [he] at h2 ⊢
  exact Calls.evalArgs_plain (thn h2 fun us s2 ⟨vs, H1, I1, r, hl, q⟩ =>
    ⟨rfl, (by rw [← r.length]; exact hl), I1.bk _ _ hC, hN.keeps I1.bk, T.keeps I1.bk, fun h' e hm => hE pins σ H1 s2 h' e _ us I1 hm q⟩)
def ExcIs (a : Addr) (C : Value) (h : Heap) : Prop := ∃ ob, h.get? a = some ob ∧ ob.cls = C
theorem excIs_ok {P : Program} {w : World} {H : Hp} {h : Heap} {a : Addr} {C : Value} (e : ExcIs a C h) : ObjOk P w H h a (.ext (ExcIs a C)) :=
  ⟨e, let ⟨ob, q, _⟩ := e; ⟨ob, q⟩, fun h1 h2 ⟨ob, q, c⟩ k => ⟨ob, k ob q, c⟩⟩
theorem Inv.track {X : Cx} {pins : List (Addr × Obj)} {σ : St} {H : Hp} {s : Shared} {a : Addr} {o : HO} (I : Inv X pins σ H s) (hn : H a = none) (hb : ∀ o, X.s₀.heap.get? a = some o → a ∈ X.ex) (hL : a ≠ X.env.locals)
    (hc : ∀ x c, X.env.cells.lookup x = some c → c ≠ a) (hp : ∀ p ∈ X.pn ++ pins, p.1 ≠ a) (ok : ObjOk X.prog X.w (upd H a o) s.heap a o) : Inv X pins σ (upd H a o) s := by
  have ne : ∀ b u, H b = some u → b ≠ a := fun b u e => ne_of_none e hn
  refine ⟨I.ok, I.os, I.bare, ⟨I.base.keep, I.base.slot, fun b o' e n hx => ?_, I.base.there, fun b xs e => ?_, fun b o' u e => ?_, fun b ps e => ?_⟩, I.loc, I.cell, ?_, fun x c e => ?_, fun p hp' => ?_, fun b u e => ?_, I.len⟩
  · have nb : b ≠ a := fun z => by
      subst z
      exact hx (hb o' e)
    rw [upd_ne nb]
    exact I.base.free b o' e n hx
  · have := I.base.tups b xs e
    rw [upd_ne (ne b _ this)]; exact this
  · have := I.base.frzs b o' u e
    rw [upd_ne (ne b _ this)]; exact this
  · obtain ⟨more, this⟩ := I.base.tbls b ps e
    exact ⟨more, by rw [upd_ne (ne b _ this)]; exact this⟩
  · rw [upd_ne (Ne.symm hL)]; exact I.free
  · rw [upd_ne (hc x c e)]; exact I.freeC x c e
  · obtain ⟨h1, h2, h3⟩ := I.pin p hp'
    exact ⟨h1, by rw [upd_ne (hp p hp')]; exact h2, h3⟩
  · by_cases z : b = a
    · subst z
      rw [upd_same] at e
      cases e
      exact ok
    · rw [upd_ne z] at e
      exact (I.hok b u e).stay (fun _ _ _ q => q) (fun c q => by rw [upd_ne (ne c _ q)]; exact q) fun c xs q => by rw [upd_ne (ne c _ q)]; exact q
section
variable {X : Cx} {pins : List (Addr × Obj)} {σ : St} {H H' : Hp} {s s' : Shared} {ea : Addr} {C c : Value}
theorem handle_test {x : Str} {np : Pos} {R : Result → Shared → Prop} {pos : Pos} {b : Bool} {s : Shared} {e : Value} (I : Inv (X.suite e) pins σ H s) (hcl : ExcIs ea C s.heap)
    (hn : PE (X.suite e) (.Name x np) (tC (.ref ea)) ∨ True) (ld : ∀ (Q : Value → Shared → Prop) (E : Value → Shared → Prop), Q c s → wpAny (model X.prog X.w) (X.A.mark (some e)) (eval (.Name x np) X.env) Q E s)
    (hx : PySem.W.exmOne X.K C c = some b) (h : R (.ok (if b then .brk else .next)) s) : codeAny (model X.prog X.w) (X.A.mark (some e)) (.handlers (.ref ea) [.ExceptHandler (some (.Name x np)) none [] pos] X.env) R s := by
  refine codeAny_handlers_test (ld _ _ ?_)
  obtain ⟨ob, hob, hc⟩ := hcl
  have LT : PySem.W.Looks (model X.prog X.w) s.heap (typeOf (.ref ea)) C := by
    subst hc
    exact (PySem.W.Looks.ld hob).andThen .now
  exact (PySem.W.exm_one I.kIn LT hx).here h
end
end L2
set_option Elab.async false
set_option linter.all false
set_option maxRecDepth 100000
namespace L2
open PySem PySem.Spec PyProof.Rows
section
variable {X : Cx} {pins : List (Addr × Obj)} {σ : St} {H : Hp} {s : Shared} {M : Model} {A : Around} {E : Value → Shared → Prop}
theorem Inv.nameGoes {i : Nat} {n : Str} {pos : Pos} {Q : Unit → Shared → Prop} (I : Inv X pins σ H s) (hN : X.N.Nodup) (hi : X.N[i]? = some n) (hk : X.env.scope.names.lookup n = some .local)
    (h : ∀ s', Inv X pins (σ.set i none) H s' → Q () s') : wpAny M A (do bindName X.env n .none; unbindBehindTheSuite X.env n pos) Q E s := by
  obtain ⟨m, hn, hl⟩ := id I.loc
  have hcls : (X.env.scope.kind == .class || (X.env.scope.kind == .module && X.env.locals != X.env.globals)) = false := by
    rw [I.ok.kind]
    rfl
  have hiσ : i < σ.length := by
    rw [I.len]
    exact (List.getElem?_eq_some_iff.mp hi).1
  refine wpAny_nameGoes_keeps hk hn hcls fun h' v hn' hs => h _ ?_
  have low : ∀ b o, X.s₀.heap.get? b = some o → b ≠ X.env.locals := fun b o e => Nat.ne_of_lt (Nat.lt_of_lt_of_le (Heap.lt_size e) I.ok.above)
  refine ⟨I.ok, I.os, I.bare, ⟨fun b o e n hb hx => (hs.2 b (low b o e)).trans (I.base.keep b o e n hb hx), fun b o e n hb hx => ?_, I.base.free, fun b o e hx => ?_, I.base.tups, I.base.frzs, I.base.tbls⟩, ⟨_, hn', fun j y v' e1 e2 e3 => ?_⟩, fun y c e => ?_, I.free, I.freeC, fun p hp => ?_, fun b ob e => ?_, by simpa using I.len⟩
  · obtain ⟨sl, q⟩ := I.base.slot b o e n hb hx
    exact ⟨sl, (hs.2 b (low b o e)).trans q⟩
  · obtain ⟨o', q⟩ := I.base.there b o e hx
    exact ⟨o', (hs.2 b (low b o e)).trans q⟩
  · by_cases hj : j = i
    · subst hj
      rw [List.getElem?_set_self hiσ] at e2
      cases e2
    · rw [List.getElem?_set_ne (Ne.symm hj)] at e2
      obtain ⟨u, r, q⟩ := hl j y v' e1 e2 e3
      refine ⟨u, r, ?_⟩
      rcases q with ⟨k, e⟩ | ⟨k, c, e, z⟩
      · refine .inl ⟨k, ?_⟩
        have ny : y ≠ n := fun e => hj (nodup_ix hN e1 (e ▸ hi))
        show (if y = n then v else m y) = some u
        rw [if_neg ny]
        exact e
      · exact .inr ⟨k, c, e, z.sameBut hs (I.cne y c e)⟩
  · obtain ⟨w', z⟩ := I.cell y c e
    exact ⟨w', z.sameBut hs (I.cne y c e)⟩
  · obtain ⟨e, n, ne, nf, d⟩ := I.pin p hp
    exact ⟨(hs.2 p.1 ne).trans e, n, ne, nf, d⟩
  · refine (I.hok b ob e).stay (fun c w' hc q => (hs.2 c ?_).trans q) (fun _ q => q) fun _ _ q => q
    rintro rfl
    rcases hc with hc | hc
    · rw [← hc, I.free] at e
      cases e
    · rw [I.free] at hc
      cases hc
end
def unb (i : Nat) (D : Ends) : Ends := { nx := fun σ H => D.nx (σ.set i none) H, rt := D.rt, bk := fun σ H => D.bk (σ.set i none) H, ct := fun σ H => D.ct (σ.set i none) H }
structure Hd where
  c : Value
  nm : Option Nat
  t : TS
def Hd.run (h : Hd) (C : Value) (D : Ends) (σ : St) (H : Hp) : Prop := match h.nm with
  | none => h.t D σ H
  | some i => ∀ ea, H ea = none → h.t (unb i D) (σ.set i (some (.ref ea))) (upd H ea (.ext (ExcIs ea C)))
def tHds (K : PySem.W.Frag) : List Hd → Value → Ends → St → Hp → Prop
  | [], _, _, _, _ => False
  | h :: r, C, D, σ, H => (PySem.W.exmOne K C h.c = some true ∧ h.run C D σ H) ∨ (PySem.W.exmOne K C h.c = some false ∧ tHds K r C D σ H)
def tTry (K : PySem.W.Frag) (tb : (St → XK) → TS) (te : TS) (hs : List Hd) : TS := fun D σ H => tb (fun σ1 C _ H1 => tHds K hs C D σ1 H1) { D with nx := te D } σ H
def ClsName (X : Cx) (x : Str) (c : Value) : Prop := Gl X x ∧ (x == ("__debug__" : Str)) = false ∧ (X.mg x = some c ∨ (X.mg x = none ∧ bootBuiltins x = some c ∧ x ≠ "__name__"))
inductive Hds (X : Cx) : List ExceptHandler → List Hd → Prop
  | nil : Hds X [] []
  | bare {x : Str} {np pos : Pos} {b₀ : Stmt} {suite : List Stmt} {rest : List ExceptHandler} {c : Value} {t : TS} {r : List Hd} (hc : ClsName X x c) (hs : ∀ e, PSs (X.suite e) (b₀ :: suite) t) (more : Hds X rest r) :
      Hds X (.ExceptHandler (some (.Name x np)) none (b₀ :: suite) pos :: rest) (⟨c, none, t⟩ :: r)
  | named {x n : Str} {np pos : Pos} {b₀ : Stmt} {suite : List Stmt} {rest : List ExceptHandler} {c : Value} {t : TS} {r : List Hd} {i : Nat} (hc : ClsName X x c) (hN : X.N.Nodup) (hi : X.N[i]? = some n) (hk : X.env.scope.names.lookup n = some .local)
      (hs : ∀ e, PSs (X.suite e) (b₀ :: suite) t) (more : Hds X rest r) : Hds X (.ExceptHandler (some (.Name x np)) (some n) (b₀ :: suite) pos :: rest) (⟨c, some i, t⟩ :: r)
section
variable {X : Cx} {pins : List (Addr × Obj)} {σ : St} {H H' : Hp} {s s' : Shared} {ea : Addr} {C : Value}
theorem suite_load {x : Str} {np : Pos} {c e : Value} {Q : Value → Shared → Prop} {E : Value → Shared → Prop} (I : Inv (X.suite e) pins σ H s) (hc : ClsName X x c) (h : Q c s) :
    wpAny (model X.prog X.w) (X.A.mark (some e)) (eval (.Name x np) X.env) Q E s := by
  obtain ⟨hg, hd, q | ⟨q1, q2, q3⟩⟩ := hc
  · exact ld_glob (X := X.suite e) I hg q h hd
  · exact ld_blt (X := X.suite e) I hg q1 q2 h q3 hd
theorem unb_sp {i : Nat} {n : Str} {pos : Pos} {D : Ends} {f : Flow} {E : Value → Shared → Prop} (ok : X.Ok) (hN : X.N.Nodup) (hi : X.N[i]? = some n) (hk : X.env.scope.names.lookup n = some .local) (h : SP X pins (unb i D) f s) :
    wpAny (model X.prog X.w) X.A (do bindName X.env n .none; unbindBehindTheSuite X.env n pos) (fun _ s5 => SP X pins D f s5) E s := by
  cases f with
  | next => obtain ⟨σ', H', I, q⟩ := h; exact I.nameGoes hN hi hk fun s' I' => ⟨_, _, I', q⟩
  | brk => obtain ⟨σ', H', I, q⟩ := h; exact I.nameGoes hN hi hk fun s' I' => ⟨_, _, I', q⟩
  | cont => obtain ⟨σ', H', I, q⟩ := h; exact I.nameGoes hN hi hk fun s' I' => ⟨_, _, I', q⟩
  | ret u => obtain ⟨v, σ', H', I, q⟩ := h; exact I.nameGoes hN hi hk fun s' I' => ⟨v, _, _, I', q⟩
theorem handled {D : Ends} {hl : List ExceptHandler} {hs : List Hd} {B : Heap} {t : Addr} (S : Hds X hl hs) (hstk : ∃ l, X.stack = l) : ∀ {s2 : Shared}, Inv X pins σ H' s2 → Heap.FlyingW B X.stack ea C (.ref t) s2.heap → H' ea = none →
    (∀ h3, B.StaysIn h3 → s2.heap.UpToSlots h3 → ∀ tk, Inv X pins σ H' { s2 with heap := h3, toks := tk }) →
    (∀ o, X.s₀.heap.get? ea = some o → ea ∈ X.ex) → ea ≠ X.env.locals → (∀ x c, X.env.cells.lookup x = some c → c ≠ ea) → (∀ p ∈ X.pn ++ pins, p.1 ≠ ea) →
    tHds X.K hs C D σ H' → wpAny (model X.prog X.w) X.A (handleBy (.ref ea) X.env hl) (SP X pins D) X.xe s2 := by
  induction S with
  | nil => intro s2 _ _ _ _ _ _ _ _ h; exact h.elim
  | @bare x np pos b₀ suite rest c ts r hc hsu more ih =>
    intro s2 I fl hn back n1 n2 n3 n4 h
    have I2 : Inv (X.suite (.ref ea)) pins σ H' s2 := I.suite _
    have ex : ExcIs ea C s2.heap := fl.there
    rcases h with ⟨hx, hr⟩ | ⟨hx, hr⟩
    · refine wpAny_handleBy_cons (handle_test (b := true) I2 ex (.inr trivial) (fun Q E q => suite_load I2 hc q) hx ?_) (by intro q; cases q)
      refine codeAny_handlers_suite ?_
      refine lands_againW fl fun h3 fl3 sl => ?_
      have I3 := back h3 fl3.1 sl s2.toks
      refine wpAny_mono (hsu (.ref ea) pins _ σ H' D (I3.suite _) hr) (fun f s4 q => ?_) fun _ _ z => z.elim
      exact SP.unsuite I.ok q
    · refine wpAny_handleBy_cons (handle_test (b := false) I2 ex (.inr trivial) (fun Q E q => suite_load I2 hc q) hx ?_) (by intro q; cases q)
      exact ih I fl hn back n1 n2 n3 n4 hr
  | @named x n np pos b₀ suite rest c ts r i hc hN hi hk hsu more ih =>
    intro s2 I fl hn back n1 n2 n3 n4 h
    have I2 : Inv (X.suite (.ref ea)) pins σ H' s2 := I.suite _
    have ex : ExcIs ea C s2.heap := fl.there
    rcases h with ⟨hx, hr⟩ | ⟨hx, hr⟩
    · refine wpAny_handleBy_cons (handle_test (b := true) I2 ex (.inr trivial) (fun Q E q => suite_load I2 hc q) hx ?_) (by intro q; cases q)
      refine codeAny_handlers_suite_as ?_
      refine lands_againW fl fun h3 fl3 sl => ?_
      have I3 := back h3 fl3.1 sl s2.toks
      have I4 : Inv X pins σ (upd H' ea (.ext (ExcIs ea C))) { s2 with heap := h3 } := I3.track hn n1 n2 n3 n4 (excIs_ok fl3.there)
      refine store_ok (X := X.suite (.ref ea)) (I4.suite _) hN hi (.inl hk) (show RelV (.ref ea) (.ref ea) from rfl) (fun s5 I5 => ?_) (.inr hk)
      refine wpAny_mono (hsu (.ref ea) pins _ _ _ (unb i D) I5 (hr ea hn)) (fun f s6 q => ?_) fun _ _ z => z.elim
      exact unb_sp I.ok hN hi hk (SP.unsuite I.ok q)
    · refine wpAny_handleBy_cons (handle_test (b := false) I2 ex (.inr trivial) (fun Q E q => suite_load I2 hc q) hx ?_) (by intro q; cases q)
      exact ih I fl hn back n1 n2 n3 n4 hr
end
theorem ps_try {X : Cx} {P : Program} {w : World} {body orelse : List Stmt} {h₀ : ExceptHandler} {hl : List ExceptHandler} {hs : List Hd} {tb : (St → XK) → TS} {te : TS} {pos : Pos} (hP : X.prog = P) (hw : X.w = w) (O : X.stack = X.env :: X.outer) (Of : X.env.frame = some X.env.locals)
    (S : Hds X (h₀ :: hl) hs)
    (hb : ∀ (pn : List (Addr × Obj)) (E : Value → Shared → Prop) (EX : St → XK), PassT (CX1 P w) (X.tryc pn E) EX → PSs (X.tryc pn E) body (tb EX)) (he : PSs X orelse te) : PS X (.Try body (h₀ :: hl) orelse [] pos) (tTry X.K tb te hs) := by
  subst hP hw
  intro pins s σ H D I h
  refine wpAny_Try_except ?_
  refine wpAny_mono (hb (X.pn ++ pins) _ (fun σ1 C _ H1 => tHds X.K hs C D σ1 H1) ?_ [] s σ H { D with nx := te D } (I.tryc _) h) (fun f s1 q => ?_) fun e s1 q => q
  ·
    intro pins1 σ1 H1 s1 e s2 I1 hc
    obtain ⟨ea, C, H2, rfl, fl, q⟩ := hc
    have I1' : Inv X pins σ1 H1 s1 := I1.untryc I.ok
    obtain ⟨t, B, f, k⟩ := fl.fl
    have fE : Heap.FlyingW B (X.env :: X.outer) ea C (.ref t) s2.heap := O ▸ f
    refine wpAny_looks_onW (by rw [I.ok.frames, O]) Of fE fun h4 held4 sl4 => ?_
    refine wpAny_landsW held4 fun h5 fl5 sl5 => ?_
    have I5 : Inv X pins σ1 H2 { s2 with heap := h5, toks := s2.toks } := I1'.landed fl k f.1 fl5.1 (sl4.trans sl5) s2.toks
    have nB : B.get? ea = none := f.2.1
    have hn : H2 ea = none := by
      cases z : H2 ea with
      | none => rfl
      | some o =>
        obtain ⟨ob, z2⟩ := k.bt ea o z
        rw [nB] at z2
        cases z2
    obtain ⟨oe, hoe, _⟩ := fl5.there
    have notOld : ∀ o, s1.heap.get? ea = some o → False := fun o z => by
      by_cases hf : ea ∈ frs X.stack
      · obtain ⟨_, o', ho', nf⟩ := I1'.stack.mem hf
        obtain ⟨_, _, _, oe', vs', T', oT', ts', he', _, hd', _⟩ := f
        obtain ⟨sl, hsl⟩ := fl.un.slot ea o' ho' (I1'.stkFree ea hf) hf (by simp)
        rw [he'] at hsl
        cases hsl
        exact nf vs' hd'
      · obtain ⟨ob, z2⟩ := k.ba ea o z hf
        rw [nB] at z2
        cases z2
    refine handled S ⟨_, rfl⟩ I5 (by rw [O]; exact fl5) hn (fun h6 st sl tk => ?_) (fun o z => ?_) (fun z => ?_) (fun x c z1 z2 => ?_) (fun p hp z => ?_) q
    · exact I1'.landed fl k f.1 st ((sl4.trans sl5).trans sl) tk
    · by_cases hx : ea ∈ X.ex
      · exact hx
      · obtain ⟨o', z'⟩ := I1'.base.there ea o z hx
        exact (notOld o' z').elim
    · obtain ⟨m, ⟨o, _, _, ho, _⟩, _⟩ := I1'.loc
      exact notOld o (z ▸ ho)
    · obtain ⟨v, o, ho, _⟩ := I1'.cell x c z1
      exact notOld o (z2 ▸ ho)
    · obtain ⟨ho, _⟩ := I1'.pin p hp
      exact notOld p.2 (z ▸ ho)
  · cases f with
    | next =>
      obtain ⟨σ', H', I', q'⟩ := q
      exact he pins s1 σ' H' D (I'.untryc I.ok) q'
    | brk => obtain ⟨σ', H', I', q'⟩ := q; exact ⟨σ', H', I'.untryc I.ok, q'⟩
    | cont => obtain ⟨σ', H', I', q'⟩ := q; exact ⟨σ', H', I'.untryc I.ok, q'⟩
    | ret u => obtain ⟨v, σ', H', I', q'⟩ := q; exact ⟨v, σ', H', I'.untryc I.ok, q'⟩
end L2
set_option Elab.async false
set_option linter.all false
set_option maxRecDepth 100000
namespace L2
open PySem PySem.Spec PyProof.Rows
def clsV : V → Option Value
  | .ty n => some (.type n)
  | .ref C => some (.ref C)
  | _ => none
theorem clsV_rel {c : V} {cv u : Value} (e : clsV c = some cv) (r : RelV c u) : u = cv := by
  cases c with
  | ty n => cases e; exact r
  | ref C => cases e; exact r
  | _ => cases e
open PySem.W in
theorem isi_true {K : Frag} {prog : Program} {w : World} {A : Around} {E : Value → Shared → Prop} {s : Shared} {v t c : Value} {Q : Value → Shared → Prop} (X : K.In s.heap) (ht : ∀ M, Looks M s.heap (typeOf v) t) (e : kitOne K t c = some true)
    (hx : v ≠ .builtin "__main__.__loader__#opaque") (h : Q (.bool true) s) : wpAny (model prog w) A (call (.builtin "isinstance") [v, c]) Q E s := by
  have nested : ∀ (prog : Program) (w : World) (A : Around) (Q : Fin → Shared → Prop) (E : Value → Shared → Prop) (s : Shared) (dep : Int) (tk : Tok), K.In s.heap → Looks (model prog w) s.heap (typeOf v) t → Q (.done (.ret (.bool true))) s →
      wpAny (model prog w) A (Builtin.«isinstance.nested» ⟨[v, c, .int dep tk], []⟩) Q E s := by
    intro prog w A Q E s dep tk X LT hq
    obtain ⟨h0, g, d, tt, os⟩ := s
    unfold kitOne at e
    unfold Builtin.«isinstance.nested»
    refine wpAny_bind (LT.at ?_)
    by_cases q : (t == c) = true
    · rw [if_pos q]
      exact wpAny_bind (wpAny_rule (wpAny_bind (wpAny_pure (wpAny_pure hq))))
    · rw [if_neg q] at e
      rw [if_neg q]
      obtain ⟨hty, his, hsub⟩ := kit_cls (M := model prog w) X e
      have LI : Looks (model prog w) h0 (isInstance v c) true := LT.andThen hsub
      refine wpAny_bind (hty.at ?_)
      rw [if_pos (by decide)]
      k_delta "plainIsInstance"
      refine wpAny_bind (wpAny_bind (his.at ?_))
      simp only [Bool.not_true, Bool.false_eq_true, if_false]
      refine wpAny_bind (LI.at ?_)
      simp only [if_true]
      exact wpAny_pure (wpAny_pure hq)
  exact call_isinstance (S := fun _ R s => (K.In s.heap ∧ ∀ M, Looks M s.heap (typeOf v) t) ∧ R (.ok (.ret (.bool true))) s) (fun _ _ _ _ _ hs => isinstance_outer (nested _ _ _ _ _ _ _ _ hs.1.1 (hs.1.2 _) hs.2) hx) ⟨⟨X, ht⟩, h⟩
def rIsi (K : PySem.W.Frag) : List V → Hp → VK → Prop := fun xs H Q => ∃ x c cv t b, xs = [x, c] ∧ clsV c = some cv ∧ (TyOf K H x t ∨ (b = true ∧ ∃ a, x = .ref a ∧ H a = some (.ext (ExcIs a t)))) ∧ PySem.W.kitOne K t cv = some b ∧ Q (.bl b) H
theorem call_isi {X : Cx} : CallR X (.builtin "isinstance") (rIsi X.K) := by
  intro pins s σ H xs us Q I r h
  obtain ⟨x, c, cv, t, b, rfl, hc, ty, e, q⟩ := h
  obtain ⟨u, w', rfl, rx, rc⟩ := vals2 r
  have := clsV_rel hc rc
  subst this
  rcases ty with ty | ⟨rfl, a, rfl, ha⟩
  · exact isinst_ok I rx ty e fun tk => ⟨.bl b, H, I.tok tk, rfl, q⟩
  · cases (show u = Value.ref a from rx)
    obtain ⟨⟨ob, ho, hcl⟩, _⟩ := (show ObjOk X.prog X.w H s.heap a (.ext (ExcIs a t)) from I.hok a _ ha)
    have LT : ∀ M, PySem.W.Looks M s.heap (typeOf (.ref a)) t := fun M => by
      subst hcl
      exact (PySem.W.Looks.ld ho).andThen .now
    exact isi_true I.kIn LT e (fun z => nomatch z) ⟨.bl true, H, I, rfl, q⟩
def tRepr (te : TE) : TE := fun σ H Q => te σ H fun x H1 => ∃ z, x = .str z ∧ (reprText z).length ≤ sizeLine ∧ Q (.str (reprText z)) H1
def tJoin2 (ta tb : TE) : TE := fun σ H Q => ta σ H fun x H1 => ∃ a, x = .str a ∧ a.length ≤ sizeLine ∧ tb σ H1 fun y H2 => ∃ b, y = .str b ∧ a.length + b.length ≤ sizeLine ∧ Q (.str (Str.empty ++ a ++ b)) H2
section
variable {X : Cx} {e a b : Expr} {te ta tb : TE} {pos : Pos}
theorem pe_reprS (he : PE X e te) : PE X (.FormattedValue e 114 none pos) (tRepr te) := by
  intro pins s σ H Q I h
  refine wpAny_FormattedValue_repr (thn (he pins s σ H _ I h) fun u s1 ⟨v, H1, I1, r, z, ez, hz, q⟩ => ?_)
  subst ez
  obtain ⟨t, rfl⟩ := r
  refine wpAny_pyReprObj_str ?_ hz
  exact wpAny_formatField_str ⟨.str _, H1, I1.tok _, ⟨_, rfl⟩, q⟩ ⟨.str _, H1, I1.tok _, ⟨_, rfl⟩, q⟩ hz
theorem strLen_empty (a : Str) : (Str.empty ++ a).length = a.length := by
  rw [strLen_append]
  show 0 + a.length = a.length
  omega
theorem pe_join2 (ha : PE X a ta) (hb : PE X b tb) (he : evalEach [a, b] X.env = [eval a X.env, eval b X.env] := by rfl) : PE X (.JoinedStr [a, b] pos) (tJoin2 ta tb) := by
  intro pins s σ H Q I h
  refine wpAny_JoinedStr ?_
  rw [he]
  refine thn (ha pins s σ H _ I h) fun u s1 ⟨v, H1, I1, r, z, ez, hz0, q⟩ => ?_
  subst ez
  obtain ⟨t, rfl⟩ := r
  refine ⟨z, t, rfl, ?_, ?_⟩
  · rw [strLen_empty]
    exact hz0
  · refine thn (hb pins s1 σ H1 _ I1 q) fun u2 s2 ⟨v2, H2, I2, r2, z2, ez2, hz, q2⟩ => ?_
    subst ez2
    obtain ⟨t2, rfl⟩ := r2
    refine ⟨z2, t2, rfl, ?_, ?_, ?_⟩
    · rw [strLen_append, strLen_empty]; exact hz
    · rw [strLen_append, strLen_empty]; exact hz
    · exact ⟨.str _, H2, I2.tok _, ⟨_, rfl⟩, q2⟩
end
end L2
set_option Elab.async false
set_option linter.all false
set_option maxRecDepth 100000
namespace L2
open PySem PySem.Spec PyProof.Rows
mutual
inductive DRep (K : PySem.W.Frag) (H : Hp) : V → PyData → Prop
  | non : DRep K H .non .none
  | bl (b) : DRep K H (.bl b) (.bool b)
  | int (i) : DRep K H (.int i) (.int i)
  | str (x) : DRep K H (.str x) (.str x)
  | lst {a xs ds} : SqL K H a xs → DReps K H xs ds → DRep K H (.ref a) (.list ds)
  | tup {a xs ds} : SqT K H a xs → DReps K H xs ds → DRep K H (.ref a) (.tuple ds)
inductive DReps (K : PySem.W.Frag) (H : Hp) : List V → List PyData → Prop
  | nil : DReps K H [] []
  | cons {x xs d ds} : DRep K H x d → DReps K H xs ds → DReps K H (x :: xs) (d :: ds)
end
theorem DReps.ints {K : PySem.W.Frag} {H : Hp} : ∀ ns : List Int, DReps K H (ns.map V.int) (ns.map PyData.int)
  | [] => .nil
  | n :: ns => .cons (.int n) (DReps.ints ns)
section
variable {X : Cx} {pins : List (Addr × Obj)} {σ : St} {H : Hp} {s : Shared}
mutual
theorem DRep.reads (I : Inv X pins σ H s) : ∀ {x : V} {d : PyData} {u : Value}, DRep X.K H x d → RelV x u → ∃ as, Reads s.heap u d as
  | _, _, _, .non, r => by cases r; exact ⟨_, .none⟩
  | _, _, _, .bl b, r => by cases r; exact ⟨_, .bool b⟩
  | _, _, _, .int i, r => by obtain ⟨t, rfl⟩ := r; exact ⟨_, .int i t⟩
  | _, _, _, .str x, r => by obtain ⟨t, rfl⟩ := r; exact ⟨_, .str x t⟩
  | _, _, _, .lst h hs, r => by
    cases r
    obtain ⟨its, r', pl, _⟩ := I.list h
    obtain ⟨as, ra⟩ := DReps.reads I hs r'
    obtain ⟨o, ho, hc, n, hd⟩ := pl.isList
    exact ⟨_, .list ho hc hd (by simpa using ra)⟩
  | _, _, _, .tup h hs, r => by
    cases r
    obtain ⟨its, r', pl, _⟩ := I.tuple h
    obtain ⟨as, ra⟩ := DReps.reads I hs r'
    obtain ⟨o, ho, hc, n, hd⟩ := pl
    exact ⟨_, .tuple ho hc hd (by simpa using ra)⟩
theorem DReps.reads (I : Inv X pins σ H s) : ∀ {xs : List V} {ds : List PyData} {us : List Value}, DReps X.K H xs ds → Vals xs us → ∃ as, ReadsAll s.heap us ds as
  | _, _, _, .nil, r => by cases r; exact ⟨_, .nil⟩
  | _, _, _, .cons h hs, r => by
    cases r with
    | cons r1 r2 =>
      obtain ⟨as, ra⟩ := DRep.reads I h r1
      obtain ⟨bs, rb⟩ := DReps.reads I hs r2
      exact ⟨_, .cons ra rb⟩
end
end
def rEqD (K : PySem.W.Frag) (neg : Bool) : R2 := fun x y H Q => ∃ d e, DRep K H x d ∧ DRep K H y e ∧ SeqAt.shaped d = true ∧ SeqAt.shaped e = true ∧ Q (.bl (if neg then !PyData.eqv d e else PyData.eqv d e)) H
section
variable {X : Cx}
theorem op_eqD (hu : X.A.units + 64 < cLine) : OpR X (compareOp .Eq) (rEqD X.K false) := by
  intro pins s σ H x y v u Q I rx ry h
  obtain ⟨d, e, hd, he, sd, se, q⟩ := h
  obtain ⟨as, ra⟩ := DRep.reads I hd rx
  obtain ⟨bs, rb⟩ := DRep.reads I he ry
  exact eq_dataH ra rb sd se hu ⟨.bl _, H, I, rfl, q⟩
end
theorem eqv_nil (ns : List Int) : PyData.eqv (.list (ns.map .int)) (.list []) = ns.isEmpty := by
  cases ns <;> simp [PyData.eqv, PyData.eqvAll]
theorem shaped_nil : SeqAt.shaped (.list []) = true := by decide +kernel
theorem canLay_ints : ∀ ns : List Int, PyData.canLayAll0 (ns.map PyData.int) = true
  | [] => rfl
  | n :: ns => by simp only [List.map_cons, PyData.canLayAll0, PyData.canLay0, canLay_ints ns, Bool.and_self]
theorem depth_ints : ∀ ns : List Int, PyData.depthAll (ns.map PyData.int) ≤ 1
  | [] => by simp [PyData.depthAll]
  | n :: ns => by
    have := depth_ints ns
    simp only [List.map_cons, PyData.depthAll, PyData.depth]
    omega
theorem shaped_ints (ns : List Int) : SeqAt.shaped (.list (ns.map .int)) = true := by
  have := depth_ints ns
  have h2 : PyData.depth (.list (ns.map PyData.int)) ≤ 64 := by
    simp only [PyData.depth]
    omega
  show (PyData.canLayAll0 (ns.map PyData.int) && decide (PyData.depth (.list (ns.map PyData.int)) ≤ 64)) = true
  rw [canLay_ints, decide_eq_true h2]
  rfl
end L2
set_option Elab.async false
set_option linter.all false
set_option maxRecDepth 100000
namespace L2
open PySem PySem.Spec PyProof.Rows
def OwnC (CX : CXT) (P : Program) (w : World) (K : PySem.W.Frag) (mg : Str → Option Value) (base : Heap) (x : Str) (k : Nat) (ps : List Str) (sp : Sp) : Prop :=
  ∃ f fd, FnOk P w K mg base CX k f fd ps sp ∧ mg x = some (.ref f) ∧ PySem.W.keepIn K (.ref f) = true ∧ Binds K fd ps []
abbrev Own := OwnC CX0
abbrev OwnX (P : Program) (w : World) := OwnC (CX1 P w) P w
section
variable {X : Cx} {k : Nat} {x : Str} {ps : List Str} {sp : Sp} {e : Expr} {es : List Expr} {t : TA} {p pos : Pos}
theorem pe_own (D : Own X.prog X.w X.K X.mg X.base x k ps sp) (hr : Room k X.A) (hg : Gl X x) (ha : PA X (e :: es) t)
    (hdb : (x == ("__debug__" : Str)) = false := by decide) (he : starEach (e :: es) X.env = (false, eval e X.env) :: starEach es X.env := by rfl) (hpl : (backTo pos (starEach es X.env)).any (·.1) = false := by rfl) :
    PE X (.Call (.Name x p) (e :: es) [] pos) (tCall sp [] E0 t) := by
  obtain ⟨f, fd, F, hm, hk, hb⟩ := D
  exact pe_call F hr hg hm hk hb .nil pass0 ha hdb he hpl
theorem pe_ownT {E : St → XK} (D : OwnX X.prog X.w X.K X.mg X.base x k ps sp) (hr : Room k X.A) (hg : Gl X x) (hx : PassT (CX1 X.prog X.w) X E) (ha : PA X (e :: es) t)
    (hdb : (x == ("__debug__" : Str)) = false := by decide) (he : starEach (e :: es) X.env = (false, eval e X.env) :: starEach es X.env := by rfl) (hpl : (backTo pos (starEach es X.env)).any (·.1) = false := by rfl) :
    PE X (.Call (.Name x p) (e :: es) [] pos) (tCallT sp [] E t) := by
  obtain ⟨f, fd, F, hm, hk, hb⟩ := D
  exact pe_callT F hr hg hm hk hb .nil hx ha hdb he hpl
end
structure At (K : PySem.W.Frag) (mg : Str → Option Value) (x : Str) (st : Stmt) (f : Addr) (fd : FuncData) : Prop where
  fn : Fun K x x st f fd
  mg : mg x = some (.ref f)
section
variable {P : Program} {w : World} {K : PySem.W.Frag} {mg : Str → Option Value} {base : Heap} {x : Str} {st : Stmt} {f : Addr} {fd : FuncData} {N ps : List Str} {k : Nat} {sp : Sp}
abbrev BindOk (x : Str) (st : Stmt) (ps : List Str) : Prop := ∀ (kV doc pm : Value) (an : Option Addr) (cdv ct : Value) (us : List Value), us.length = ps.length → bindArgs (PySem.W.fnOf x x (defArgs st) (defBody st) (defScope st) .none kV doc pm an cdv ct) ⟨us, []⟩ = pure (ps.zip us)
theorem At.own (F : At K mg x st f fd) (S : FnScope N ps (defScope st)) (hb : BindOk x st ps) (len : ∀ vs H Q E, sp vs H Q E → vs.length = ps.length)
    (hbody : ∀ (cdv : Value) (A : Around) (outer : List Env) (s : Shared) (H : Hp) (vs : List V) (Q : VK) (E : XK), Room k (A.deeper (envOfC x (defScope st) s.heap.objs.size f cdv)) → sp vs H Q E →
      ∃ t, PSs (cxOf CX0 P w K mg base N x (defScope st) f cdv A outer s H E).nox (defBody st) t ∧ t { nx := fun _ H' => Q .non H', rt := Q } (start N vs) H) : Own P w K mg base x (k + 1) ps sp :=
  ⟨f, fd, F.fn.ok S len hbody, F.mg, F.fn.kp, F.fn.binds hb⟩
theorem At.ownX (F : At K mg x st f fd) (S : FnScope N ps (defScope st)) (hb : BindOk x st ps) (len : ∀ vs H Q E, sp vs H Q E → vs.length = ps.length)
    (hbody : ∀ (cdv : Value) (A : Around) (outer : List Env) (s : Shared) (H : Hp) (vs : List V) (Q : VK) (E : XK), Room k (A.deeper (envOfC x (defScope st) s.heap.objs.size f cdv)) → sp vs H Q E →
      ∃ t, PSs (cxOf (CX1 P w) P w K mg base N x (defScope st) f cdv A outer s H E) (defBody st) t ∧ t { nx := fun _ H' => Q .non H', rt := Q } (start N vs) H) : OwnX P w K mg base x (k + 1) ps sp :=
  ⟨f, fd, F.fn.okX S len hbody, F.mg, F.fn.kp, F.fn.binds hb⟩
end
theorem SqL.same {K : PySem.W.Frag} {H H' : Hp} {a : Addr} {xs : List V} (h : SqL K H a xs) (e : Same H H') : SqL K H' a xs := e.seq h
theorem Same.upd {H : Hp} {a : Addr} {o : HO} (h : H a = none) : Same H (upd H a o) := fun b u e => by rw [upd_ne (ne_of_none e h)]; exact e
theorem Same.step {H H1 : Hp} {a : Addr} {o : HO} (s : Same H H1) (h : H1 a = none) : Same H (L2.upd H1 a o) := s.trans (Same.upd h)
def optV : Option Int → V
  | some n => .int n
  | none => .non
end L2
set_option Elab.async false
set_option linter.all false
set_option maxRecDepth 100000
namespace L2
open PySem PySem.Spec PyProof.Rows
def tCut (G : St → Hp → Prop) (t u : TS) : TS := fun D σ H => t { D with nx := G } σ H ∧ ∀ σ' H', G σ' H' → u D σ' H'
theorem pss_cut {X : Cx} {st : Stmt} {rest : List Stmt} {t u : TS} (G : St → Hp → Prop) (h1 : PS X st t) (h2 : PSs X rest u) : PSs X (st :: rest) (tCut G t u) := by
  intro pins s σ H D I ⟨h, k⟩
  refine wpAny_execs_cons (thn (h1 pins s σ H { D with nx := G } I h) fun f s1 q => ?_)
  cases f with
  | next =>
    obtain ⟨σ', H', I', g⟩ := q
    exact h2 pins s1 σ' H' D I' (k σ' H' g)
  | ret v => exact q
  | brk => exact q
  | cont => exact q
theorem lookup_of_mem {α : Type} {l : List (Str × α)} {x : Str} {a : α} (h : l.lookup x = some a) : (x, a) ∈ l := by
  induction l with
  | nil => cases h
  | cons p r ih =>
    obtain ⟨y, b⟩ := p
    rw [List.lookup_cons] at h
    cases e : x == y with
    | true =>
      rw [e] at h
      cases h
      rw [eq_of_beq e]
      exact List.mem_cons_self ..
    | false =>
      rw [e] at h
      exact List.mem_cons_of_mem _ (ih h)
theorem mem_lookup {α : Type} {l : List (Str × α)} {x : Str} (h : x ∈ l.map (·.1)) : ∃ a, l.lookup x = some a := by
  induction l with
  | nil => cases h
  | cons p r ih =>
    obtain ⟨y, b⟩ := p
    rw [List.lookup_cons]
    cases e : x == y with
    | true => exact ⟨b, rfl⟩
    | false =>
      rcases List.mem_cons.mp h with z | z
      · have : (x == y) = true := by rw [z]; exact beq_self_eq_true _
        rw [this] at e; cases e
      · exact ih z
theorem blk_of {X : Cx} {x : Str} {scope : Scope} {cl : List (Str × Addr)} {N : List Str} {places : List Nat} (clos : closureFor scope X.env = pure cl) (noCell : ∀ y ∈ scope.names, y.2 ≠ .cell) (kind : scope.kind = .function)
    (names : ∀ y ∈ scope.names, y.2 = .local → scope.names.lookup y.1 = some .local) (var : scope.names.lookup x = some .local) (head : N[0]? = some x) (nd : N.Nodup) (len : N.length = places.length + 1)
    (sub : ∀ p ∈ cl, X.env.cells.lookup p.1 = some p.2) (has : ∀ p ∈ (relabel scope X.env).names, (p.2 = .cell ∨ p.2 = .free) → p.1 ∈ cl.map (·.1))
    (at_ : ∀ (i : Nat) (h : i < places.length), X.N[places[i]]? = N[i + 1]? ∧ ∀ y, N[i + 1]? = some y → (X.env.scope.names.lookup y = some .cell ∨ X.env.scope.names.lookup y = some .free) ∧ ((relabel scope X.env).names.lookup y = some .cell ∨ (relabel scope X.env).names.lookup y = some .free)) :
    Blk X x scope cl N places where
  clos := clos
  noCell := noCell
  kind := kind
  names := names
  var := var
  head := head
  nd := nd
  len := len
  sub := fun y c e => sub (y, c) (lookup_of_mem e)
  has := fun y h => by
    rcases h with z | z
    · exact mem_lookup (has (y, .cell) (lookup_of_mem z) (.inl rfl))
    · exact mem_lookup (has (y, .free) (lookup_of_mem z) (.inr rfl))
  at_ := fun i j y e1 e2 => by
    obtain ⟨hi, ej⟩ := List.getElem?_eq_some_iff.mp e1
    obtain ⟨a1, a2⟩ := at_ i hi
    rw [ej] at a1
    exact ⟨a1.trans e2, a2 y e2⟩
end L2
namespace L2
open PySem PySem.Spec PyProof.Rows
theorem call_isiK {X : Cx} {K : PySem.W.Frag} (h : X.K = K) : CallR X (.builtin "isinstance") (rIsi K) := by
  subst h
  exact call_isi
end L2
namespace L2
open PySem PySem.Spec PyProof.Rows
theorem blkHas {l : List (Str × NameKind)} {x : Str} {c : Addr} (N : List Str) (h : ∀ p ∈ l, (p.2 = .cell ∨ p.2 = .free) → p.1 = x) : ∀ p ∈ l, (p.2 = .cell ∨ p.2 = .free) → p.1 ∈ [(x, c)].map (·.1) := fun p hp hk => by
  rw [h p hp hk]
  exact List.mem_cons_self ..
theorem blkAt {l l' : List (Str × NameKind)} {XN : List Str} {x y : Str} {j : Nat} (h1 : XN[j]? = some y) (h2 : l.lookup y = some .cell) (h3 : l'.lookup y = some .cell := by rfl) : ∀ (i : Nat) (h : i < [j].length), XN[[j][i]]? = [x, y][i + 1]? ∧ ∀ z, [x, y][i + 1]? = some z → (l.lookup z = some .cell ∨ l.lookup z = some .free) ∧ (l'.lookup z = some .cell ∨ l'.lookup z = some .free) := fun i h => by
  have e : i = 0 := by simpa using h
  subst e
  refine ⟨h1, fun z e => ?_⟩
  cases e
  exact ⟨.inl h2, .inl h3⟩
end L2
namespace L2
open PySem PySem.Spec PyProof.Rows
theorem blkHas' {l : List (Str × NameKind)} {x : Str} {c : Addr} (l0 : List (Str × NameKind)) (e : l = l0) (h : ∀ p ∈ l0, (p.2 = .cell ∨ p.2 = .free) → p.1 = x) : ∀ p ∈ l, (p.2 = .cell ∨ p.2 = .free) → p.1 ∈ [(x, c)].map (·.1) := blkHas [] (e ▸ h)
theorem cmp_map {K : PySem.W.Frag} {a D : Addr} {xs : List V} {places : List Nat} {te : TE} {σ : St} {H : Hp} {Q : VK} (g : V → V) (hS : SqL K H a xs) (hD : H D = none) (hz : xs.length ≤ sizeLine)
    (hte : ∀ (i : Nat) (x : V), xs[i]? = some x → ∀ (H1 : Hp) (Q' : VK), Same H H1 → Q' (g x) H1 → te (blkσ places (some x) σ) H1 Q') (hq : Q (.ref D) (upd H D (.lst (xs.map g)))) :
    compBody (Itl K a) places tYes te σ Q H D := by
  refine ⟨fun i m H' => m = xs.length - i ∧ i ≤ xs.length ∧ H' = upd H D (.lst ((xs.take i).map g)), ⟨xs.length, by omega, Nat.zero_le _, rfl⟩, ?_⟩
  rintro i m H' ⟨rfl, hi, rfl⟩
  have sq : SqL K (upd H D (.lst ((xs.take i).map g))) a xs := (Same.upd hD).seq hS
  by_cases hlt : i < xs.length
  · right
    have hx : xs[i]? = some xs[i] := List.getElem?_eq_getElem hlt
    refine ⟨⟨xs, xs[i], sq, hx⟩, fun H' => H' = upd H D (.lst ((xs.take (i + 1)).map g)), fun H' e => ⟨xs.length - (i + 1), by omega, rfl, hlt, e⟩, ?_⟩
    rintro x H2 ⟨rfl, hy⟩
    have := hy xs sq
    unfold tYes
    dsimp only
    rw [if_pos rfl]
    refine hte i x this _ _ (Same.upd hD) ⟨_, upd_same, ?_, ?_⟩
    · simp only [List.length_map, List.length_take]
      omega
    · rw [upd_upd, List.take_add_one, this, List.map_append]
      rfl
  · left
    have e : i = xs.length := by omega
    subst e
    refine ⟨⟨xs, sq, Nat.le_refl _⟩, ?_⟩
    rw [List.take_of_length_le (Nat.le_refl _)]
    exact hq
end L2
set_option linter.all false
namespace Yd
variable {σ : Type}
structure Pg (σ : Type) where
  S : Int → Option Int
  R : Int → Option (σ × List Int)
  W : σ → List Int → Option Int
inductive All2 {α β : Type} (P : α → β → Prop) : List α → List β → Prop
  | nil : All2 P [] []
  | cons {a b as bs} : P a b → All2 P as bs → All2 P (a :: as) (b :: bs)
theorem All2.imp {α β : Type} {P Q : α → β → Prop} (h : ∀ a b, P a b → Q a b) : ∀ {as bs}, All2 P as bs → All2 Q as bs
  | _, _, .nil => .nil
  | _, _, .cons p r => .cons (h _ _ p) (All2.imp h r)
theorem All2.len {α β : Type} {P : α → β → Prop} : ∀ {as : List α} {bs : List β}, All2 P as bs → as.length = bs.length
  | _, _, .nil => rfl
  | _, _, .cons _ r => by simp [All2.len r]
theorem All2.mem {α β : Type} {P : α → β → Prop} : ∀ {as : List α} {bs : List β}, All2 P as bs → ∀ a ∈ as, ∃ b, P a b
  | _, _, .nil, a, h => by simp at h
  | _, _, .cons p r, a, h => by
    rcases List.mem_cons.mp h with rfl | h
    · exact ⟨_, p⟩
    · exact All2.mem r a h
theorem All2.det {α β : Type} {P : α → β → Prop} (d : ∀ a b c, P a b → P a c → b = c) : ∀ {as : List α} {bs cs : List β}, All2 P as bs → All2 P as cs → bs = cs
  | _, _, _, .nil, .nil => rfl
  | _, _, _, .cons p r, .cons q s => by rw [d _ _ _ p q, All2.det d r s]
theorem All2.append {α β : Type} {P : α → β → Prop} : ∀ {as as' : List α} {bs bs' : List β}, All2 P as bs → All2 P as' bs' → All2 P (as ++ as') (bs ++ bs')
  | _, _, _, _, .nil, s => s
  | _, _, _, _, .cons p r, s => .cons p (All2.append r s)
def allK (k : Int → Option Int) : List Int → Option (List Int)
  | [] => some []
  | m :: ms => match k m with
    | none => none
    | some a => match allK k ms with
      | none => none
      | some r => some (a :: r)
theorem allK_iff (k : Int → Option Int) : ∀ (ms ns : List Int), allK k ms = some ns ↔ All2 (fun m n => k m = some n) ms ns
  | [], ns => by
    constructor
    · intro h; simp only [allK] at h; cases h; exact .nil
    · intro h; cases h; rfl
  | m :: ms, ns => by
    constructor
    · intro h
      simp only [allK] at h
      cases e : k m with
      | none => rw [e] at h; cases h
      | some a =>
        rw [e] at h
        cases e2 : allK k ms with
        | none => simp only [e2] at h; cases h
        | some r =>
          simp only [e2] at h
          cases h
          exact .cons e ((allK_iff k ms r).mp e2)
    · intro h
      cases h with
      | cons p r =>
        have := (allK_iff k ms _).mpr r
        simp only [allK, p, this]
def K (g : Pg σ) : Nat → Int → Option Int
  | 0, t => g.S t
  | n + 1, t => match K g n t with
    | some v => some v
    | none => match g.R t with
      | none => none
      | some (s, ms) => match allK (K g n) ms with
        | none => none
        | some ns => g.W s ns
def Known (g : Pg σ) (t v : Int) : Prop := ∃ n, K g n t = some v
def Kn (g : Pg σ) (t : Int) : Prop := ∃ v, Known g t v
section
variable {g : Pg σ}
theorem K_step {n t v} (h : K g n t = some v) : K g (n + 1) t = some v := by simp only [K, h]
theorem K_le {n m t v} (hnm : n ≤ m) (h : K g n t = some v) : K g m t = some v := by
  induction hnm with
  | refl => exact h
  | step _ ih => exact K_step ih
theorem Known.det {t v u} (a : Known g t v) (b : Known g t u) : v = u := by
  obtain ⟨n, hn⟩ := a
  obtain ⟨m, hm⟩ := b
  have h1 := K_le (Nat.le_max_left n m) hn
  have h2 := K_le (Nat.le_max_right n m) hm
  rw [h1] at h2
  exact Option.some.inj h2
theorem Known.src {t v} (h : g.S t = some v) : Known g t v := ⟨0, h⟩
theorem all_rank : ∀ {ms ns : List Int}, All2 (Known g) ms ns → ∃ n, All2 (fun m x => K g n m = some x) ms ns
  | _, _, .nil => ⟨0, .nil⟩
  | _, _, .cons ⟨n, hn⟩ r => by
    obtain ⟨m, hm⟩ := all_rank r
    exact ⟨max n m, .cons (K_le (Nat.le_max_left n m) hn) (hm.imp fun _ _ h => K_le (Nat.le_max_right n m) h)⟩
theorem K_inv : ∀ {n t v}, g.S t = none → K g n t = some v → ∃ s ms ns n', g.R t = some (s, ms) ∧ n' < n ∧ All2 (fun m x => K g n' m = some x) ms ns ∧ g.W s ns = some v
  | 0, t, v, hs, h => by simp only [K] at h; rw [hs] at h; cases h
  | n + 1, t, v, hs, h => by
    cases e : K g n t with
    | some u =>
      have : u = v := by simp only [K, e] at h; exact Option.some.inj h
      subst this
      obtain ⟨s, ms, ns, n', h1, h2, h3⟩ := K_inv hs e
      exact ⟨s, ms, ns, n', h1, by omega, h3⟩
    | none =>
      simp only [K, e] at h
      cases er : g.R t with
      | none => simp only [er] at h; cases h
      | some p =>
        obtain ⟨s, ms⟩ := p
        simp only [er] at h
        cases ea : allK (K g n) ms with
        | none => simp only [ea] at h; cases h
        | some ns =>
          simp only [ea] at h
          exact ⟨s, ms, ns, n, rfl, Nat.lt_succ_self _, (allK_iff _ _ _).mp ea, h⟩
theorem Known.inv {t v} (hs : g.S t = none) (h : Known g t v) : ∃ s ms ns, g.R t = some (s, ms) ∧ All2 (Known g) ms ns ∧ g.W s ns = some v := by
  obtain ⟨n, hn⟩ := h
  obtain ⟨s, ms, ns, n', h1, _, h3, h4⟩ := K_inv hs hn
  exact ⟨s, ms, ns, h1, h3.imp fun _ _ q => ⟨n', q⟩, h4⟩
theorem Known.made {t v s ms ns} (hs : g.S t = none) (hr : g.R t = some (s, ms)) (ha : All2 (Known g) ms ns) (hw : g.W s ns = some v) : Known g t v := by
  obtain ⟨n, hn⟩ := all_rank ha
  cases e : K g n t with
  | none =>
    refine ⟨n + 1, ?_⟩
    simp only [K, e, hr, (allK_iff _ _ _).mpr hn]
    exact hw
  | some u =>
    have hu : Known g t u := ⟨n, e⟩
    obtain ⟨s', ms', ns', h1, h2, h3⟩ := hu.inv hs
    rw [hr] at h1
    cases h1
    have := All2.det (P := Known g) (fun a b c p q => Known.det p q) ha h2
    subst this
    rw [hw] at h3
    cases h3
    exact hu
theorem Kn.inv {t} (hs : g.S t = none) (h : Kn g t) : ∃ s ms, g.R t = some (s, ms) ∧ ∀ m ∈ ms, Kn g m := by
  obtain ⟨v, hv⟩ := h
  obtain ⟨s, ms, ns, h1, h2, _⟩ := hv.inv hs
  exact ⟨s, ms, h1, fun m hm => h2.mem m hm⟩
def Lk (g : Pg σ) (y m : Int) : Prop := g.S y = none ∧ ∃ s ms, g.R y = some (s, ms) ∧ m ∈ ms
def Ch (g : Pg σ) : List Int → Prop
  | [] => True
  | [_] => True
  | a :: b :: r => Lk g a b ∧ Ch g (b :: r)
theorem Ch.tail {a : Int} {r : List Int} (h : Ch g (a :: r)) : Ch g r := by
  cases r with
  | nil => trivial
  | cons b r => exact h.2
theorem Ch.drop : ∀ {a b : List Int}, Ch g (a ++ b) → Ch g b
  | [], _, h => h
  | x :: a, b, h => Ch.drop (a := a) (Ch.tail (a := x) (r := a ++ b) h)
theorem Ch.snoc : ∀ {a : List Int} {x y : Int}, Ch g (a ++ [x]) → Lk g x y → Ch g (a ++ [x] ++ [y])
  | [], x, y, _, l => ⟨l, trivial⟩
  | [b], x, y, h, l => ⟨h.1, l, trivial⟩
  | b :: c :: a, x, y, h, l => ⟨h.1, Ch.snoc (a := c :: a) h.2 l⟩
theorem lk_down {y m : Int} {n : Nat} {v : Int} (l : Lk g y m) (h : K g n y = some v) : ∃ n' u, n' < n ∧ K g n' m = some u := by
  obtain ⟨hs, s, ms, hr, hm⟩ := l
  obtain ⟨s', ms', ns, n', h1, h2, h3, _⟩ := K_inv hs h
  rw [hr] at h1
  cases h1
  obtain ⟨u, hu⟩ := h3.mem m hm
  exact ⟨n', u, h2, hu⟩
theorem ch_down : ∀ {l : List Int} {x : Int} {n : Nat} {v : Int}, Ch g (x :: l) → K g n x = some v → ∀ z ∈ l, ∃ n' u, n' < n ∧ K g n' z = some u
  | [], _, _, _, _, _, z, hz => by simp at hz
  | y :: l, x, n, v, c, h, z, hz => by
    obtain ⟨n1, u1, h1, h2⟩ := lk_down c.1 h
    rcases List.mem_cons.mp hz with rfl | hz
    · exact ⟨n1, u1, h1, h2⟩
    · obtain ⟨n2, u2, h3, h4⟩ := ch_down c.2 h2 z hz
      exact ⟨n2, u2, by omega, h4⟩
theorem ring_not {x : Int} {l : List Int} (c : Ch g (x :: l)) (hx : x ∈ l) : ¬ Kn g x := by
  rintro ⟨v, n, hn⟩
  induction n using Nat.strongRecOn generalizing v with
  | ind n ih =>
    obtain ⟨n', u, h1, h2⟩ := ch_down c hn x hx
    exact ih n' h1 u h2
theorem ring_in {p : List Int} {t : Int} (c : Ch g (p ++ [t])) (ht : t ∈ p) : ¬ Kn g t := by
  obtain ⟨a, b, rfl⟩ := List.append_of_mem ht
  have c2 : Ch g (t :: (b ++ [t])) := by
    have : a ++ t :: b ++ [t] = a ++ (t :: (b ++ [t])) := by simp
    rw [this] at c
    exact c.drop
  exact ring_not c2 (by simp)
end
end Yd
set_option linter.all false
namespace Yd
variable {σ : Type}
structure Vs (σ : Type) where
  t : Int
  s : σ
  ms : List Int
  ns : List Int
  v : Int
inductive Why
  | missing | ring | noway
abbrev Er := Why × List Int
abbrev Acc (σ : Type) := List (Vs σ)
def lookV : Acc σ → Int → Option Int
  | [], _ => none
  | e :: r, t => if e.t = t then some e.v else lookV r t
def goAll (f : Int → Acc σ → Except Er Int × Acc σ) : List Int → Acc σ → Except Er (List Int) × Acc σ
  | [], acc => (.ok [], acc)
  | m :: ms, acc => match f m acc with
    | (.error e, a1) => (.error e, a1)
    | (.ok n, a1) => match goAll f ms a1 with
      | (.error e, a2) => (.error e, a2)
      | (.ok ns, a2) => (.ok (n :: ns), a2)
def visit (g : Pg σ) : Nat → List Int → Int → Acc σ → Except Er Int × Acc σ
  | 0, path, t, acc => (.error (.ring, path ++ [t]), acc)
  | f + 1, path, t, acc => match g.S t with
    | some n => (.ok n, acc)
    | none => match lookV acc t with
      | some v => (.ok v, acc)
      | none => match g.R t with
        | none => (.error (.missing, path ++ [t]), acc)
        | some (s, ms) =>
          if t ∈ path then (.error (.ring, path ++ [t]), acc)
          else match goAll (visit g f (path ++ [t])) ms acc with
            | (.error e, a1) => (.error e, a1)
            | (.ok ns, a1) => match g.W s ns with
              | none => (.error (.noway, path ++ [t]), a1)
              | some v => (.ok v, a1 ++ [⟨t, s, ms, ns, v⟩])
theorem lookV_app (t : Int) : ∀ (a b : Acc σ), lookV (a ++ b) t = (match lookV a t with | some v => some v | none => lookV b t)
  | [], b => rfl
  | e :: a, b => by
    simp only [List.cons_append, lookV]
    split
    · rfl
    · exact lookV_app t a b
theorem lookV_mono {a b : Acc σ} {t v : Int} (h : lookV a t = some v) : lookV (a ++ b) t = some v := by rw [lookV_app, h]
theorem lookV_mem {t v : Int} : ∀ {a : Acc σ}, lookV a t = some v → ∃ e ∈ a, e.t = t ∧ e.v = v
  | [], h => by cases h
  | e :: a, h => by
    simp only [lookV] at h
    split at h
    · rename_i ht
      exact ⟨e, List.mem_cons_self .., ht, Option.some.inj h⟩
    · obtain ⟨x, hx, h1⟩ := lookV_mem h
      exact ⟨x, List.mem_cons_of_mem _ hx, h1⟩
theorem mem_lookV {e : Vs σ} : ∀ {a : Acc σ}, e ∈ a → ∃ v, lookV a e.t = some v
  | [], h => by cases h
  | x :: a, h => by
    simp only [lookV]
    by_cases hx : x.t = e.t
    · exact ⟨x.v, by rw [if_pos hx]⟩
    · rcases List.mem_cons.mp h with rfl | h
      · exact absurd rfl hx
      · rw [if_neg hx]; exact mem_lookV h
def Has (g : Pg σ) (acc : Acc σ) (m n : Int) : Prop := g.S m = some n ∨ lookV acc m = some n
theorem Has.mono {g : Pg σ} {a b : Acc σ} {m n : Int} (h : Has g a m n) : Has g (a ++ b) m n := h.imp_right lookV_mono
inductive Good (g : Pg σ) : Acc σ → Prop
  | nil : Good g []
  | snoc {a : Acc σ} {e : Vs σ} : Good g a → g.S e.t = none → lookV a e.t = none → g.R e.t = some (e.s, e.ms) → All2 (Has g a) e.ms e.ns → g.W e.s e.ns = some e.v → Good g (a ++ [e])
section
variable {g : Pg σ}
theorem Good.known {acc : Acc σ} (G : Good g acc) : ∀ {t v}, lookV acc t = some v → Known g t v := by
  induction G with
  | nil => intro t v h; cases h
  | snoc G hs hl hr ha hw ih =>
    rename_i a e
    intro t v h
    rw [lookV_app] at h
    cases el : lookV a t with
    | some u =>
      rw [el] at h
      cases h
      exact ih el
    | none =>
      rw [el] at h
      simp only [lookV] at h
      split at h
      · rename_i ht
        cases h
        subst ht
        exact Known.made hs hr (ha.imp fun m n q => q.elim Known.src ih) hw
      · cases h
theorem Good.src {acc : Acc σ} (G : Good g acc) : ∀ {t v}, lookV acc t = some v → g.S t = none := by
  induction G with
  | nil => intro t v h; cases h
  | snoc G hs hl hr ha hw ih =>
    rename_i a e
    intro t v h
    rw [lookV_app] at h
    cases el : lookV a t with
    | some u => exact ih el
    | none =>
      rw [el] at h
      simp only [lookV] at h
      split at h
      · rename_i ht
        rw [← ht]; exact hs
      · cases h
theorem Has.known {acc : Acc σ} (G : Good g acc) {m n : Int} (h : Has g acc m n) : Known g m n := h.elim Known.src G.known
def FB (g : Pg σ) (y m : Int) : Prop := g.S y = none ∧ ∃ s pre post, g.R y = some (s, pre ++ m :: post) ∧ (∀ x ∈ pre, Kn g x) ∧ ¬ Kn g m
def Led (g : Pg σ) : List Int → Prop
  | [] => True
  | [_] => True
  | a :: b :: r => FB g a b ∧ Led g (b :: r)
def Cause (g : Pg σ) : Why → List Int → Int → Prop
  | .missing, p, t => (p ++ [t]).Nodup ∧ g.S t = none ∧ g.R t = none
  | .ring, p, t => p.Nodup ∧ t ∈ p ∧ g.S t = none
  | .noway, p, t => (p ++ [t]).Nodup ∧ g.S t = none ∧ ∃ s ms ns, g.R t = some (s, ms) ∧ All2 (Known g) ms ns ∧ g.W s ns = none
structure Fl (g : Pg σ) (path : List Int) (t : Int) (e : Er) : Prop where
  nk : ¬ Kn g t
  ex : ∃ mid last, e.2 = path ++ t :: mid ∧ path ++ t :: mid = (path ++ t :: mid).dropLast ++ [last] ∧ Cause g e.1 (path ++ t :: mid).dropLast last ∧ Led g (t :: mid)
inductive Rch (g : Pg σ) : Int → Int → Prop
  | refl (t) : Rch g t t
  | head {y m z} : Lk g y m → Rch g m z → Rch g y z
structure Out (g : Pg σ) (path : List Int) (t : Int) (acc : Acc σ) (r : Except Er Int × Acc σ) : Prop where
  good : Good g r.2
  pre : ∃ new, r.2 = acc ++ new ∧ ∀ e ∈ new, Rch g t e.t
  ok : ∀ v, r.1 = .ok v → Has g r.2 t v
  er : ∀ e, r.1 = .error e → Fl g path t e
structure OutAll (g : Pg σ) (path : List Int) (y : Int) (ms : List Int) (acc : Acc σ) (r : Except Er (List Int) × Acc σ) : Prop where
  good : Good g r.2
  pre : ∃ new, r.2 = acc ++ new ∧ ∀ e ∈ new, ∃ m ∈ ms, Rch g m e.t
  ok : ∀ ns, r.1 = .ok ns → All2 (Has g r.2) ms ns
  er : ∀ e, r.1 = .error e → ∃ a m b, ms = a ++ m :: b ∧ (∀ x ∈ a, Kn g x) ∧ Fl g path m e
theorem goAll_out {path : List Int} {y : Int} {f : Int → Acc σ → Except Er Int × Acc σ} : ∀ {ms : List Int} {acc : Acc σ},
    (∀ m ∈ ms, ∀ acc, Good g acc → Out g path m acc (f m acc)) → Good g acc → OutAll g path y ms acc (goAll f ms acc)
  | [], acc, _, G => ⟨G, ⟨[], by simp [goAll], by simp⟩, fun ns h => by simp only [goAll] at h; cases h; exact .nil, fun e h => by simp only [goAll] at h; cases h⟩
  | m :: ms, acc, hf, G => by
    have o := hf m (List.mem_cons_self ..) acc G
    simp only [goAll]
    cases e1 : f m acc with
    | mk r1 a1 =>
      rw [e1] at o
      obtain ⟨new1, hn1, hr1⟩ := o.pre
      cases r1 with
      | error e =>
        refine ⟨o.good, ⟨new1, hn1, fun x hx => ⟨m, List.mem_cons_self .., hr1 x hx⟩⟩, fun ns h => (by cases h), fun e' h => ?_⟩
        cases h
        exact ⟨[], m, ms, rfl, by simp, o.er _ rfl⟩
      | ok n =>
        have o2 := goAll_out (path := path) (y := y) (f := f) (ms := ms) (acc := a1) (fun m' h' => hf m' (List.mem_cons_of_mem _ h')) o.good
        simp only
        cases e2 : goAll f ms a1 with
        | mk r2 a2 =>
          rw [e2] at o2
          obtain ⟨new2, hn2, hr2⟩ := o2.pre
          have hpre : ∃ new, a2 = acc ++ new ∧ ∀ e ∈ new, ∃ m' ∈ m :: ms, Rch g m' e.t := by
            refine ⟨new1 ++ new2, ?_, fun x hx => ?_⟩
            · have h1 : a1 = acc ++ new1 := hn1
              have h2 : a2 = a1 ++ new2 := hn2
              rw [h2, h1, List.append_assoc]
            · rcases List.mem_append.mp hx with hx | hx
              · exact ⟨m, List.mem_cons_self .., hr1 x hx⟩
              · obtain ⟨m', hm', h'⟩ := hr2 x hx
                exact ⟨m', List.mem_cons_of_mem _ hm', h'⟩
          have hm1 : Has g a2 m n := by
            have h2 : a2 = a1 ++ new2 := hn2
            rw [h2]
            exact (o.ok n rfl).mono
          cases r2 with
          | error e =>
            refine ⟨o2.good, hpre, fun ns h => (by cases h), fun e' h => ?_⟩
            cases h
            obtain ⟨a, m', b, h1, h2, h3⟩ := o2.er _ rfl
            refine ⟨m :: a, m', b, by rw [h1]; rfl, fun x hx => ?_, h3⟩
            rcases List.mem_cons.mp hx with rfl | hx
            · exact ⟨n, hm1.known o2.good⟩
            · exact h2 x hx
          | ok ns =>
            refine ⟨o2.good, hpre, fun ns' h => ?_, fun e' h => (by cases h)⟩
            cases h
            exact .cons hm1 (o2.ok ns rfl)
theorem dl_snoc {α : Type} (a : List α) (x : α) : (a ++ [x]).dropLast = a := by simp
theorem Fl.here {path : List Int} {t : Int} {w : Why} (nk : ¬ Kn g t) (c : Cause g w path t) : Fl g path t (w, path ++ [t]) :=
  ⟨nk, [], t, rfl, by rw [dl_snoc], by rw [dl_snoc]; exact c, trivial⟩
theorem Fl.up {path : List Int} {t m : Int} {e : Er} (fb : FB g t m) (nk : ¬ Kn g t) (h : Fl g (path ++ [t]) m e) : Fl g path t e := by
  obtain ⟨_, mid, last, h1, h2, h3, h4⟩ := h
  have e1 : path ++ [t] ++ m :: mid = path ++ t :: (m :: mid) := by simp
  rw [e1] at h1 h2 h3
  exact ⟨nk, m :: mid, last, h1, h2, h3, fb, h4⟩
theorem len_le_of_nodup {l k : List Int} (nd : l.Nodup) (sub : ∀ x ∈ l, x ∈ k) : l.length ≤ k.length := by
  induction l generalizing k with
  | nil => simp
  | cons a l ih =>
    have ha : a ∈ k := sub a (List.mem_cons_self ..)
    have nd' := List.nodup_cons.mp nd
    have := ih (k := k.erase a) nd'.2 fun x hx => by
      have hxk := sub x (List.mem_cons_of_mem _ hx)
      have hxa : x ≠ a := fun e => nd'.1 (e ▸ hx)
      exact (List.mem_erase_of_ne hxa).mpr hxk
    rw [List.length_erase_of_mem ha] at this
    have : 0 < k.length := List.length_pos_of_mem ha
    simp only [List.length_cons]
    omega
theorem visit_out {keys : List Int} (hk : ∀ t p, g.R t = some p → t ∈ keys) : ∀ (f : Nat) (path : List Int) (t : Int) (acc : Acc σ),
    keys.length < f + path.length → path.Nodup → (∀ x ∈ path, ∃ p, g.R x = some p) → (∀ x ∈ path, g.S x = none) → Ch g (path ++ [t]) → Good g acc → Out g path t acc (visit g f path t acc)
  | 0, path, t, acc, hf, nd, hp, _, _, _ => by
    have := len_le_of_nodup nd fun x hx => let ⟨p, h⟩ := hp x hx; hk x p h
    omega
  | f + 1, path, t, acc, hf, nd, hp, hps, ch, G => by
    have id0 : ∃ new, acc = acc ++ new ∧ ∀ e ∈ new, Rch g t e.t := ⟨[], by simp, by simp⟩
    simp only [visit]
    cases es : g.S t with
    | some n => exact ⟨G, id0, fun v h => (by cases h; exact .inl es), fun e h => (by cases h)⟩
    | none =>
      simp only
      cases el : lookV acc t with
      | some v => exact ⟨G, id0, fun v h => (by cases h; exact .inr el), fun e h => (by cases h)⟩
      | none =>
        simp only
        cases er : g.R t with
        | none =>
          have hnp : t ∉ path := fun h => by
            obtain ⟨p, hp'⟩ := hp t h
            rw [er] at hp'; cases hp'
          have nd2 : (path ++ [t]).Nodup := List.nodup_append.mpr ⟨nd, by simp, fun a ha b hb => by
            rw [List.mem_singleton] at hb; subst hb; exact fun e => hnp (e ▸ ha)⟩
          refine ⟨G, id0, fun v h => (by cases h), fun e h => ?_⟩
          cases h
          refine Fl.here (fun k => ?_) ⟨nd2, es, er⟩
          obtain ⟨s, ms, h1, _⟩ := k.inv es
          rw [er] at h1; cases h1
        | some p =>
          obtain ⟨s, ms⟩ := p
          simp only
          by_cases hin : t ∈ path
          · rw [if_pos hin]
            refine ⟨G, id0, fun v h => (by cases h), fun e h => ?_⟩
            cases h
            exact Fl.here (ring_in ch hin) ⟨nd, hin, es⟩
          · rw [if_neg hin]
            have nd2 : (path ++ [t]).Nodup := List.nodup_append.mpr ⟨nd, by simp, fun a ha b hb => by
              rw [List.mem_singleton] at hb; subst hb; exact fun e => hin (e ▸ ha)⟩
            have o := goAll_out (g := g) (path := path ++ [t]) (y := t) (f := visit g f (path ++ [t])) (ms := ms) (acc := acc) (fun m hm acc' G' =>
              visit_out hk f (path ++ [t]) m acc' (by simp only [List.length_append, List.length_cons, List.length_nil]; omega) nd2
                (fun x hx => (List.mem_append.mp hx).elim (hp x) fun h => by rw [List.mem_singleton] at h; exact ⟨(s, ms), h ▸ er⟩)
                (fun x hx => (List.mem_append.mp hx).elim (hps x) fun h => by rw [List.mem_singleton] at h; exact h ▸ es)
                (Ch.snoc ch ⟨es, s, ms, er, hm⟩) G') G
            cases e1 : goAll (visit g f (path ++ [t])) ms acc with
            | mk r1 a1 =>
              rw [e1] at o
              obtain ⟨new, hn, hr⟩ := o.pre
              have hpre : ∃ new, a1 = acc ++ new ∧ ∀ e ∈ new, Rch g t e.t := ⟨new, hn, fun e he => by
                obtain ⟨m, hm, h'⟩ := hr e he
                exact .head ⟨es, s, ms, er, hm⟩ h'⟩
              cases r1 with
              | error e =>
                refine ⟨o.good, hpre, fun v h => (by cases h), fun e' h => ?_⟩
                cases h
                obtain ⟨a, m, b, h1, h2, h3⟩ := o.er _ rfl
                have nk : ¬ Kn g t := fun k => by
                  obtain ⟨s', ms', h4, h5⟩ := k.inv es
                  rw [er] at h4; cases h4
                  exact h3.nk (h5 m (by rw [h1]; simp))
                exact Fl.up ⟨es, s, a, b, by rw [er, h1], h2, h3.nk⟩ nk h3
              | ok ns =>
                simp only
                have hall := o.ok ns rfl
                cases ew : g.W s ns with
                | none =>
                  refine ⟨o.good, hpre, fun v h => (by cases h), fun e' h => ?_⟩
                  cases h
                  have ha2 := hall.imp fun m n q => q.known o.good
                  refine Fl.here (fun k => ?_) ⟨nd2, es, s, ms, ns, er, ha2, ew⟩
                  obtain ⟨v, hv⟩ := k
                  obtain ⟨s', ms', ns', h4, h5, h6⟩ := hv.inv es
                  rw [er] at h4; cases h4
                  have := All2.det (P := Known g) (fun a b c p q => Known.det p q) ha2 h5
                  subst this
                  rw [ew] at h6; cases h6
                | some v =>
                  simp only
                  have hl1 : lookV a1 t = none := by
                    cases el1 : lookV a1 t with
                    | none => rfl
                    | some u =>
                      exfalso
                      have h1 : a1 = acc ++ new := hn
                      rw [h1, lookV_app, el] at el1
                      simp only at el1
                      obtain ⟨e, he, het, _⟩ := lookV_mem el1
                      obtain ⟨m, hm, h'⟩ := hr e he
                      obtain ⟨x, hx⟩ := hall.mem m hm
                      have hkn : Kn g t := ⟨v, Known.made es er (hall.imp fun m n q => q.known o.good) ew⟩
                      rw [het] at h'
                      have chain : ∀ {a b : Int}, Rch g a b → ∃ l, Ch g (a :: l) ∧ (a :: l).getLast? = some b := by
                        intro a b hab
                        induction hab with
                        | refl t => exact ⟨[], trivial, rfl⟩
                        | head lk _ ih =>
                          obtain ⟨l, h1, h2⟩ := ih
                          exact ⟨_ :: l, ⟨lk, h1⟩, by simpa using h2⟩
                      obtain ⟨l, c1, c2⟩ := chain h'
                      exact ring_not (x := t) (l := m :: l) ⟨⟨es, s, ms, er, hm⟩, c1⟩ (List.mem_of_getLast? c2) hkn
                  refine ⟨.snoc o.good es hl1 er hall ew, ?_, fun u h => ?_, fun e' h => (by cases h)⟩
                  · obtain ⟨nw, h1, h2⟩ := hpre
                    refine ⟨nw ++ [⟨t, s, ms, ns, v⟩], by simp only [h1, List.append_assoc], fun e he => ?_⟩
                    rcases List.mem_append.mp he with he | he
                    · exact h2 e he
                    · rw [List.mem_singleton] at he
                      subst he
                      exact .refl t
                  · cases h
                    right
                    show lookV (a1 ++ [_]) t = _
                    rw [lookV_app, hl1]
                    simp [lookV]
end
end Yd
set_option linter.all false
namespace Yd
variable {σ : Type}
section
variable {g : Pg σ}
theorem known_complete {k : Int → Option Int} (hs : ∀ t v, g.S t = some v → k t = some v) (sound : ∀ t v, k t = some v → Known g t v)
    (closed : ∀ t s ms ns, g.R t = some (s, ms) → k t = none → All2 (fun m n => k m = some n) ms ns → g.W s ns = none) {t v : Int} (h : Known g t v) : k t = some v := by
  obtain ⟨n, hn⟩ := h
  induction n using Nat.strongRecOn generalizing t v with
  | ind n ih =>
    cases es : g.S t with
    | some u =>
      have := Known.det (Known.src es) ⟨n, hn⟩
      subst this
      exact hs t u es
    | none =>
      obtain ⟨s, ms, ns, n', h1, h2, h3, h4⟩ := K_inv es hn
      have h5 : All2 (fun m n => k m = some n) ms ns := h3.imp fun m x q => ih n' h2 q
      cases ek : k t with
      | none =>
        have := closed t s ms ns h1 ek h5
        rw [h4] at this; cases this
      | some u =>
        have := Known.det (sound t u ek) ⟨n, hn⟩
        rw [this]
theorem known_iff {k : Int → Option Int} (hs : ∀ t v, g.S t = some v → k t = some v) (sound : ∀ t v, k t = some v → Known g t v)
    (closed : ∀ t s ms ns, g.R t = some (s, ms) → k t = none → All2 (fun m n => k m = some n) ms ns → g.W s ns = none) (t v : Int) : k t = some v ↔ Known g t v :=
  ⟨sound t v, known_complete hs sound closed⟩
abbrev Ent (σ : Type) := σ × List Int × List Int
abbrev Shf (σ : Type) := Int → Option (Ent σ)
def entV (e : Vs σ) : Ent σ := (e.s, e.ms, e.ns)
def findV : Acc σ → Int → Option (Vs σ)
  | [], _ => none
  | e :: r, t => if e.t = t then some e else findV r t
theorem lookV_find (t : Int) : ∀ a : Acc σ, lookV a t = (findV a t).map (·.v)
  | [] => rfl
  | e :: a => by
    simp only [lookV, findV]
    split
    · rfl
    · exact lookV_find t a
theorem findV_app (t : Int) : ∀ (a b : Acc σ), findV (a ++ b) t = (match findV a t with | some v => some v | none => findV b t)
  | [], b => rfl
  | e :: a, b => by
    simp only [List.cons_append, findV]
    split
    · rfl
    · exact findV_app t a b
def shOf (sh : Shf σ) (acc : Acc σ) : Shf σ := fun t => match findV acc t with
  | some e => some (entV e)
  | none => sh t
variable [DecidableEq σ]
def toldOf (sh : Shf σ) (acc : Acc σ) : List Int := (acc.filter fun e => decide (sh e.t ≠ some (entV e))).map (·.t)
theorem shOf_snoc (sh : Shf σ) (acc : Acc σ) (e : Vs σ) (h : findV acc e.t = none) : shOf sh (acc ++ [e]) = fun t => if t = e.t then some (entV e) else shOf sh acc t := by
  funext t
  simp only [shOf, findV_app]
  by_cases ht : t = e.t
  · subst ht
    rw [h]
    simp [findV]
  · rw [if_neg ht]
    have ht' : ¬ e.t = t := fun q => ht q.symm
    simp only [findV, if_neg ht']
    cases findV acc t <;> rfl
theorem toldOf_snoc (sh : Shf σ) (acc : Acc σ) (e : Vs σ) : toldOf sh (acc ++ [e]) = toldOf sh acc ++ (if sh e.t = some (entV e) then [] else [e.t]) := by
  unfold toldOf
  rw [List.filter_append, List.map_append]
  congr 1
  by_cases h : sh e.t = some (entV e)
  · simp [h]
  · simp [h]
omit [DecidableEq σ] in
theorem Good.find_known {acc : Acc σ} (G : Good g acc) : ∀ {t : Int} {e : Vs σ}, findV acc t = some e →
    e.t = t ∧ g.S t = none ∧ g.R t = some (e.s, e.ms) ∧ All2 (Has g acc) e.ms e.ns ∧ g.W e.s e.ns = some e.v ∧ All2 (Known g) e.ms e.ns := by
  induction G with
  | nil => intro t e h; cases h
  | snoc G hs hl hr ha hw ih =>
    rename_i a x
    intro t e h
    rw [findV_app] at h
    cases ef : findV a t with
    | some y =>
      rw [ef] at h
      cases h
      obtain ⟨h1, h2, h3, h4, h5, h6⟩ := ih ef
      exact ⟨h1, h2, h3, h4.imp fun _ _ q => q.mono, h5, h6⟩
    | none =>
      rw [ef] at h
      simp only [findV] at h
      split at h
      · rename_i hx
        cases h
        subst hx
        exact ⟨rfl, hs, hr, ha.imp fun _ _ q => q.mono, hw, ha.imp fun _ _ q => q.known G⟩
      · cases h
omit [DecidableEq σ] in
theorem Good.nodup {acc : Acc σ} (G : Good g acc) : (acc.map (·.t)).Nodup := by
  induction G with
  | nil => simp
  | snoc G hs hl hr ha hw ih =>
    rename_i a x
    rw [List.map_append]
    refine List.nodup_append.mpr ⟨ih, by simp, fun y hy z hz => ?_⟩
    simp only [List.map_cons, List.map_nil, List.mem_singleton] at hz
    subst hz
    intro e
    obtain ⟨w, hw1, hw2⟩ := List.mem_map.mp hy
    obtain ⟨u, hu⟩ := mem_lookV hw1
    rw [hw2, e, hl] at hu
    cases hu
omit [DecidableEq σ] in
theorem find_of_mem {acc : Acc σ} (nd : (acc.map (·.t)).Nodup) {e : Vs σ} (h : e ∈ acc) : findV acc e.t = some e := by
  induction acc with
  | nil => cases h
  | cons x a ih =>
    simp only [findV]
    rcases List.mem_cons.mp h with rfl | h
    · rw [if_pos rfl]
    · have nd' := List.nodup_cons.mp (show ((x :: a).map (·.t)).Nodup from nd)
      have : x.t ≠ e.t := fun q => nd'.1 (List.mem_map.mpr ⟨e, h, q.symm⟩)
      rw [if_neg this]
      exact ih nd'.2 h
theorem Good.closed {acc : Acc σ} (G : Good g acc) {y m : Int} {v : Int} (hy : Has g acc y v) (l : Lk g y m) : ∃ n, Has g acc m n := by
  obtain ⟨hs, s, ms, hr, hm⟩ := l
  rcases hy with h | h
  · rw [hs] at h; cases h
  · rw [lookV_find] at h
    cases ef : findV acc y with
    | none => rw [ef] at h; cases h
    | some e =>
      obtain ⟨h1, h2, h3, h4, _⟩ := G.find_known ef
      rw [hr] at h3
      cases h3
      exact h4.mem m hm
omit [DecidableEq σ] in
end
end Yd
set_option Elab.async false
set_option linter.all false
set_option maxRecDepth 100000
namespace Lw
open PySem L2 PyProof.Rows
def takeOf : List Int → Option Int
  | [] => none
  | n :: ns => if 0 ≤ n - ns.sum then some (n - ns.sum) else none
theorem takeOf_pos {n : Int} {ns : List Int} (h : 0 ≤ n - ns.sum) : takeOf (n :: ns) = some (n - ns.sum) := if_pos h
theorem takeOf_neg {n : Int} {ns : List Int} (h : ¬ 0 ≤ n - ns.sum) : takeOf (n :: ns) = none := if_neg h
def workOf (sort : Str) (ns : List Int) : Option (Option Int) := if sort = "sum" then some (some ns.sum) else if sort = "most" then some (great ns) else if sort = "take" then some (takeOf ns) else none
def good3 : List Str := ["sum", "most", "take"]
def wk (sort : Str) (ns : List Int) : Option Int := match workOf sort ns with | some r => r | none => none
theorem work_some {sort : Str} {ns : List Int} {x : Option Int} (h : workOf sort ns = some x) : sort ∈ good3 := by
  unfold workOf at h
  unfold good3
  by_cases e1 : sort = "sum"
  · simp [e1]
  rw [if_neg e1] at h
  by_cases e2 : sort = "most"
  · simp [e2]
  rw [if_neg e2] at h
  by_cases e3 : sort = "take"
  · simp [e3]
  rw [if_neg e3] at h
  cases h
theorem work_none {sort : Str} {ns : List Int} (h : workOf sort ns = none) : sort ∉ good3 := by
  unfold workOf at h
  intro m
  unfold good3 at m
  simp only [List.mem_cons, List.not_mem_nil, or_false] at m
  rcases m with rfl | rfl | rfl
  · rw [if_pos rfl] at h; cases h
  · rw [if_neg (by decide +kernel), if_pos rfl] at h; cases h
  · rw [if_neg (by decide +kernel), if_neg (by decide +kernel), if_pos rfl] at h; cases h
theorem work_good {sort : Str} (ns : List Int) (h : sort ∈ good3) : workOf sort ns = some (wk sort ns) := by
  unfold wk
  cases e : workOf sort ns with
  | some r => rfl
  | none => exact absurd h (work_none e)
theorem in_good (sort : Str) : inV (.str sort) [.str "sum", .str "most", .str "take"] = decide (sort ∈ good3) := by
  unfold inV good3
  simp only [List.any_cons, List.any_nil, Bool.or_false, eqV, List.mem_cons, List.not_mem_nil, or_false]
  by_cases e1 : sort = "sum"
  · simp [e1]
  by_cases e2 : sort = "most"
  · simp [e2]
  by_cases e3 : sort = "take"
  · simp [e3]
  have f : ∀ x : Str, ¬ sort = x → (x == sort) = false := fun x h => by
    rw [beq_eq_false_iff_ne]
    exact fun z => h z.symm
  rw [f _ e1, f _ e2, f _ e3]
  simp [e1, e2, e3]
structure Blt (mg : Str → Option Value) : Prop where
  len : mg "len" = none
  isi : mg "isinstance" = none
  int : mg "int" = none
  bool : mg "bool" = none
  str : mg "str" = none
  list : mg "list" = none
  tuple : mg "tuple" = none
  dict : mg "dict" = none
  set : mg "set" = none
  sum : mg "sum" = none
  max : mg "max" = none
  sorted : mg "sorted" = none
  range : mg "range" = none
  ve : mg "ValueError" = none
inductive Deed
  | set (t n : Int)
  | drop (t : Int)
  | rcp (t : Int) (s : Str) (ms : List Int)
  | strike (t : Int)
  | lose (t : Int)
  | make (t : Int)
def Deed.t : Deed → Int
  | .set t _ => t | .drop t => t | .rcp t _ _ => t | .strike t => t | .lose t => t | .make t => t
def Deed.row (l : Addr) : Deed → List V
  | .set t n => [.str "set", .int t, .int n]
  | .drop t => [.str "drop", .int t]
  | .rcp t s _ => [.str "recipe", .int t, .str s, .ref l]
  | .strike t => [.str "strike", .int t]
  | .lose t => [.str "lose", .int t]
  | .make t => [.str "make", .int t]
def Deed.mk (H : Hp) (l : Addr) : Deed → Prop
  | .rcp _ _ ms => H l = some (.lst (ms.map V.int))
  | _ => True
def Deed.ok0 : Deed → Prop
  | .rcp _ s ms => ((reprText s).length ≤ 1000 ∧ PyData.canLay0 (.str s) = true) ∧ s.length ≤ 10 ∧ ms.length ≤ 20
  | _ => True
def Lim (t : Int) : Prop := -(2 ^ 200) < t ∧ t < 2 ^ 200
def Deed.ms : Deed → List Int
  | .rcp _ _ ms => ms
  | _ => []
def Deed.ok (d : Deed) : Prop := d.ok0 ∧ Lim d.t ∧ ∀ m ∈ d.ms, Lim m
def Deed.low (d : Deed) : Prop := (-1000 ≤ d.t ∧ d.t ≤ 1000) ∧ ∀ m ∈ d.ms, -1000 ≤ m ∧ m ≤ 1000
def DeedAt (H : Hp) (v : V) (d : Deed) : Prop := ∃ a l, v = .ref a ∧ H a = some (.tup (d.row l)) ∧ d.mk H l
theorem DeedAt.same {H H' : Hp} {v : V} {d : Deed} (h : DeedAt H v d) (s : Same H H') : DeedAt H' v d := by
  obtain ⟨a, l, e, h1, h2⟩ := h
  refine ⟨a, l, e, s _ _ h1, ?_⟩
  cases d with
  | rcp t x ms => exact s _ _ h2
  | _ => trivial
def DeedsAt (H : Hp) (p : Addr) (ds : List Deed) : Prop := ∃ vs, H p = some (.lst vs) ∧ Yd.All2 (DeedAt H) vs ds
theorem DeedsAt.same {H H' : Hp} {p : Addr} {ds : List Deed} (h : DeedsAt H p ds) (s : Same H H') : DeedsAt H' p ds := by
  obtain ⟨vs, h1, h2⟩ := h
  exact ⟨vs, s _ _ h1, h2.imp fun _ _ q => q.same s⟩
def DsOk (ds : List Deed) : Prop := ds.length ≤ 200 ∧ ∀ d ∈ ds, d.ok
theorem all2_get {α β : Type} {P : α → β → Prop} : ∀ {as : List α} {bs : List β}, Yd.All2 P as bs → ∀ (i : Nat) (a : α), as[i]? = some a → ∃ b, bs[i]? = some b ∧ P a b
  | _, _, .nil, i, a, h => by simp at h
  | _, _, .cons p r, 0, a, h => by simp at h; subst h; exact ⟨_, rfl, p⟩
  | _, _, .cons p r, i + 1, a, h => by
    obtain ⟨b, h1, h2⟩ := all2_get r i a (by simpa using h)
    exact ⟨b, by simpa using h1, h2⟩
theorem all2_get' {α β : Type} {P : α → β → Prop} : ∀ {as : List α} {bs : List β}, Yd.All2 P as bs → ∀ (i : Nat) (b : β), bs[i]? = some b → ∃ a, as[i]? = some a ∧ P a b
  | _, _, .nil, i, a, h => by simp at h
  | _, _, .cons p r, 0, a, h => by simp at h; subst h; exact ⟨_, rfl, p⟩
  | _, _, .cons p r, i + 1, a, h => by
    obtain ⟨b, h1, h2⟩ := all2_get' r i a (by simpa using h)
    exact ⟨b, by simpa using h1, h2⟩
def spWhole : Sp := fun vs H Q _ => ∃ n : Int, vs = [.int n] ∧ Q (.bl true) H
def spAt (K : PySem.W.Frag) : Sp := fun vs H Q _ => ∃ (p : Addr) (ns : List Int) (k : Nat), vs = [.ref p, .int k] ∧ SqL K H p (ns.map V.int) ∧ Q (.int (ns.getD k 0)) H
def spWork (K : PySem.W.Frag) : Sp := fun vs H Q _ => ∃ (p : Addr) (ns : List Int) (sort : Str) (r : Option Int), vs = [.str sort, .ref p] ∧ SqL K H p (ns.map V.int) ∧ workOf sort ns = some r ∧ ∀ H', Same H H' → Q (optV r) H'
def spUpto (K : PySem.W.Frag) : Sp := fun vs H Q _ => ∃ (p : Addr) (ns : List Int) (a b : V), vs = [.ref p, a, b] ∧ SqL K H p (ns.map V.int) ∧ ns.length ≤ 63 ∧ Q a H
def spDraw : Sp := fun vs H Q _ => ∃ n p m : Int, vs = [.int n, .int p, .int m] ∧ 0 < p ∧ 0 < m ∧ Q (.int (n * 48271 % p % m)) H
def spRow : Sp := fun vs H Q _ => ∃ (p : Addr) (ns : List Int), vs = [.ref p] ∧ H p = some (.lst (ns.map V.int)) ∧ Q (.bl true) H
def spOneDeed : Sp := fun vs H Q _ => ∃ w r : Int, vs = [.int w, .int r] ∧ ∀ (d : Deed) (v : V) (H' : Hp), Same H H' → DeedAt H' v d → d.ok0 → d.low → Q v H'
def spCopy : Sp := fun vs H Q _ => ∃ (p : Addr) (ds : List Deed), vs = [.ref p] ∧ DeedsAt H p ds ∧ DsOk ds ∧ ∀ (q : Addr) (H' : Hp), Same H H' → DeedsAt H' q ds → Q (.ref q) H'
theorem atI0 {α : Type} (x : α) (xs : List α) : atI (x :: xs) 0 = some x := by
  unfold atI ixN
  rw [if_pos (by decide), if_pos (by simp)]
  rfl
theorem cut1 (n : Int) (ns : List Int) : cutV (V.int n :: ns.map V.int) (some 1) none = ns.map V.int := by
  unfold cutV HT.sIx
  simp [List.take_of_length_le]
theorem kit_ii (K : PySem.W.Frag) : PySem.W.kitOne K (.type "int") (.type "int") = some true := by rfl
theorem kit_ib (K : PySem.W.Frag) : PySem.W.kitOne K (.type "int") (.type "bool") = some false := by
  show (if (Value.type "int" == Value.type "bool") = true then some true else PySem.W.kitCls K (.type "int") (.type "bool")) = some false
  rw [if_neg (by decide)]
  show (if PySem.W.kitMeta "bool" = true then (fastBuiltinMro "int").map (·.contains (.type "bool")) else none) = some false
  kernel_rfl
theorem kit_ll (K : PySem.W.Frag) : PySem.W.kitOne K (.type "list") (.type "list") = some true := by rfl
theorem kit_tt (K : PySem.W.Frag) : PySem.W.kitOne K (.type "tuple") (.type "tuple") = some true := by rfl
theorem kit_ss (K : PySem.W.Frag) : PySem.W.kitOne K (.type "str") (.type "str") = some true := by rfl
theorem int_at {ns : List Int} {i : Nat} {y : V} (h : (ns.map V.int)[i]? = some y) : ∃ z, y = .int z ∧ ns[i]? = some z := by
  rw [List.getElem?_map] at h
  cases e : ns[i]? with
  | none => rw [e] at h; cases h
  | some z => rw [e] at h; exact ⟨z, (Option.some.inj h).symm, rfl⟩
theorem units_of {k : Nat} {A : Around} (hr : Room k A) : A.units + 64 < cLine := hr.units
end Lw
set_option Elab.async false
set_option linter.all false
set_option maxRecDepth 100000
namespace L2
open PySem PySem.Spec PyProof.Rows
theorem cmp_list {K : PySem.W.Frag} {a D : Addr} {xs : List V} {places : List Nat} {te : TE} {σ : St} {H : Hp} {Q : VK} (Pv : Nat → Hp → List V → Prop) (hz : xs.length ≤ sizeLine)
    (h0 : Pv 0 (upd H D (.lst [])) []) (inv : ∀ i H1 ys, Pv i H1 ys → SqL K H1 a xs ∧ H1 D = some (.lst ys) ∧ ys.length = i)
    (hs : ∀ i x H1 ys, xs[i]? = some x → Pv i H1 ys → te (blkσ places (some x) σ) H1 fun y H3 => H3 D = some (.lst ys) ∧ Pv (i + 1) (upd H3 D (.lst (ys ++ [y]))) (ys ++ [y]))
    (mono : ∀ σ H1 (Q1 Q2 : VK), (∀ v H2, Q1 v H2 → Q2 v H2) → te σ H1 Q1 → te σ H1 Q2)
    (hd : ∀ H1 ys, Pv xs.length H1 ys → Q (.ref D) H1) : compBody (Itl K a) places tYes te σ Q H D := by
  refine ⟨fun i m H1 => m = xs.length - i ∧ i ≤ xs.length ∧ ∃ ys, Pv i H1 ys, ⟨xs.length, by omega, Nat.zero_le _, [], h0⟩, ?_⟩
  rintro i m H1 ⟨rfl, hi, ys, pv⟩
  obtain ⟨sq, hD, hl⟩ := inv i H1 ys pv
  by_cases hlt : i < xs.length
  · right
    have hx : xs[i]? = some xs[i] := List.getElem?_eq_getElem hlt
    refine ⟨⟨xs, xs[i], sq, hx⟩, fun H2 => ∃ ys, Pv (i + 1) H2 ys, fun H2 ⟨ys, p⟩ => ⟨xs.length - (i + 1), by omega, rfl, hlt, ys, p⟩, ?_⟩
    rintro x H2 ⟨rfl, hy⟩
    have e := hy xs sq
    unfold tYes
    dsimp only
    rw [if_pos rfl]
    refine mono _ _ _ _ (fun y H3 q => ?_) (hs i x H2 ys e pv)
    exact ⟨ys, q.1, by omega, _, q.2⟩
  · left
    have e : i = xs.length := by omega
    subst e
    exact ⟨⟨xs, sq, Nat.le_refl _⟩, hd _ _ pv⟩
end L2
namespace Lw
open PySem L2 PyProof.Rows
theorem two_at (a b z : Int) : ∃ n, atI [V.int a, V.int b] (z % 2) = some (.int n) := by
  have h0 : 0 ≤ z % 2 := Int.emod_nonneg _ (by decide)
  have h1 : z % 2 < 2 := Int.emod_lt_of_pos _ (by decide)
  generalize z % 2 = k at h0 h1
  have hk : k = 0 ∨ k = 1 := by omega
  rcases hk with rfl | rfl
  · exact ⟨a, rfl⟩
  · exact ⟨b, rfl⟩
theorem many_at (z : Int) : ∃ n : Int, atI [V.int 0, V.int 1, V.int 2, V.int 3, V.int 0, V.int 1, V.int 2, V.int 9] (z % 8) = some (.int n) ∧ 0 ≤ n ∧ n ≤ 9 := by
  have h0 : 0 ≤ z % 8 := Int.emod_nonneg _ (by decide)
  have h1 : z % 8 < 8 := Int.emod_lt_of_pos _ (by decide)
  generalize z % 8 = k at h0 h1
  have hk : k = 0 ∨ k = 1 ∨ k = 2 ∨ k = 3 ∨ k = 4 ∨ k = 5 ∨ k = 6 ∨ k = 7 := by omega
  rcases hk with rfl | rfl | rfl | rfl | rfl | rfl | rfl | rfl
  · exact ⟨0, rfl, by decide, by decide⟩
  · exact ⟨1, rfl, by decide, by decide⟩
  · exact ⟨2, rfl, by decide, by decide⟩
  · exact ⟨3, rfl, by decide, by decide⟩
  · exact ⟨0, rfl, by decide, by decide⟩
  · exact ⟨1, rfl, by decide, by decide⟩
  · exact ⟨2, rfl, by decide, by decide⟩
  · exact ⟨9, rfl, by decide, by decide⟩
def short (s : Str) : Prop := ((reprText s).length ≤ 1000 ∧ PyData.canLay0 (.str s) = true) ∧ s.length ≤ 10
theorem short_all : ∀ s ∈ (["sum", "take", "most", "mix"] : List Str), ((reprText s).length ≤ 1000 ∧ PyData.canLay0 (.str s) = true) ∧ s.length ≤ 10 := by decide +kernel
theorem sort5_at (z : Int) : ∃ s, atI [V.str "sum", V.str "take", V.str "most", V.str "sum", V.str "mix"] (z % 5) = some (.str s) ∧ short s := by
  have h0 : 0 ≤ z % 5 := Int.emod_nonneg _ (by decide)
  have h1 : z % 5 < 5 := Int.emod_lt_of_pos _ (by decide)
  generalize z % 5 = k at h0 h1
  have hk : k = 0 ∨ k = 1 ∨ k = 2 ∨ k = 3 ∨ k = 4 := by omega
  rcases hk with rfl | rfl | rfl | rfl | rfl
  · exact ⟨"sum", rfl, short_all _ (by decide +kernel)⟩
  · exact ⟨"take", rfl, short_all _ (by decide +kernel)⟩
  · exact ⟨"most", rfl, short_all _ (by decide +kernel)⟩
  · exact ⟨"sum", rfl, short_all _ (by decide +kernel)⟩
  · exact ⟨"mix", rfl, short_all _ (by decide +kernel)⟩
theorem sort3_at (z : Int) : ∃ s, atI [V.str "sum", V.str "take", V.str "most"] (z % 3) = some (.str s) ∧ short s := by
  have h0 : 0 ≤ z % 3 := Int.emod_nonneg _ (by decide)
  have h1 : z % 3 < 3 := Int.emod_lt_of_pos _ (by decide)
  generalize z % 3 = k at h0 h1
  have hk : k = 0 ∨ k = 1 ∨ k = 2 := by omega
  rcases hk with rfl | rfl | rfl
  · exact ⟨"sum", rfl, short_all _ (by decide +kernel)⟩
  · exact ⟨"take", rfl, short_all _ (by decide +kernel)⟩
  · exact ⟨"most", rfl, short_all _ (by decide +kernel)⟩
theorem sort2_at (z : Int) : ∃ s, atI [V.str "most", V.str "sum"] (z % 2) = some (.str s) ∧ short s := by
  have h0 : 0 ≤ z % 2 := Int.emod_nonneg _ (by decide)
  have h1 : z % 2 < 2 := Int.emod_lt_of_pos _ (by decide)
  generalize z % 2 = k at h0 h1
  have hk : k = 0 ∨ k = 1 := by omega
  rcases hk with rfl | rfl
  · exact ⟨"most", rfl, short_all _ (by decide +kernel)⟩
  · exact ⟨"sum", rfl, short_all _ (by decide +kernel)⟩
theorem word_at (z t : Int) : ∃ (s : Str) (d : Deed), atI [V.str "drop", V.str "strike", V.str "lose", V.str "lose"] (z % 4) = some (.str s) ∧ (∀ l, d.row l = [.str s, .int t]) ∧ (d.ok0 ∧ d.t = t ∧ d.ms = []) ∧ ∀ H l, d.mk H l := by
  have h0 : 0 ≤ z % 4 := Int.emod_nonneg _ (by decide)
  have h1 : z % 4 < 4 := Int.emod_lt_of_pos _ (by decide)
  generalize z % 4 = k at h0 h1
  have hk : k = 0 ∨ k = 1 ∨ k = 2 ∨ k = 3 := by omega
  rcases hk with rfl | rfl | rfl | rfl
  · exact ⟨"drop", .drop t, rfl, fun _ => rfl, ⟨trivial, rfl, rfl⟩, fun _ _ => trivial⟩
  · exact ⟨"strike", .strike t, rfl, fun _ => rfl, ⟨trivial, rfl, rfl⟩, fun _ _ => trivial⟩
  · exact ⟨"lose", .lose t, rfl, fun _ => rfl, ⟨trivial, rfl, rfl⟩, fun _ _ => trivial⟩
  · exact ⟨"lose", .lose t, rfl, fun _ => rfl, ⟨trivial, rfl, rfl⟩, fun _ _ => trivial⟩
theorem ints_snoc (ms : List Int) (n : Int) : (ms ++ [n]).map V.int = ms.map V.int ++ [V.int n] := by simp
theorem line1000 : 1000 ≤ sizeLine := by decide
end Lw
set_option Elab.async false
set_option linter.all false
set_option maxRecDepth 100000
namespace Lw
open PySem L2 PyProof.Rows
def DeedOff (c : Addr) (H : Hp) (v : V) (d : Deed) : Prop := ∃ a l, v = .ref a ∧ H a = some (.tup (d.row l)) ∧ d.mk H l ∧ l ≠ c
theorem DeedOff.at_ {c : Addr} {H : Hp} {v : V} {d : Deed} (h : DeedOff c H v d) : DeedAt H v d := let ⟨a, l, e, h1, h2, _⟩ := h; ⟨a, l, e, h1, h2⟩
theorem mk_same {H H' : Hp} {d : Deed} {l : Addr} (h : d.mk H l) (s : Same H H') : d.mk H' l := by
  cases d with
  | rcp t x ms => exact s _ _ h
  | _ => trivial
theorem DeedOff.same {c : Addr} {H H' : Hp} {v : V} {d : Deed} (h : DeedOff c H v d) (s : Same H H') : DeedOff c H' v d := let ⟨a, l, e, h1, h2, h3⟩ := h; ⟨a, l, e, s _ _ h1, mk_same h2 s, h3⟩
theorem DeedOff.upd {c : Addr} {H : Hp} {v : V} {d : Deed} {us us' : List V} (h : DeedOff c H v d) (hc : H c = some (.lst us)) : DeedOff c (upd H c (.lst us')) v d := by
  obtain ⟨a, l, e, h1, h2, h3⟩ := h
  refine ⟨a, l, e, ?_, ?_, h3⟩
  · rw [upd_ne (ne_of h1 hc (by intro z; cases z))]
    exact h1
  · cases d with
    | rcp t x ms =>
      show L2.upd H c (.lst us') l = some (.lst (ms.map V.int))
      rw [upd_ne h3]
      exact h2
    | _ => trivial
theorem DeedAt.off {c : Addr} {H : Hp} {v : V} {d : Deed} (h : DeedAt H v d) (hc : H c = none) : DeedOff c H v d := by
  obtain ⟨a, l, e, h1, h2⟩ := h
  cases d with
  | rcp t x ms => exact ⟨a, l, e, h1, h2, ne_of_none (show H l = some (.lst (ms.map V.int)) from h2) hc⟩
  | set t n => exact ⟨a, c + 1, e, h1, trivial, Nat.succ_ne_self c⟩
  | drop t => exact ⟨a, c + 1, e, h1, trivial, Nat.succ_ne_self c⟩
  | strike t => exact ⟨a, c + 1, e, h1, trivial, Nat.succ_ne_self c⟩
  | lose t => exact ⟨a, c + 1, e, h1, trivial, Nat.succ_ne_self c⟩
  | make t => exact ⟨a, c + 1, e, h1, trivial, Nat.succ_ne_self c⟩
theorem offs_upd {c : Addr} {H : Hp} {us : List V} {us' : List V} {vs : List V} {ds : List Deed} (h : Yd.All2 (DeedOff c H) vs ds) (hc : H c = some (.lst us)) : Yd.All2 (DeedOff c (upd H c (.lst us'))) vs ds := h.imp fun _ _ q => q.upd hc
theorem all2_snoc {α β : Type} {P : α → β → Prop} {as : List α} {bs : List β} {a : α} {b : β} (h : Yd.All2 P as bs) (p : P a b) : Yd.All2 P (as ++ [a]) (bs ++ [b]) := h.append (.cons p .nil)
theorem snoc_off {c : Addr} {H H2 H3 : Hp} {us : List V} {ds : List Deed} {x : V} {d : Deed} (h0 : H c = none) (s2 : Same H H2) (s3 : Same H2 H3) (hc : H2 c = some (.lst us)) (h : Yd.All2 (DeedOff c H2) us ds) (hx : DeedOff c H3 x d) :
    Same H (upd H3 c (.lst (us ++ [x]))) ∧ (upd H3 c (.lst (us ++ [x]))) c = some (.lst (us ++ [x])) ∧ Yd.All2 (DeedOff c (upd H3 c (.lst (us ++ [x])))) (us ++ [x]) (ds ++ [d]) := by
  have hc3 := s3 _ _ hc
  refine ⟨fun b o e => ?_, upd_same, all2_snoc (offs_upd (h.imp fun _ _ q => q.same s3) hc3) (hx.upd hc3)⟩
  rw [upd_ne (ne_of_none e h0)]
  exact s3 _ _ (s2 _ _ e)
theorem row0 (d : Deed) (l : Addr) : ∃ s r, d.row l = .str s :: .int d.t :: r ∧ (s = "recipe" ↔ ∃ t x ms, d = .rcp t x ms) := by
  cases d with
  | set t n => exact ⟨"set", _, rfl, ⟨fun h => absurd h (by decide +kernel), fun ⟨_, _, _, h⟩ => nomatch h⟩⟩
  | drop t => exact ⟨"drop", _, rfl, ⟨fun h => absurd h (by decide +kernel), fun ⟨_, _, _, h⟩ => nomatch h⟩⟩
  | rcp t x ms => exact ⟨"recipe", _, rfl, ⟨fun _ => ⟨t, x, ms, rfl⟩, fun _ => rfl⟩⟩
  | strike t => exact ⟨"strike", _, rfl, ⟨fun h => absurd h (by decide +kernel), fun ⟨_, _, _, h⟩ => nomatch h⟩⟩
  | lose t => exact ⟨"lose", _, rfl, ⟨fun h => absurd h (by decide +kernel), fun ⟨_, _, _, h⟩ => nomatch h⟩⟩
  | make t => exact ⟨"make", _, rfl, ⟨fun h => absurd h (by decide +kernel), fun ⟨_, _, _, h⟩ => nomatch h⟩⟩
theorem atI1 {α : Type} (x y : α) (xs : List α) : atI (x :: y :: xs) 1 = some y := atI_nat (j := 1) rfl
theorem atI2 {α : Type} (x y z : α) (xs : List α) : atI (x :: y :: z :: xs) 2 = some z := atI_nat (j := 2) rfl
theorem atI3 {α : Type} (x y z u : α) (xs : List α) : atI (x :: y :: z :: u :: xs) 3 = some u := atI_nat (j := 3) rfl
end Lw
set_option Elab.async false
set_option linter.all false
set_option maxRecDepth 100000
namespace L2
open PySem PySem.Spec PyProof.Rows
theorem vals_at : ∀ {xs : List V} {us : List Value}, xs.length = us.length → (∀ (j : Nat) (x : V) (u : Value), xs[j]? = some x → us[j]? = some u → RelV x u) → Vals xs us
  | [], [], _, _ => .nil
  | [], _ :: _, h, _ => by simp at h
  | _ :: _, [], h, _ => by simp at h
  | x :: xs, u :: us, h, f => .cons (f 0 x u rfl rfl) (vals_at (by simpa using h) fun j y v e1 e2 => f (j + 1) y v (by simpa using e1) (by simpa using e2))
theorem kV_of : ∀ {k : Key} {v : Value}, keyIs k v = true → RelV (kV k) v := fun {k v} h => by
  rcases keyIs_shape h with ⟨i, t, rfl, rfl⟩ | ⟨x, t, rfl, rfl⟩
  · exact ⟨t, rfl⟩
  · exact ⟨t, rfl⟩
theorem KV.at_ : ∀ {kvs : List (Key × V)} {vs : List (Key × Value)}, KV kvs vs → ∀ (j : Nat) (k : Key) (x : Value), vs[j]? = some (k, x) → ∃ y, kvs[j]? = some (k, y)
  | _, _, .nil, j, k, x, e => by simp at e
  | _, _, .cons (a := a) h r, 0, k, x, e => by
    simp only [List.getElem?_cons_zero, Option.some.injEq] at e
    subst e
    have e1 : a.1 = k := h.1
    exact ⟨a.2, by simp only [List.getElem?_cons_zero]; rw [← e1]⟩
  | _, _, .cons h r, j + 1, k, x, e => KV.at_ r j k x (by simpa using e)
section
variable {X : Cx}
theorem vals_keys {kvs : List (Key × V)} {vs : List (Key × Value)} {acc : List Value} (rel : KV kvs vs) (hl : acc.length = vs.length) (hv : ∀ (j : Nat) (u : Value), acc[j]? = some u → ∃ k x, vs[j]? = some (k, x) ∧ keyIs k u = true) :
    Vals (kvs.map fun p => kV p.1) acc := by
  refine vals_at (by rw [List.length_map, hl]; exact rel.length) fun j y u e1 e2 => ?_
  obtain ⟨k, x, e3, e4⟩ := hv j u e2
  obtain ⟨z, e5⟩ := rel.at_ j k x e3
  rw [List.getElem?_map, e5] at e1
  cases e1
  exact kV_of e4
theorem call_listD (hc : X.calm = true) : CallR X (.type "list") (fun xs H Q => ∃ a kvs, xs = [.ref a] ∧ Rd H a (.dK kvs) ∧ ∀ l, H l = none → Q (.ref l) (upd H l (.lst (kvs.map fun p => kV p.1)))) := by
  intro pins s σ H xs us Q I r h
  obtain ⟨a, kvs, rfl, hd, q⟩ := h
  obtain ⟨u, rfl, rx⟩ := vals1 r
  cases rx
  obtain ⟨z, lo, vs, rel, dd⟩ := dk_rd I.hok hd
  obtain ⟨ep, hat⟩ := dd.dictAt
  refine PySem.W.kdl_call (PySem.W.kdl_dict (knd := mixKind X.prog X.w) (kvs := vs) (ep := ep) lo) (I.ok.hd hc) hat (by rw [← rel.length]; exact z) fun h' tk acc' c' hk hD hacc => ?_
  have rv : Vals (kvs.map fun p => kV p.1) acc'.toList := vals_keys rel (by rw [Array.length_toList]; exact hacc.1) fun j u e => hacc.2 j u (by rw [← Array.getElem?_toList]; exact e)
  refine ⟨.ref s.heap.objs.size, _, I.laid (t' := tk) hk (Nat.le_refl _) (show ObjOk X.prog X.w _ h' _ (.lst (kvs.map fun p => kV p.1)) from ⟨by rw [List.length_map]; exact z, acc'.toList, c', rv, ?_⟩), rfl, q _ (I.hok.fresh (Nat.le_refl _))⟩
  rw [Array.toArray_toList]
  exact hD
theorem call_dictD : CallR X (.type "dict") (fun xs H Q => ∃ a kvs, xs = [.ref a] ∧ Rd H a (.dK kvs) ∧ ∀ l, H l = none → Q (.ref l) (upd H l (.dK kvs))) := by
  intro pins s σ H xs us Q I r h
  obtain ⟨a, kvs, rfl, hd, q⟩ := h
  obtain ⟨u, rfl, rx⟩ := vals1 r
  cases rx
  exact d_copyOf I hd fun p s' hp I' => ⟨.ref p, _, I', rfl, q p hp⟩
end
end L2
set_option Elab.async false
set_option linter.all false
set_option maxRecDepth 100000
namespace Yd
section
variable {α : Type}
def fnd : List (Int × α) → Int → Option α
  | [], _ => none
  | p :: r, t => if p.1 = t then some p.2 else fnd r t
def hasA (R : List (Int × α)) (t : Int) : Bool := R.any fun p => decide (p.1 = t)
def setA (R : List (Int × α)) (t : Int) (x : α) : List (Int × α) := if hasA R t = true then R.map (fun p => if p.1 = t then (p.1, x) else p) else R ++ [(t, x)]
def dropA (R : List (Int × α)) (t : Int) : List (Int × α) := R.filter fun p => decide (p.1 ≠ t)
theorem hasA_iff (R : List (Int × α)) (t : Int) : hasA R t = (fnd R t).isSome := by
  induction R with
  | nil => rfl
  | cons p r ih =>
    show (decide (p.1 = t) || hasA r t) = _
    by_cases e : p.1 = t
    · simp [fnd, e]
    · simp [fnd, e, ih]
theorem fnd_map (R : List (Int × α)) (t : Int) (x : α) (u : Int) : fnd (R.map (fun p => if p.1 = t then (p.1, x) else p)) u = if u = t then (if hasA R t = true then some x else none) else fnd R u := by
  induction R with
  | nil => simp [fnd, hasA]
  | cons p r ih =>
    rw [List.map_cons]
    by_cases e : p.1 = t
    · rw [if_pos e]
      show (if p.1 = u then some x else fnd _ u) = _
      by_cases e2 : u = t
      · rw [if_pos (by rw [e, e2]), if_pos e2, if_pos (by simp [hasA, e])]
      · rw [if_neg (by rw [e]; exact Ne.symm e2), ih, if_neg e2, if_neg e2]
        show _ = if p.1 = u then _ else _
        rw [if_neg (by rw [e]; exact Ne.symm e2)]
    · rw [if_neg e]
      show (if p.1 = u then some p.2 else fnd _ u) = _
      have hh : hasA (p :: r) t = hasA r t := by simp [hasA, e]
      rw [ih, hh]
      by_cases e2 : u = t
      · rw [if_pos e2, if_pos e2, if_neg (by rw [e2]; exact e)]
      · rw [if_neg e2, if_neg e2]
        rfl
theorem fnd_snoc (R : List (Int × α)) (t : Int) (x : α) (u : Int) (h : fnd R t = none) : fnd (R ++ [(t, x)]) u = if u = t then some x else fnd R u := by
  induction R with
  | nil =>
    show (if t = u then some x else none) = _
    by_cases e : u = t
    · rw [if_pos e, if_pos e.symm]
    · rw [if_neg e, if_neg (Ne.symm e)]; rfl
  | cons p r ih =>
    have h' : (if p.1 = t then some p.2 else fnd r t) = none := h
    have hp : ¬ p.1 = t := fun e => by rw [if_pos e] at h'; cases h'
    rw [if_neg hp] at h'
    show (if p.1 = u then some p.2 else fnd (r ++ [(t, x)]) u) = if u = t then some x else (if p.1 = u then some p.2 else fnd r u)
    rw [ih h']
    by_cases e : u = t
    · rw [if_pos e, if_pos e, if_neg (by rw [e]; exact hp)]
    · rw [if_neg e, if_neg e]
theorem fnd_set (R : List (Int × α)) (t : Int) (x : α) (u : Int) : fnd (setA R t x) u = if u = t then some x else fnd R u := by
  unfold setA
  by_cases h : hasA R t = true
  · rw [if_pos h, fnd_map, if_pos h]
  · rw [if_neg h]
    exact fnd_snoc R t x u (by rw [hasA_iff] at h; simpa using h)
theorem fnd_drop (R : List (Int × α)) (t u : Int) : fnd (dropA R t) u = if u = t then none else fnd R u := by
  induction R with
  | nil => simp [fnd, dropA]
  | cons p r ih =>
    have ih' : fnd (r.filter fun p => decide (p.1 ≠ t)) u = if u = t then none else fnd r u := ih
    unfold dropA
    by_cases e : p.1 = t
    · rw [List.filter_cons_of_neg (by simp [e]), ih']
      by_cases e2 : u = t
      · rw [if_pos e2, if_pos e2]
      · rw [if_neg e2, if_neg e2]
        show _ = if p.1 = u then _ else _
        rw [if_neg (by rw [e]; exact Ne.symm e2)]
    · rw [List.filter_cons_of_pos (by simp [e])]
      show (if p.1 = u then some p.2 else fnd _ u) = if u = t then none else (if p.1 = u then some p.2 else fnd r u)
      rw [ih']
      by_cases e2 : u = t
      · rw [if_pos e2, if_pos e2, if_neg (by rw [e2]; exact e)]
      · rw [if_neg e2, if_neg e2]
def keysA (R : List (Int × α)) : List Int := R.map (·.1)
theorem keys_set (R : List (Int × α)) (t : Int) (x : α) : keysA (setA R t x) = if hasA R t = true then keysA R else keysA R ++ [t] := by
  unfold setA keysA
  by_cases h : hasA R t = true
  · rw [if_pos h, if_pos h, List.map_map]
    congr 1
    funext p
    show (if p.1 = t then (p.1, x) else p).1 = p.1
    by_cases e : p.1 = t
    · rw [if_pos e]
    · rw [if_neg e]
  · rw [if_neg h, if_neg h, List.map_append]
    rfl
theorem mem_keys (R : List (Int × α)) (t : Int) : t ∈ keysA R ↔ ∃ x, fnd R t = some x := by
  have := hasA_iff R t
  unfold hasA at this
  constructor
  · intro h
    obtain ⟨p, hp, e⟩ := List.mem_map.mp h
    have q : (R.any fun p => decide (p.1 = t)) = true := List.any_eq_true.mpr ⟨p, hp, decide_eq_true e⟩
    rw [q] at this
    exact Option.isSome_iff_exists.mp this.symm
  · rintro ⟨x, h⟩
    rw [h] at this
    obtain ⟨p, hp, e⟩ := List.any_eq_true.mp this
    exact List.mem_map.mpr ⟨p, hp, of_decide_eq_true e⟩
theorem nd_set (R : List (Int × α)) (t : Int) (x : α) (h : (keysA R).Nodup) : (keysA (setA R t x)).Nodup := by
  rw [keys_set]
  by_cases e : hasA R t = true
  · rw [if_pos e]; exact h
  · rw [if_neg e]
    refine List.nodup_append.mpr ⟨h, by simp, fun a ha b hb z => ?_⟩
    have hb' : b = t := by simpa using hb
    subst z
    subst hb'
    obtain ⟨y, hy⟩ := (mem_keys R _).mp ha
    rw [hasA_iff, hy] at e
    exact e rfl
theorem nd_drop (R : List (Int × α)) (t : Int) (h : (keysA R).Nodup) : (keysA (dropA R t)).Nodup := h.sublist (List.Sublist.map _ List.filter_sublist)
theorem len_set (R : List (Int × α)) (t : Int) (x : α) : (setA R t x).length ≤ R.length + 1 := by
  unfold setA
  by_cases h : hasA R t = true
  · rw [if_pos h, List.length_map]; omega
  · rw [if_neg h]; simp
theorem len_drop (R : List (Int × α)) (t : Int) : (dropA R t).length ≤ R.length := List.length_filter_le ..
theorem fnd_ix {R : List (Int × α)} (nd : (keysA R).Nodup) : ∀ {i : Nat} {p : Int × α}, R[i]? = some p → fnd R p.1 = some p.2 := by
  induction R with
  | nil => intro i p h; simp at h
  | cons q r ih =>
    intro i p h
    have nd' : (q.1 :: keysA r).Nodup := nd
    obtain ⟨n1, n2⟩ := List.nodup_cons.mp nd'
    cases i with
    | zero => simp at h; subst h; simp [fnd]
    | succ i =>
      have h' : r[i]? = some p := by simpa using h
      have : ¬ q.1 = p.1 := fun e => n1 (List.mem_map.mpr ⟨p, List.mem_of_getElem? h', e.symm⟩)
      show (if q.1 = p.1 then _ else _) = _
      rw [if_neg this]
      exact ih n2 h'
end
end Yd
namespace Lw
open PySem L2 PyProof.Rows Yd
section
variable {α : Type} {P Q : V → α → Prop}
def RowsR (P : V → α → Prop) (kvs : List (Key × V)) (R : List (Int × α)) : Prop := All2 (fun (p : Key × V) (q : Int × α) => p.1 = Sum.inl q.1 ∧ P p.2 q.2) kvs R
theorem RowsR.imp {kvs : List (Key × V)} {R : List (Int × α)} (h : RowsR P kvs R) (f : ∀ v x, P v x → Q v x) : RowsR Q kvs R := All2.imp (fun _ _ q => ⟨q.1, f _ _ q.2⟩) h
theorem RowsR.len {kvs : List (Key × V)} {R : List (Int × α)} (h : RowsR P kvs R) : kvs.length = R.length := All2.len h
theorem RowsR.val {kvs : List (Key × V)} {R : List (Int × α)} (h : RowsR P kvs R) (t : Int) : (fnd R t = none ∧ valV kvs (.inl t) = none) ∨ ∃ x v, fnd R t = some x ∧ valV kvs (.inl t) = some v ∧ P v x := by
  induction h with
  | nil => exact .inl ⟨rfl, rfl⟩
  | @cons p q ps qs h r ih =>
    obtain ⟨h1, h2⟩ := h
    by_cases e : q.1 = t
    · right
      exact ⟨q.2, p.2, by simp [fnd, e], valV_pos (by rw [h1, e]), h2⟩
    · have e1 : ¬ p.1 = Sum.inl t := fun z => e (by rw [h1] at z; exact Sum.inl.inj z)
      have e2 : fnd (q :: qs) t = fnd qs t := by
        show (if q.1 = t then _ else _) = _
        rw [if_neg e]
      rw [e2, valV_neg e1]
      exact ih
theorem RowsR.has {kvs : List (Key × V)} {R : List (Int × α)} (h : RowsR P kvs R) (t : Int) : (valV kvs (.inl t)).isSome = (fnd R t).isSome := by
  rcases h.val t with ⟨h1, h2⟩ | ⟨x, v, h1, h2, _⟩
  · rw [h1, h2]; rfl
  · rw [h1, h2]; rfl
theorem RowsR.put {kvs : List (Key × V)} {R : List (Int × α)} (h : RowsR P kvs R) (t : Int) {v : V} {x : α} (hv : P v x) : RowsR P (putK kvs (.inl t) v) (setA R t x) := by
  unfold putK setA
  have e : (kvs.any fun kv => decide (kv.1 = Sum.inl t)) = hasA R t := by
    rw [valV_any, h.has, hasA_iff]
  rw [e]
  by_cases hh : hasA R t = true
  · rw [if_pos hh, if_pos hh]
    clear hh e
    induction h with
    | nil => exact .nil
    | @cons p q ps qs g r ih =>
      obtain ⟨h1, h2⟩ := g
      rw [List.map_cons, List.map_cons]
      refine .cons ?_ ih
      by_cases e : q.1 = t
      · rw [if_pos (by rw [h1, e]), if_pos e]
        exact ⟨h1, hv⟩
      · rw [if_neg (fun z => e (by rw [h1] at z; exact Sum.inl.inj z)), if_neg e]
        exact ⟨h1, h2⟩
  · rw [if_neg hh, if_neg hh]
    exact All2.append h (.cons ⟨rfl, hv⟩ .nil)
theorem RowsR.drop {kvs : List (Key × V)} {R : List (Int × α)} (h : RowsR P kvs R) (t : Int) : RowsR P (dropK kvs (.inl t)) (dropA R t) := by
  unfold dropK dropA
  induction h with
  | nil => exact .nil
  | @cons p q ps qs g r ih =>
    obtain ⟨h1, h2⟩ := g
    by_cases e : q.1 = t
    · rw [List.filter_cons_of_neg (by simp [h1, e]), List.filter_cons_of_neg (by simp [e])]
      exact ih
    · rw [List.filter_cons_of_pos (by simp [h1, e]), List.filter_cons_of_pos (by simp [e])]
      exact .cons ⟨h1, h2⟩ ih
theorem RowsR.keys {kvs : List (Key × V)} {R : List (Int × α)} (h : RowsR P kvs R) : (kvs.map fun p => kV p.1) = (keysA R).map V.int := by
  induction h with
  | nil => rfl
  | @cons p q ps qs g r ih =>
    rw [List.map_cons, ih, g.1]
    rfl
end
abbrev Rcp := Str × List Int
def RcpAt (H : Hp) (v : V) (x : Rcp) : Prop := ∃ a l, v = .ref a ∧ H a = some (.tup [.str x.1, .ref l]) ∧ H l = some (.lst (x.2.map V.int))
theorem RcpAt.same {H H' : Hp} {v : V} {x : Rcp} (h : RcpAt H v x) (s : Same H H') : RcpAt H' v x := let ⟨a, l, e, h1, h2⟩ := h; ⟨a, l, e, s _ _ h1, s _ _ h2⟩
theorem RcpAt.upd {H : Hp} {v : V} {x : Rcp} {d : Addr} {kvs kvs' : List (Key × V)} (h : RcpAt H v x) (hd : H d = some (.dK kvs)) : RcpAt (upd H d (.dK kvs')) v x := by
  obtain ⟨a, l, e, h1, h2⟩ := h
  refine ⟨a, l, e, ?_, ?_⟩
  · rw [upd_ne (ne_of h1 hd (by intro z; cases z))]; exact h1
  · rw [upd_ne (ne_of h2 hd (by intro z; cases z))]; exact h2
def RcsAt (H : Hp) (d : Addr) (R : List (Int × Rcp)) : Prop := ∃ kvs, H d = some (.dK kvs) ∧ RowsR (RcpAt H) kvs R
theorem RcsAt.same {H H' : Hp} {d : Addr} {R : List (Int × Rcp)} (h : RcsAt H d R) (s : Same H H') : RcsAt H' d R := let ⟨kvs, h1, h2⟩ := h; ⟨kvs, s _ _ h1, h2.imp fun _ _ q => q.same s⟩
def NumAt (H : Hp) (d : Addr) (S : List (Int × Int)) : Prop := ∃ kvs, H d = some (.dK kvs) ∧ RowsR (fun v n => v = .int n) kvs S
theorem NumAt.same {H H' : Hp} {d : Addr} {S : List (Int × Int)} (h : NumAt H d S) (s : Same H H') : NumAt H' d S := let ⟨kvs, h1, h2⟩ := h; ⟨kvs, s _ _ h1, h2⟩
def ThgAt (H : Hp) (d : Addr) (S : List (Int × Unit)) : Prop := ∃ kvs, H d = some (.dK kvs) ∧ RowsR (fun _ _ => True) kvs S
theorem ThgAt.same {H H' : Hp} {d : Addr} {S : List (Int × Unit)} (h : ThgAt H d S) (s : Same H H') : ThgAt H' d S := let ⟨kvs, h1, h2⟩ := h; ⟨kvs, s _ _ h1, h2⟩
end Lw
set_option Elab.async false
set_option linter.all false
set_option maxRecDepth 100000
namespace Yd
variable {σ : Type}
inductive Rpl (R : List (Int × σ × List Int)) : Int → Int → Prop
  | one {y x m} : fnd R y = some x → m ∈ x.2 → Rpl R y m
  | head {y x m z} : fnd R y = some x → m ∈ x.2 → Rpl R m z → Rpl R y z
section
variable {R : List (Int × σ × List Int)}
theorem Rpl.trans {a b c : Int} (h : Rpl R a b) (g : Rpl R b c) : Rpl R a c := by
  induction h with
  | one e m => exact .head e m g
  | head e m _ ih => exact .head e m (ih g)
theorem Rpl.snoc {a b c : Int} {x : σ × List Int} (h : Rpl R a b) (e : fnd R b = some x) (m : c ∈ x.2) : Rpl R a c := h.trans (.one e m)
def Clo (R : List (Int × σ × List Int)) (F : List Int) (y : Int) : Prop := ∀ x, fnd R y = some x → ∀ m ∈ x.2, m ∈ F
structure RI (R : List (Int × σ × List Int)) (t : Int) (U F T : List Int) (ex : Int → Prop) : Prop where
  nd : F.Nodup
  sub : ∀ z ∈ F, z ∈ U
  snd : ∀ z ∈ F, Rpl R t z
  tds : ∀ z ∈ T, z = t ∨ z ∈ F
  cl : ∀ y, (y = t ∨ y ∈ F) → y ∈ T ∨ ex y ∨ Clo R F y
abbrev no1 : Int → Prop := fun _ => False
abbrev ex1 (F : List Int) (h : Int) (done : List Int) : Int → Prop := fun y => y = h ∧ ∀ m ∈ done, m ∈ F
theorem RI.start (t : Int) (U : List Int) : RI R t U [] [t] no1 :=
  ⟨.nil, by simp, by simp, fun z hz => .inl (by simpa using hz), fun y hy => .inl (by simpa using hy)⟩
theorem RI.old {t h m : Int} {U F T done : List Int} (I : RI R t U F T (ex1 F h done)) (hm : m ∈ F) : RI R t U F T (ex1 F h (done ++ [m])) where
  nd := I.nd
  sub := I.sub
  snd := I.snd
  tds := I.tds
  cl := fun y hy => by
    rcases I.cl y hy with q | q | q
    · exact .inl q
    · refine .inr (.inl ⟨q.1, fun z hz => ?_⟩)
      rcases List.mem_append.mp hz with w | w
      · exact q.2 z w
      · rw [show z = m by simpa using w]; exact hm
    · exact .inr (.inr q)
theorem RI.new {t h m : Int} {U F T done : List Int} {x : σ × List Int} (I : RI R t U F T (ex1 F h done)) (hh : h = t ∨ h ∈ F) (e : fnd R h = some x) (hx : m ∈ x.2) (hU : m ∈ U) (hm : m ∉ F) :
    RI R t U (F ++ [m]) (T ++ [m]) (ex1 (F ++ [m]) h (done ++ [m])) where
  nd := List.nodup_append.mpr ⟨I.nd, by simp, fun a ha b hb z => hm (by rw [← show b = m by simpa using hb, ← z]; exact ha)⟩
  sub := fun z hz => by
    rcases List.mem_append.mp hz with q | q
    · exact I.sub z q
    · rw [show z = m by simpa using q]; exact hU
  snd := fun z hz => by
    rcases List.mem_append.mp hz with q | q
    · exact I.snd z q
    · rw [show z = m by simpa using q]
      rcases hh with rfl | hh
      · exact .one e hx
      · exact (I.snd h hh).snoc e hx
  tds := fun z hz => by
    rcases List.mem_append.mp hz with q | q
    · exact (I.tds z q).imp_right (List.mem_append_left _)
    · exact .inr (List.mem_append_right _ q)
  cl := fun y hy => by
    have add : ∀ z, Clo R F z → Clo R (F ++ [m]) z := fun z c x' e' k hk => List.mem_append_left _ (c x' e' k hk)
    have hy' : (y = t ∨ y ∈ F) ∨ y = m := by
      rcases hy with q | q
      · exact .inl (.inl q)
      · rcases List.mem_append.mp q with q | q
        · exact .inl (.inr q)
        · exact .inr (by simpa using q)
    rcases hy' with hy' | rfl
    · rcases I.cl y hy' with q | q | q
      · exact .inl (List.mem_append_left _ q)
      · refine .inr (.inl ⟨q.1, fun z hz => ?_⟩)
        rcases List.mem_append.mp hz with w | w
        · exact List.mem_append_left _ (q.2 z w)
        · exact List.mem_append_right _ w
      · exact .inr (.inr (add y q))
    · exact .inl (List.mem_append_right _ (by simp))
theorem RI.done {t : Int} {U F : List Int} (I : RI R t U F [] no1) (z : Int) : z ∈ F ↔ Rpl R t z := by
  refine ⟨I.snd z, fun h => ?_⟩
  have cl : ∀ y, (y = t ∨ y ∈ F) → Clo R F y := fun y hy => by
    rcases I.cl y hy with q | q | q
    · cases q
    · exact q.elim
    · exact q
  have : ∀ y, (y = t ∨ y ∈ F) → ∀ z, Rpl R y z → z ∈ F := by
    intro y hy z h
    induction h with
    | one e m => exact cl _ hy _ e _ m
    | head e m _ ih => exact ih (.inr (cl _ hy _ e _ m))
  exact this t (.inl rfl) z h
theorem RI.len {t : Int} {U F T : List Int} {ex : Int → Prop} (I : RI R t U F T ex) : F.length ≤ U.length := len_le_of_nodup I.nd I.sub
end
end Yd
namespace Lw
open PySem L2 PyProof.Rows Yd
theorem line10000 : 20010 ≤ sizeLine := by decide
theorem Same.put {H H2 : Hp} {a : Addr} {o : HO} (s : Same H H2) (h0 : H a = none) : Same H (upd H2 a o) := fun b u e => by
  rw [upd_ne (ne_of_none e h0)]
  exact s _ _ e
theorem snoc_last {α : Type} (ys : List α) (y : α) : (ys ++ [y])[(ys ++ [y]).length - 1]? = some y := by simp
end Lw
set_option Elab.async false
set_option linter.all false
set_option maxRecDepth 100000
namespace L2
open PySem PySem.Spec PyProof.Rows
def tCutE (t u : TS) : TS := fun D σ H => ∃ G : St → Hp → Prop, t { D with nx := G } σ H ∧ ∀ σ' H', G σ' H' → u D σ' H'
theorem pss_cutE {X : Cx} {st : Stmt} {rest : List Stmt} {t u : TS} (h1 : PS X st t) (h2 : PSs X rest u) : PSs X (st :: rest) (tCutE t u) := by
  intro pins s σ H D I ⟨G, h, k⟩
  exact pss_cut G h1 h2 pins s σ H D I ⟨h, k⟩
end L2
namespace Lw
open PySem L2 PyProof.Rows Yd
theorem eqv_int (a b : Int) : PyData.eqv (.int a) (.int b) = decide (a = b) := by
  simp [PyData.eqv]
  rfl
theorem eqv_intsAll : ∀ ns ms : List Int, PyData.eqvAll (ns.map .int) (ms.map .int) = decide (ns = ms)
  | [], [] => by simp [PyData.eqvAll]
  | [], m :: ms => by simp [PyData.eqvAll]
  | n :: ns, [] => by simp [PyData.eqvAll]
  | n :: ns, m :: ms => by
    simp only [List.map_cons, PyData.eqvAll]
    rw [eqv_int, eqv_intsAll ns ms]
    by_cases h1 : n = m
    · by_cases h2 : ns = ms <;> simp [h1, h2]
    · simp [h1]
theorem eqv_ints (ns ms : List Int) : PyData.eqv (.list (ns.map .int)) (.list (ms.map .int)) = decide (ns = ms) := by
  simp only [PyData.eqv]
  exact eqv_intsAll ns ms
def PairOff (c : Addr) (H : Hp) (v : V) (q : Int × Rcp) : Prop := ∃ a b l, v = .ref a ∧ H a = some (.tup [.int q.1, .ref b]) ∧ H b = some (.tup [.str q.2.1, .ref l]) ∧ H l = some (.lst (q.2.2.map V.int)) ∧ l ≠ c
def PairAt (H : Hp) (v : V) (q : Int × Rcp) : Prop := ∃ a b, v = .ref a ∧ H a = some (.tup [.int q.1, b]) ∧ RcpAt H b q.2
theorem PairOff.at_ {c : Addr} {H : Hp} {v : V} {q : Int × Rcp} (h : PairOff c H v q) : PairAt H v q := let ⟨a, b, l, e, h1, h2, h3, _⟩ := h; ⟨a, .ref b, e, h1, b, l, rfl, h2, h3⟩
theorem PairOff.same {c : Addr} {H H' : Hp} {v : V} {q : Int × Rcp} (h : PairOff c H v q) (s : Same H H') : PairOff c H' v q := let ⟨a, b, l, e, h1, h2, h3, h4⟩ := h; ⟨a, b, l, e, s _ _ h1, s _ _ h2, s _ _ h3, h4⟩
theorem PairOff.upd {c : Addr} {H : Hp} {v : V} {q : Int × Rcp} {us us' : List V} (h : PairOff c H v q) (hc : H c = some (.lst us)) : PairOff c (upd H c (.lst us')) v q := by
  obtain ⟨a, b, l, e, h1, h2, h3, h4⟩ := h
  refine ⟨a, b, l, e, ?_, ?_, ?_, h4⟩
  · rw [upd_ne (ne_of h1 hc (by intro z; cases z))]; exact h1
  · rw [upd_ne (ne_of h2 hc (by intro z; cases z))]; exact h2
  · rw [upd_ne h4]; exact h3
theorem PairAt.same {H H' : Hp} {v : V} {q : Int × Rcp} (h : PairAt H v q) (s : Same H H') : PairAt H' v q := let ⟨a, b, e, h1, h2⟩ := h; ⟨a, b, e, s _ _ h1, h2.same s⟩
def PairsAt (H : Hp) (p : Addr) (R : List (Int × Rcp)) : Prop := ∃ vs, H p = some (.lst vs) ∧ All2 (PairAt H) vs R
theorem PairsAt.same {H H' : Hp} {p : Addr} {R : List (Int × Rcp)} (h : PairsAt H p R) (s : Same H H') : PairsAt H' p R := let ⟨vs, h1, h2⟩ := h; ⟨vs, s _ _ h1, h2.imp fun _ _ q => q.same s⟩
structure LOk (R : List (Int × Rcp)) (U : List Int) : Prop where
  nd : (keysA R).Nodup
  key : ∀ t ∈ keysA R, t ∈ U
  mks : ∀ y x, fnd R y = some x → ∀ m ∈ x.2, m ∈ U
  many : ∀ y x, fnd R y = some x → x.2.length ≤ 63
  few : U.length ≤ 40
theorem Rpl.key {R : List (Int × Rcp)} {a b : Int} (h : Rpl R a b) : a ∈ keysA R := by
  cases h with
  | one e _ => exact (mem_keys R a).mpr ⟨_, e⟩
  | head e _ _ => exact (mem_keys R a).mpr ⟨_, e⟩
def spLaw (K : PySem.W.Frag) : Sp := fun vs H Q _ => ∃ (a : Addr) (ns : List Int), vs = [.ref a] ∧ SqL K H a (ns.map V.int) ∧ ns.length ≤ 63 ∧ ∀ H', Q (.bl true) H'
theorem cutAll (ns : List Int) (c : Nat) (h : ns.length ≤ c) : cutV (ns.map V.int) none (some (c : Int)) = ns.map V.int := by
  unfold cutV
  simp only [HT.sIx_none]
  have : HT.sIx (ns.map V.int).length (ns.map V.int).length (some (c : Int)) = ns.length := by
    rw [HT.sIx_nat, List.length_map]
    omega
  rw [this, List.drop_zero, Nat.sub_zero, List.take_of_length_le (by simp)]
theorem cutBoth (ns : List Int) (c d : Nat) : cutV (ns.map V.int) (some (c : Int)) (some (d : Int)) = ((ns.drop c).take (d - c)).map V.int := by
  unfold cutV
  rw [HT.sIx_nat, HT.sIx_nat, List.length_map, ← List.map_drop, ← List.map_take]
  congr 1
  by_cases h : c ≤ ns.length
  · rw [Nat.min_eq_left h]
    by_cases h2 : d ≤ ns.length
    · rw [Nat.min_eq_left h2]
    · rw [Nat.min_eq_right (by omega), List.take_of_length_le (by simp), List.take_of_length_le (by simp; omega)]
  · rw [Nat.min_eq_right (by omega : ns.length ≤ c), List.drop_of_length_le (Nat.le_refl _), List.drop_of_length_le (by omega)]
    simp
end Lw
set_option Elab.async false
set_option linter.all false
set_option maxRecDepth 100000
namespace L2
open PySem PySem.Spec PyProof.Rows
theorem blkHas2 {l : List (Str × NameKind)} {x y : Str} {c e : Addr} (l0 : List (Str × NameKind)) (h0 : l = l0) (h : ∀ p ∈ l0, (p.2 = .cell ∨ p.2 = .free) → p.1 = x ∨ p.1 = y) : ∀ p ∈ l, (p.2 = .cell ∨ p.2 = .free) → p.1 ∈ [(x, c), (y, e)].map (·.1) := fun p hp hk => by
  subst h0
  rcases h p hp hk with q | q
  · rw [q]; exact List.mem_cons_self ..
  · rw [q]; exact List.mem_cons_of_mem _ (List.mem_cons_self ..)
theorem blkAt2 {l l' : List (Str × NameKind)} {XN : List Str} {x y1 y2 : Str} {j1 j2 : Nat} (h1 : XN[j1]? = some y1) (k1 : XN[j2]? = some y2) (h2 : l.lookup y1 = some .cell) (k2 : l.lookup y2 = some .cell) (h3 : l'.lookup y1 = some .cell := by rfl) (k3 : l'.lookup y2 = some .cell := by rfl) :
    ∀ (i : Nat) (h : i < [j1, j2].length), XN[[j1, j2][i]]? = [x, y1, y2][i + 1]? ∧ ∀ z, [x, y1, y2][i + 1]? = some z → (l.lookup z = some .cell ∨ l.lookup z = some .free) ∧ (l'.lookup z = some .cell ∨ l'.lookup z = some .free) := fun i h => by
  have e : i = 0 ∨ i = 1 := by simp at h; omega
  rcases e with rfl | rfl
  · refine ⟨h1, fun z e => ?_⟩
    cases e
    exact ⟨.inl h2, .inl h3⟩
  · refine ⟨k1, fun z e => ?_⟩
    cases e
    exact ⟨.inl k2, .inl k3⟩
theorem sub2 {l : List (Str × Addr)} {x y : Str} {c e : Addr} (h1 : l.lookup x = some c) (h2 : l.lookup y = some e) : ∀ p ∈ [(x, c), (y, e)], l.lookup p.1 = some p.2 := fun p hp => by
  rcases List.mem_cons.mp hp with q | q
  · rw [q]; exact h1
  · rw [List.mem_singleton.mp q]; exact h2
end L2
namespace Lw
open PySem L2 PyProof.Rows Yd
def Deed.re (u : Int) : Deed → Deed
  | .set _ n => .set u n | .drop _ => .drop u | .rcp _ s ms => .rcp u s ms | .strike _ => .strike u | .lose _ => .lose u | .make _ => .make u
theorem Deed.re_row (u : Int) (d : Deed) (l : Addr) {x : V} {r : List V} (h : d.row l = x :: .int d.t :: r) : (d.re u).row l = x :: .int u :: r := by
  cases d <;> (simp only [Deed.row, Deed.t, Deed.re, List.cons.injEq] at h ⊢; obtain ⟨h1, _, h2⟩ := h; exact ⟨h1, trivial, h2⟩)
theorem Deed.re_ok (u : Int) {d : Deed} (h : d.ok0) : (d.re u).ok0 := by cases d <;> exact h
theorem Deed.re_ms (u : Int) {d : Deed} (h : ∀ t x ms, d ≠ .rcp t x ms) : (d.re u).ms = [] := by
  cases d with
  | rcp t x ms => exact absurd rfl (h t x ms)
  | _ => rfl
theorem Deed.re_t (u : Int) (d : Deed) : (d.re u).t = u := by cases d <;> rfl
theorem lim_of {o t s : Int} (ho : o = 1 ∨ o = 3) (ht : -1000 ≤ t ∧ t ≤ 1000) (hs : 0 ≤ s ∧ s < 10 ^ 30) : Lim (o * t + s) := by
  unfold Lim
  rcases ho with rfl | rfl <;> constructor <;> omega
theorem Deed.re_mk (u : Int) {d : Deed} {H : Hp} {l : Addr} (h : d.mk H l) : (d.re u).mk H l := by cases d <;> exact h
theorem DeedAt.offN {c : Addr} {H : Hp} {v : V} {d : Deed} (h : DeedAt H v d) (hn : ∀ t x ms, d ≠ .rcp t x ms) : DeedOff c H v d := by
  obtain ⟨a, l, e, h1, h2⟩ := h
  cases d with
  | rcp t x ms => exact absurd rfl (hn t x ms)
  | set t n => exact ⟨a, c + 1, e, h1, trivial, Nat.succ_ne_self c⟩
  | drop t => exact ⟨a, c + 1, e, h1, trivial, Nat.succ_ne_self c⟩
  | strike t => exact ⟨a, c + 1, e, h1, trivial, Nat.succ_ne_self c⟩
  | lose t => exact ⟨a, c + 1, e, h1, trivial, Nat.succ_ne_self c⟩
  | make t => exact ⟨a, c + 1, e, h1, trivial, Nat.succ_ne_self c⟩
theorem DeedAt.offL {c : Addr} {H : Hp} {v : V} {d : Deed} {us : List V} (h : DeedAt H v d) (hc : H c = some (.lst us)) (hne : us ≠ []) (hr : ∀ u ∈ us, ∃ a, u = .ref a) : DeedOff c H v d := by
  obtain ⟨a, l, e, h1, h2⟩ := h
  cases d with
  | rcp t x ms =>
    refine ⟨a, l, e, h1, h2, fun z => ?_⟩
    have h3 : H l = some (.lst (ms.map V.int)) := h2
    rw [z, hc] at h3
    have h4 : us = ms.map V.int := by cases h3; rfl
    cases us with
    | nil => exact hne rfl
    | cons u us =>
      obtain ⟨b, hb⟩ := hr u (List.mem_cons_self ..)
      cases ms with
      | nil => cases h4
      | cons m ms => rw [hb] at h4; cases h4
  | set t n => exact ⟨a, c + 1, e, h1, trivial, Nat.succ_ne_self c⟩
  | drop t => exact ⟨a, c + 1, e, h1, trivial, Nat.succ_ne_self c⟩
  | strike t => exact ⟨a, c + 1, e, h1, trivial, Nat.succ_ne_self c⟩
  | lose t => exact ⟨a, c + 1, e, h1, trivial, Nat.succ_ne_self c⟩
  | make t => exact ⟨a, c + 1, e, h1, trivial, Nat.succ_ne_self c⟩
theorem offs_ref {c : Addr} {H : Hp} {vs : List V} {ds : List Deed} (h : All2 (DeedOff c H) vs ds) : ∀ u ∈ vs, ∃ a, u = .ref a := fun u hu => by
  obtain ⟨d, a, l, e, _⟩ := h.mem u hu
  exact ⟨a, e⟩
theorem DeedOff.updD {c D : Addr} {H : Hp} {v : V} {d : Deed} {us us' : List V} (h : DeedOff c H v d) (g : DeedOff D H v d) (hD : H D = some (.lst us)) : DeedOff c (L2.upd H D (.lst us')) v d := by
  obtain ⟨a, l, rfl, h1, h2, h3⟩ := h
  obtain ⟨a', l', e, g1, g2, g3⟩ := g
  cases e
  have na : a ≠ D := ne_of h1 hD (by intro z; cases z)
  refine ⟨a, l, rfl, by rw [upd_ne na]; exact h1, ?_, h3⟩
  cases d with
  | rcp t x ms =>
    have el : l = l' := by
      rw [h1] at g1
      cases g1
      rfl
    subst el
    show L2.upd H D (.lst us') l = some (.lst (ms.map V.int))
    rw [upd_ne g3]
    exact h2
  | _ => trivial
theorem offs_updD {c D : Addr} {H : Hp} {us us' : List V} {vs : List V} {ds : List Deed} (h : All2 (DeedOff c H) vs ds) (g : All2 (DeedOff D H) vs ds) (hD : H D = some (.lst us)) : All2 (DeedOff c (L2.upd H D (.lst us'))) vs ds := by
  induction h with
  | nil => exact .nil
  | cons p r ih =>
    cases g with
    | cons q s => exact .cons (p.updD q hD) (ih s)
theorem re_not (u : Int) {d : Deed} (h : ∀ t x ms, d ≠ .rcp t x ms) : ∀ t x ms, d.re u ≠ .rcp t x ms := by
  cases d with
  | rcp t x ms => exact absurd rfl (h t x ms)
  | _ => intro t x ms z; cases z
def spRenamed2 : Sp := fun vs H Q _ => ∃ (v : V) (d : Deed) (o s : Int), vs = [v, .int o, .int s] ∧ ((o = 1 ∨ o = 3) ∧ 0 ≤ s ∧ s < 10 ^ 30) ∧ DeedAt H v d ∧ (d.ok0 ∧ d.low) ∧ ∀ (d' : Deed) (v' : V) (H' : Hp), Same H H' → (∀ c, H c ≠ none → DeedOff c H' v' d') → d'.ok → Q v' H'
def spDeeds2 (K : PySem.W.Frag) : Sp := fun vs H Q _ => ∃ (p : Addr) (ns : List Int) (f : Int), vs = [.ref p, .int f] ∧ SqL K H p (ns.map V.int) ∧ ns.length ≤ 63 ∧ ∀ (q : Addr) (ds : List Deed) (H' : Hp), Same H H' → DeedsAt H' q ds → (∀ d ∈ ds, d.ok) → ds.length = ns.length + 10 → (∀ c, H c ≠ none → ∃ vs, H' q = some (.lst vs) ∧ All2 (DeedOff c H') vs ds) → Q (.ref q) H'
structure YOk (ds : List Deed) : Prop where
  ok : ∀ d ∈ ds, d.ok0 ∧ d.low
  rcs : ∀ j, 4 ≤ j → j < 10 → j < ds.length → ∃ t x ms, ds[j]? = some (.rcp t x ms)
theorem YOk.snoc {ds : List Deed} {d : Deed} (h : YOk ds) (hd : d.ok0 ∧ d.low) (hr : 4 ≤ ds.length → ds.length < 10 → ∃ t x ms, d = .rcp t x ms) : YOk (ds ++ [d]) := by
  refine ⟨fun e he => ?_, fun j h4 h10 hj => ?_⟩
  · rcases List.mem_append.mp he with q | q
    · exact h.ok e q
    · rw [show e = d by simpa using q]; exact hd
  · by_cases hlt : j < ds.length
    · obtain ⟨t, x, ms, e⟩ := h.rcs j h4 h10 hlt
      exact ⟨t, x, ms, by rw [List.getElem?_append_left hlt]; exact e⟩
    · have ej : j = ds.length := by simp at hj; omega
      subst ej
      obtain ⟨t, x, ms, e⟩ := hr h4 h10
      exact ⟨t, x, ms, by rw [e]; simp⟩
theorem ix_at1 {n : Nat} (h : 1 < n) : ixN n 1 = some 1 := by
  unfold ixN
  rw [if_pos (by decide), if_pos (by omega)]
  rfl
theorem ix_at3 {n : Nat} (h : 3 < n) : ixN n 3 = some 3 := by
  unfold ixN
  rw [if_pos (by decide), if_pos (by omega)]
  rfl
end Lw
set_option Elab.async false
set_option linter.all false
set_option maxRecDepth 100000
namespace L2
open PySem PySem.Spec PyProof.Rows
theorem cmp_filter {K : PySem.W.Frag} {a D : Addr} {xs : List V} {places : List Nat} {tt : TT} {te : TE} {σ : St} {H : Hp} {Q : VK} (g : V → Bool) (hS : SqL K H a xs) (hD : H D = none) (hz : xs.length ≤ sizeLine)
    (htt : ∀ (i : Nat) (x : V), xs[i]? = some x → ∀ (H1 : Hp) (Q' : Bool → Hp → Prop), Same H H1 → Q' (g x) H1 → tt (blkσ places (some x) σ) H1 Q')
    (hte : ∀ (i : Nat) (x : V), xs[i]? = some x → ∀ (H1 : Hp) (Q' : VK), Same H H1 → Q' x H1 → te (blkσ places (some x) σ) H1 Q') (hq : Q (.ref D) (upd H D (.lst (xs.filter g)))) :
    compBody (Itl K a) places tt te σ Q H D := by
  refine ⟨fun i m H' => m = xs.length - i ∧ i ≤ xs.length ∧ H' = upd H D (.lst ((xs.take i).filter g)), ⟨xs.length, by omega, Nat.zero_le _, rfl⟩, ?_⟩
  rintro i m H' ⟨rfl, hi, rfl⟩
  have sq : SqL K (upd H D (.lst ((xs.take i).filter g))) a xs := (Same.upd hD).seq hS
  by_cases hlt : i < xs.length
  · right
    have hx : xs[i]? = some xs[i] := List.getElem?_eq_getElem hlt
    refine ⟨⟨xs, xs[i], sq, hx⟩, fun H' => H' = upd H D (.lst ((xs.take (i + 1)).filter g)), fun H' e => ⟨xs.length - (i + 1), by omega, rfl, hlt, e⟩, ?_⟩
    rintro x H2 ⟨rfl, hy⟩
    have e1 := hy xs sq
    have tk : (xs.take (i + 1)).filter g = (xs.take i).filter g ++ (if g x = true then [x] else []) := by
      rw [List.take_add_one, e1, List.filter_append]
      show _ ++ List.filter g [x] = _
      by_cases hg : g x = true
      · rw [List.filter_cons_of_pos hg, if_pos hg]; rfl
      · rw [List.filter_cons_of_neg hg, if_neg hg]; rfl
    refine htt i x e1 _ _ (Same.upd hD) ?_
    by_cases hg : g x = true
    · rw [if_pos hg]
      refine hte i x e1 _ _ (Same.upd hD) ⟨_, upd_same, ?_, ?_⟩
      · have : ((xs.take i).filter g).length ≤ (xs.take i).length := List.length_filter_le ..
        have : (xs.take i).length ≤ i := by rw [List.length_take]; omega
        omega
      · rw [upd_upd, tk, if_pos hg]
    · rw [if_neg hg]
      show upd H D _ = _
      rw [tk, if_neg hg, List.append_nil]
  · left
    have e : i = xs.length := by omega
    subst e
    refine ⟨⟨xs, sq, Nat.le_refl _⟩, ?_⟩
    rw [List.take_of_length_le (Nat.le_refl _)]
    exact hq
end L2
namespace Lw
open PySem L2 PyProof.Rows Yd
structure Ys where
  S : Int → Option Int
  R : Int → Option Rcp
  sh : Shf Str
def Ys.g (y : Ys) : Pg Str := ⟨y.S, y.R, wk⟩
def Ys.e0 : Ys := ⟨fun _ => none, fun _ => none, fun _ => none⟩
def upF {α : Type} (m : Int → Option α) (t : Int) (x : Option α) : Int → Option α := fun u => if u = t then x else m u
def chg (y : Ys) : Deed → Ys × Str
  | .set t n => if (y.R t).isSome = true then (y, "has recipe") else ({ y with S := upF y.S t (some n) }, "done")
  | .drop t => if (y.S t).isSome = true then ({ y with S := upF y.S t none }, "done") else (y, "no source")
  | .rcp t s ms => if s ∈ good3 then (if (y.S t).isSome = true then (y, "is source") else ({ y with R := upF y.R t (some (s, ms)) }, "done")) else (y, "no sort")
  | .strike t => if (y.R t).isSome = true then ({ y with R := upF y.R t none }, "done") else (y, "no recipe")
  | .lose t => if (y.sh t).isSome = true then ({ y with sh := upF y.sh t none }, "done") else (y, "not there")
  | .make _ => (y, "done")
inductive Ans
  | word (s : Str)
  | made (n : Int) (told : List Int)
  | fails (w : Str) (trail told : List Int)
def whyW : Why → Str
  | .missing => "missing" | .ring => "ring" | .noway => "no way"
def fuel : Nat := 300
def ask (y : Ys) (t : Int) : Ys × Ans :=
  ({ y with sh := shOf y.sh (visit y.g fuel [] t []).2 }, match (visit y.g fuel [] t []).1 with
    | .ok v => .made v (toldOf y.sh (visit y.g fuel [] t []).2)
    | .error e => .fails (whyW e.1) e.2 (toldOf y.sh (visit y.g fuel [] t []).2))
def step (y : Ys) : Deed → Ys × Ans
  | .make t => ask y t
  | d => ((chg y d).1, .word (chg y d).2)
def after (y : Ys) : List Deed → Ys
  | [] => y
  | d :: ds => after (step y d).1 ds
def run (y : Ys) : List Deed → List Ans
  | [] => []
  | d :: ds => (step y d).2 :: run (step y d).1 ds
theorem after_snoc (d : Deed) : ∀ (ds : List Deed) (y : Ys), after y (ds ++ [d]) = (step (after y ds) d).1
  | [], y => rfl
  | e :: ds, y => after_snoc d ds _
theorem run_ix (d : Deed) : ∀ (ds : List Deed) (y : Ys) (i : Nat), ds[i]? = some d → (run y ds)[i]? = some (step (after y (ds.take i)) d).2
  | [], y, i, h => by simp at h
  | e :: ds, y, 0, h => by
    simp at h
    subst h
    rfl
  | e :: ds, y, i + 1, h => by
    show (run _ ds)[i]? = _
    exact run_ix d ds _ i (by simpa using h)
theorem run_len : ∀ (ds : List Deed) (y : Ys), (run y ds).length = ds.length
  | [], _ => rfl
  | d :: ds, y => by simp [run, run_len ds]
structure Wf (n : Nat) (y : Ys) : Prop where
  one : ∀ t, y.S t = none ∨ y.R t = none
  srt : ∀ t x, y.R t = some x → x.1 ∈ good3 ∧ x.2.length ≤ 20
  key : ∃ ks : List Int, ks.length ≤ n ∧ (∀ t x, y.R t = some x → t ∈ ks) ∧ ∀ t e, y.sh t = some e → t ∈ ks ∧ ∃ v, wk e.1 e.2.2 = some v
theorem Wf.e0 : Wf 0 Ys.e0 := ⟨fun _ => .inl rfl, fun _ _ h => (nomatch h), [], Nat.le_refl _, fun _ _ h => (nomatch h), fun _ _ h => (nomatch h)⟩
theorem Wf.le {n m : Nat} {y : Ys} (h : Wf n y) (hm : n ≤ m) : Wf m y := ⟨h.one, h.srt, let ⟨ks, a, b⟩ := h.key; ⟨ks, Nat.le_trans a hm, b⟩⟩
theorem Wf.chg {n : Nat} {y : Ys} (h : Wf n y) (d : Deed) (hd : d.ok) : Wf (n + 1) (chg y d).1 := by
  have h1 := h.le (Nat.le_succ n)
  cases d with
  | set t v =>
    show Wf (n + 1) (if (y.R t).isSome = true then _ else _ : Ys × Str).1
    by_cases e : (y.R t).isSome = true
    · rw [if_pos e]; exact h1
    · rw [if_neg e]
      refine ⟨fun u => ?_, h1.srt, h1.key⟩
      by_cases q : u = t
      · right; rw [q]; simpa using e
      · rcases h.one u with z | z
        · left; show upF y.S t (some v) u = none; unfold upF; rw [if_neg q]; exact z
        · exact .inr z
  | drop t =>
    show Wf (n + 1) (if (y.S t).isSome = true then _ else _ : Ys × Str).1
    by_cases e : (y.S t).isSome = true
    · rw [if_pos e]
      refine ⟨fun u => ?_, h1.srt, h1.key⟩
      by_cases q : u = t
      · left; show upF y.S t none u = none; unfold upF; rw [if_pos q]
      · rcases h.one u with z | z
        · left; show upF y.S t none u = none; unfold upF; rw [if_neg q]; exact z
        · exact .inr z
    · rw [if_neg e]; exact h1
  | rcp t s ms =>
    show Wf (n + 1) (if s ∈ good3 then (if (y.S t).isSome = true then _ else _) else _ : Ys × Str).1
    by_cases e : s ∈ good3
    · rw [if_pos e]
      by_cases e2 : (y.S t).isSome = true
      · rw [if_pos e2]; exact h1
      · rw [if_neg e2]
        obtain ⟨ks, k1, k2, k3⟩ := h.key
        refine ⟨fun u => ?_, fun u x hx => ?_, t :: ks, by simp; omega, fun u x hx => ?_, fun u e he => ⟨List.mem_cons_of_mem _ (k3 u e he).1, (k3 u e he).2⟩⟩
        · by_cases q : u = t
          · left; rw [q]; simpa using e2
          · rcases h.one u with z | z
            · exact .inl z
            · right; show upF y.R t (some (s, ms)) u = none; unfold upF; rw [if_neg q]; exact z
        · have hx' : upF y.R t (some (s, ms)) u = some x := hx
          unfold upF at hx'
          by_cases q : u = t
          · rw [if_pos q] at hx'; cases hx'; exact ⟨e, hd.1.2.2⟩
          · rw [if_neg q] at hx'; exact h.srt u x hx'
        · have hx' : upF y.R t (some (s, ms)) u = some x := hx
          unfold upF at hx'
          by_cases q : u = t
          · rw [q]; simp
          · rw [if_neg q] at hx'; exact List.mem_cons_of_mem _ (k2 u x hx')
    · rw [if_neg e]; exact h1
  | strike t =>
    show Wf (n + 1) (if (y.R t).isSome = true then _ else _ : Ys × Str).1
    by_cases e : (y.R t).isSome = true
    · rw [if_pos e]
      obtain ⟨ks, k1, k2, k3⟩ := h.key
      have old : ∀ u x, upF y.R t none u = some x → y.R u = some x := fun u x hx => by
        unfold upF at hx
        by_cases q : u = t
        · rw [if_pos q] at hx; cases hx
        · rw [if_neg q] at hx; exact hx
      refine ⟨fun u => ?_, fun u x hx => h.srt u x (old u x hx), ks, by omega, fun u x hx => k2 u x (old u x hx), k3⟩
      rcases h.one u with z | z
      · exact .inl z
      · right
        show upF y.R t none u = none
        unfold upF
        by_cases q : u = t
        · rw [if_pos q]
        · rw [if_neg q]; exact z
    · rw [if_neg e]; exact h1
  | lose t =>
    show Wf (n + 1) (if (y.sh t).isSome = true then _ else _ : Ys × Str).1
    by_cases e : (y.sh t).isSome = true
    · rw [if_pos e]
      obtain ⟨ks, k1, k2, k3⟩ := h.key
      refine ⟨h1.one, h1.srt, ks, by omega, k2, fun u e he => ?_⟩
      have he' : upF y.sh t none u = some e := he
      unfold upF at he'
      by_cases q : u = t
      · rw [if_pos q] at he'; cases he'
      · rw [if_neg q] at he'; exact k3 u e he'
    · rw [if_neg e]; exact h1
  | make t => exact h1
theorem step_not {y : Ys} {d : Deed} (h : ∀ t, d ≠ .make t) : step y d = ((Lw.chg y d).1, .word (Lw.chg y d).2) := by
  cases d with
  | make t => exact absurd rfl (h t)
  | _ => rfl
theorem Wf.out {n : Nat} {y : Ys} (h : Wf n y) (hn : n < 300) (t : Int) : Out y.g [] t [] (visit y.g fuel [] t []) := by
  obtain ⟨ks, k1, k2, _⟩ := h.key
  exact visit_out (keys := ks) (fun u p e => k2 u p e) fuel [] t [] (by unfold fuel; simp; omega) .nil (by simp) (by simp) trivial .nil
theorem Wf.ask {n : Nat} {y : Ys} (h : Wf n y) (hn : n < 300) (t : Int) : Wf n (Lw.ask y t).1 := by
  obtain ⟨ks, k1, k2, k3⟩ := h.key
  refine ⟨h.one, h.srt, ks, k1, k2, fun u e he => ?_⟩
  have he' : shOf y.sh (visit y.g fuel [] t []).2 u = some e := he
  unfold shOf at he'
  cases ef : findV (visit y.g fuel [] t []).2 u with
  | none => rw [ef] at he'; exact k3 u e he'
  | some v =>
    rw [ef] at he'
    obtain ⟨_, _, h3, _, h5, _⟩ := (h.out hn t).good.find_known ef
    cases he'
    exact ⟨k2 u _ h3, v.v, h5⟩
theorem Wf.step {n : Nat} {y : Ys} (h : Wf n y) (hn : n < 300) (d : Deed) (hd : d.ok) : Wf (n + 1) (step y d).1 := by
  by_cases e : ∃ t, d = .make t
  · obtain ⟨t, rfl⟩ := e
    exact (h.ask hn t).le (Nat.le_succ n)
  · rw [step_not fun t z => e ⟨t, z⟩]
    exact h.chg d hd
theorem Wf.after {n : Nat} {y : Ys} (h : Wf n y) : ∀ (ds : List Deed), n + ds.length ≤ 300 → (∀ d ∈ ds, d.ok) → Wf (n + ds.length) (after y ds) := by
  intro ds
  induction ds generalizing n y with
  | nil => intro _ _; exact h
  | cons d ds ih =>
    intro hl hd
    have hl' : n + 1 + ds.length ≤ 300 := by simp at hl; omega
    have := ih (h.step (by omega) d (hd d (by simp))) hl' fun e he => hd e (by simp [he])
    rw [show n + (d :: ds).length = n + 1 + ds.length by simp; omega]
    exact this
end Lw
set_option Elab.async false
set_option linter.all false
set_option maxRecDepth 100000
namespace Lw
open PySem L2 PyProof.Rows Yd
def Kp (H H' : Hp) : Prop := ∀ b o, (∀ kvs, o ≠ HO.dK kvs) → H b = some o → H' b = some o
theorem Kp.of {H H' : Hp} (s : Same H H') : Kp H H' := fun b o _ e => s b o e
theorem Kp.refl (H : Hp) : Kp H H := fun _ _ _ e => e
theorem Kp.trans {H H' H'' : Hp} (a : Kp H H') (b : Kp H' H'') : Kp H H'' := fun x o n e => b x o n (a x o n e)
theorem Kp.dict {H : Hp} {a : Addr} {k k' : List (Key × V)} (h : H a = some (.dK k)) : Kp H (upd H a (.dK k')) := fun b o n e => by
  rw [upd_ne (fun z => by rw [z, h] at e; exact n k (Option.some.inj e).symm)]
  exact e
theorem Kp.lst {H H' : Hp} (k : Kp H H') {p : Addr} {xs : List V} (h : H p = some (.lst xs)) : H' p = some (.lst xs) := k p _ (fun _ z => nomatch z) h
theorem Kp.tup {H H' : Hp} (k : Kp H H') {p : Addr} {xs : List V} (h : H p = some (.tup xs)) : H' p = some (.tup xs) := k p _ (fun _ z => nomatch z) h
theorem RcpAt.kp {H H' : Hp} {v : V} {x : Rcp} (h : RcpAt H v x) (k : Kp H H') : RcpAt H' v x := let ⟨a, l, e, h1, h2⟩ := h; ⟨a, l, e, k.tup h1, k.lst h2⟩
def EntAt (H : Hp) (v : V) (x : Ent Str) : Prop := ∃ a l m, v = .ref a ∧ H a = some (.tup [.str x.1, .ref l, .ref m]) ∧ H l = some (.lst (x.2.1.map V.int)) ∧ H m = some (.lst (x.2.2.map V.int))
theorem EntAt.kp {H H' : Hp} {v : V} {x : Ent Str} (h : EntAt H v x) (k : Kp H H') : EntAt H' v x := let ⟨a, l, m, e, h1, h2, h3⟩ := h; ⟨a, l, m, e, k.tup h1, k.lst h2, k.lst h3⟩
theorem Deed.mk_kp {H H' : Hp} {d : Deed} {l : Addr} (h : d.mk H l) (k : Kp H H') : d.mk H' l := by
  cases d with
  | rcp t x ms => exact k.lst h
  | _ => trivial
theorem DeedAt.kp {H H' : Hp} {v : V} {d : Deed} (h : DeedAt H v d) (k : Kp H H') : DeedAt H' v d := let ⟨a, l, e, h1, h2⟩ := h; ⟨a, l, e, k.tup h1, Deed.mk_kp h2 k⟩
theorem DeedsAt.kp {H H' : Hp} {p : Addr} {ds : List Deed} (h : DeedsAt H p ds) (k : Kp H H') : DeedsAt H' p ds := let ⟨vs, h1, h2⟩ := h; ⟨vs, k.lst h1, h2.imp fun _ _ q => q.kp k⟩
def ShfAt (H : Hp) (d : Addr) (Z : List (Int × Ent Str)) : Prop := ∃ kvs, H d = some (.dK kvs) ∧ RowsR (EntAt H) kvs Z
def AnsAt (H : Hp) (v : V) : Ans → Prop
  | .word s => v = .str s
  | .made n told => ∃ a l, v = .ref a ∧ H a = some (.tup [.str "made", .int n, .ref l]) ∧ H l = some (.lst (told.map V.int))
  | .fails w tr told => ∃ a l m, v = .ref a ∧ H a = some (.tup [.str "fails", .str w, .ref l, .ref m]) ∧ H l = some (.lst (tr.map V.int)) ∧ H m = some (.lst (told.map V.int))
theorem AnsAt.kp {H H' : Hp} {v : V} {x : Ans} (h : AnsAt H v x) (k : Kp H H') : AnsAt H' v x := by
  cases x with
  | word s => exact h
  | made n told =>
    obtain ⟨a, l, e, h1, h2⟩ := h
    exact ⟨a, l, e, k.tup h1, k.lst h2⟩
  | fails w tr told =>
    obtain ⟨a, l, m, e, h1, h2, h3⟩ := h
    exact ⟨a, l, m, e, k.tup h1, k.lst h2, k.lst h3⟩
structure YAt (H : Hp) (a b c : Addr) (y : Ys) (n : Nat) : Prop where
  s : ∃ S, NumAt H a S ∧ (∀ t, fnd S t = y.S t) ∧ S.length ≤ n
  r : ∃ R, RcsAt H b R ∧ (∀ t, fnd R t = y.R t) ∧ (keysA R).Nodup ∧ R.length ≤ n
  z : ∃ Z, ShfAt H c Z ∧ (∀ t, fnd Z t = y.sh t) ∧ (keysA Z).Nodup ∧ Z.length ≤ 1000 * n
  ab : a ≠ b
  ac : a ≠ c
  bc : b ≠ c
theorem YAt.le {H : Hp} {a b c : Addr} {y : Ys} {n m : Nat} (h : YAt H a b c y n) (hm : n ≤ m) : YAt H a b c y m := by
  obtain ⟨⟨S, s1, s2, s3⟩, ⟨R, r1, r2, r3, r4⟩, ⟨Z, z1, z2, z3, z4⟩, ab, ac, bc⟩ := h
  exact ⟨⟨S, s1, s2, by omega⟩, ⟨R, r1, r2, r3, by omega⟩, ⟨Z, z1, z2, z3, by omega⟩, ab, ac, bc⟩
theorem YAt.same {H H' : Hp} {a b c : Addr} {y : Ys} {n : Nat} (h : YAt H a b c y n) (s : Same H H') : YAt H' a b c y n := by
  obtain ⟨⟨S, s1, s2⟩, ⟨R, r1, r2⟩, ⟨Z, ⟨kvs, z0, z1⟩, z2⟩, ab, ac, bc⟩ := h
  exact ⟨⟨S, s1.same s, s2⟩, ⟨R, r1.same s, r2⟩, ⟨Z, ⟨kvs, s _ _ z0, z1.imp fun _ _ q => q.kp (Kp.of s)⟩, z2⟩, ab, ac, bc⟩
theorem upF_set {α : Type} {R : List (Int × α)} {m : Int → Option α} (h : ∀ t, fnd R t = m t) (t : Int) (x : α) : ∀ u, fnd (setA R t x) u = upF m t (some x) u := fun u => by
  rw [fnd_set, h]
  rfl
theorem upF_drop {α : Type} {R : List (Int × α)} {m : Int → Option α} (h : ∀ t, fnd R t = m t) (t : Int) : ∀ u, fnd (dropA R t) u = upF m t none u := fun u => by
  rw [fnd_drop, h]
  rfl
section
variable {y : Ys} {t n : Int} {s : Str} {ms : List Int}
theorem chg_set1 (h : (y.R t).isSome = true) : chg y (.set t n) = (((y), ("has recipe" : Str)) : Ys × Str) := if_pos h
theorem chg_set2 (h : ¬ (y.R t).isSome = true) : chg y (.set t n) = ((({ y with S := upF y.S t (some n) }), ("done" : Str)) : Ys × Str) := if_neg h
theorem chg_drop1 (h : (y.S t).isSome = true) : chg y (.drop t) = ((({ y with S := upF y.S t none }), ("done" : Str)) : Ys × Str) := if_pos h
theorem chg_drop2 (h : ¬ (y.S t).isSome = true) : chg y (.drop t) = (((y), ("no source" : Str)) : Ys × Str) := if_neg h
theorem chg_rcp0 (h : ¬ s ∈ good3) : chg y (.rcp t s ms) = (((y), ("no sort" : Str)) : Ys × Str) := if_neg h
theorem chg_rcp1 (h : s ∈ good3) (h2 : (y.S t).isSome = true) : chg y (.rcp t s ms) = (((y), ("is source" : Str)) : Ys × Str) := (if_pos h).trans (if_pos h2)
theorem chg_rcp2 (h : s ∈ good3) (h2 : ¬ (y.S t).isSome = true) : chg y (.rcp t s ms) = ((({ y with R := upF y.R t (some (s, ms)) }), ("done" : Str)) : Ys × Str) := (if_pos h).trans (if_neg h2)
theorem chg_strike1 (h : (y.R t).isSome = true) : chg y (.strike t) = ((({ y with R := upF y.R t none }), ("done" : Str)) : Ys × Str) := if_pos h
theorem chg_strike2 (h : ¬ (y.R t).isSome = true) : chg y (.strike t) = (((y), ("no recipe" : Str)) : Ys × Str) := if_neg h
theorem chg_lose1 (h : (y.sh t).isSome = true) : chg y (.lose t) = ((({ y with sh := upF y.sh t none }), ("done" : Str)) : Ys × Str) := if_pos h
theorem chg_lose2 (h : ¬ (y.sh t).isSome = true) : chg y (.lose t) = (((y), ("not there" : Str)) : Ys × Str) := if_neg h
end
theorem chg_sh (y : Ys) (d : Deed) : (chg { y with sh := fun _ => none } d).1 = { (chg y d).1 with sh := fun _ => none } := by
  cases d with
  | set t n => unfold chg; dsimp only; by_cases e : (y.R t).isSome = true <;> simp only [e] <;> rfl
  | drop t => unfold chg; dsimp only; by_cases e : (y.S t).isSome = true <;> simp only [e] <;> rfl
  | rcp t s ms =>
    unfold chg
    dsimp only
    by_cases e : s ∈ good3
    · by_cases e2 : (y.S t).isSome = true
      · simp only [if_pos e, if_pos e2]
      · simp only [if_pos e, if_neg e2]
    · simp only [if_neg e]
  | strike t => unfold chg; dsimp only; by_cases e : (y.R t).isSome = true <;> simp only [e] <;> rfl
  | lose t => unfold chg; dsimp only; by_cases e : (y.sh t).isSome = true <;> simp only [e] <;> rfl
  | make t => rfl
theorem lineM : 1001000 ≤ sizeLine := by decide
end Lw
set_option Elab.async false
set_option linter.all false
set_option maxRecDepth 100000
namespace Yd
section
variable {σ : Type}
def cnt (R : List (Int × σ × List Int)) (N : List (Int × Int)) : Nat := ((keysA R).filter fun t => (fnd N t).isNone).length
theorem filter_lt {p q : Int → Bool} : ∀ {xs : List Int}, (∀ x, q x = true → p x = true) → ∀ t, t ∈ xs → p t = true → q t = false → (xs.filter q).length < (xs.filter p).length
  | [], _, t, h, _, _ => by cases h
  | x :: xs, hpq, t, h, hp, hq => by
    have le : ∀ ys : List Int, (ys.filter q).length ≤ (ys.filter p).length := by
      intro ys
      induction ys with
      | nil => simp
      | cons y ys ih =>
        by_cases h1 : q y = true
        · rw [List.filter_cons_of_pos h1, List.filter_cons_of_pos (hpq y h1)]; simp; exact ih
        · rw [List.filter_cons_of_neg h1]
          by_cases h2 : p y = true
          · rw [List.filter_cons_of_pos h2]; simp; omega
          · rw [List.filter_cons_of_neg h2]; exact ih
    rcases List.mem_cons.mp h with e | e
    · subst e
      rw [List.filter_cons_of_pos hp, List.filter_cons_of_neg (by rw [hq]; exact Bool.false_ne_true)]
      have := le xs
      simp; omega
    · have ih := filter_lt hpq t e hp hq
      by_cases h1 : q x = true
      · rw [List.filter_cons_of_pos h1, List.filter_cons_of_pos (hpq x h1)]; simp; exact ih
      · rw [List.filter_cons_of_neg h1]
        by_cases h2 : p x = true
        · rw [List.filter_cons_of_pos h2]; simp; omega
        · rw [List.filter_cons_of_neg h2]; exact ih
theorem cnt_lt {R : List (Int × σ × List Int)} {N : List (Int × Int)} {t v : Int} (hR : t ∈ keysA R) (hN : fnd N t = none) : cnt R (setA N t v) < cnt R N := by
  refine filter_lt (fun x hx => ?_) t hR (by rw [hN]; rfl) (by rw [fnd_set, if_pos rfl]; rfl)
  rw [fnd_set] at hx
  by_cases e : x = t
  · rw [e, hN]; rfl
  · rw [if_neg e] at hx; exact hx
theorem cnt_le (R : List (Int × σ × List Int)) (N : List (Int × Int)) : cnt R N ≤ R.length := by
  unfold cnt
  have := List.length_filter_le (fun t => (fnd N t).isNone) (keysA R)
  rw [keysA, List.length_map] at this
  exact this
structure KI (S : List (Int × Int)) (R : List (Int × σ × List Int)) (g : Pg σ) (N : List (Int × Int)) : Prop where
  src : ∀ t v, fnd S t = some v → fnd N t = some v
  snd : ∀ t v, fnd N t = some v → Known g t v
  len : N.length + cnt R N ≤ S.length + R.length
def Chk (R : List (Int × σ × List Int)) (g : Pg σ) (N : List (Int × Int)) (t : Int) : Prop := ∀ x, fnd R t = some x → fnd N t = none → ∀ ns, All2 (fun m n => fnd N m = some n) x.2 ns → g.W x.1 ns = none
theorem KI.put {S : List (Int × Int)} {R : List (Int × σ × List Int)} {g : Pg σ} {N : List (Int × Int)} {t v : Int} {x : σ × List Int} {ns : List Int} (h : KI S R g N) (eS : ∀ t, fnd S t = g.S t) (eR : ∀ t, fnd R t = g.R t)
    (hR : fnd R t = some x) (hN : fnd N t = none) (ha : All2 (fun m n => fnd N m = some n) x.2 ns) (hw : g.W x.1 ns = some v) : KI S R g (setA N t v) := by
  have hS : g.S t = none := by
    cases e : g.S t with
    | none => rfl
    | some u => rw [h.src t u (by rw [eS, e])] at hN; cases hN
  refine ⟨fun u w e => ?_, fun u w e => ?_, ?_⟩
  · rw [fnd_set]
    by_cases q : u = t
    · rw [q, eS, hS] at e; cases e
    · rw [if_neg q]; exact h.src u w e
  · rw [fnd_set] at e
    by_cases q : u = t
    · rw [if_pos q] at e
      cases e
      subst q
      exact Known.made (s := x.1) (ms := x.2) hS (by rw [← eR, hR]) (ha.imp fun _ _ z => h.snd _ _ z) hw
    · rw [if_neg q] at e; exact h.snd u w e
  · have := cnt_lt (v := v) ((mem_keys R t).mpr ⟨x, hR⟩) hN
    have := len_set N t v
    have := h.len
    omega
theorem KI.start {S : List (Int × Int)} {R : List (Int × σ × List Int)} {g : Pg σ} (eS : ∀ t, fnd S t = g.S t) : KI S R g S :=
  ⟨fun _ _ e => e, fun t v e => Known.src (by rw [← eS, e]), by have := cnt_le R S; omega⟩
theorem KI.done {S : List (Int × Int)} {R : List (Int × σ × List Int)} {g : Pg σ} {N : List (Int × Int)} (h : KI S R g N) (eS : ∀ t, fnd S t = g.S t) (eR : ∀ t, fnd R t = g.R t) (hc : ∀ t ∈ keysA R, Chk R g N t) (t v : Int) : fnd N t = some v ↔ Known g t v := by
  refine known_iff (k := fnd N) (fun t v e => h.src t v (by rw [eS, e])) h.snd (fun t s ms ns hr hn ha => ?_) t v
  exact hc t ((mem_keys R t).mpr ⟨(s, ms), by rw [eR, hr]⟩) (s, ms) (by rw [eR, hr]) hn ns ha
theorem all_of {N : List (Int × Int)} : ∀ {ms : List Int}, (∀ m ∈ ms, (fnd N m).isSome = true) → All2 (fun m n => fnd N m = some n) ms (ms.map fun m => (fnd N m).getD 0)
  | [], _ => .nil
  | m :: ms, h => by
    obtain ⟨v, hv⟩ := Option.isSome_iff_exists.mp (h m (by simp))
    exact .cons (by simp [hv]) (all_of fun x hx => h x (by simp [hx]))
end
end Yd
namespace Lw
open PySem L2 PyProof.Rows Yd
def spKnowable : Sp := fun vs H Q _ => ∃ (a b : Addr) (S : List (Int × Int)) (R : List (Int × Rcp)) (g : Pg Str), vs = [.ref a, .ref b] ∧ NumAt H a S ∧ RcsAt H b R ∧ (∀ t, fnd S t = g.S t) ∧ (∀ t, fnd R t = g.R t) ∧ g.W = wk ∧ (keysA R).Nodup ∧ S.length ≤ 2000 ∧ R.length ≤ 2000 ∧
  (∀ t x, fnd R t = some x → x.1 ∈ good3 ∧ x.2.length ≤ 20) ∧ ∀ (q : Addr) (N : List (Int × Int)) (H' : Hp), H q = none → Same H H' → NumAt H' q N → (∀ t v, fnd N t = some v ↔ Known g t v) → Q (.ref q) H'
end Lw
namespace Lw
open PySem L2 PyProof.Rows Yd
def spIsAns : Sp := fun vs H Q _ => ∃ (v : V) (x : Ans), vs = [v] ∧ AnsAt H v x ∧ (∀ s, x ≠ .word s) ∧ Q (.bl true) H
end Lw
set_option Elab.async false
set_option linter.all false
set_option maxRecDepth 100000
namespace Lw
open PySem L2 PyProof.Rows Yd
mutual
inductive PRep (H : Hp) : V → PyData → Prop
  | int (i) : PRep H (.int i) (.int i)
  | str (x) : PRep H (.str x) (.str x)
  | lst {a xs ds} : H a = some (.lst xs) → PReps H xs ds → PRep H (.ref a) (.list ds)
  | tup {a xs ds} : H a = some (.tup xs) → PReps H xs ds → PRep H (.ref a) (.tuple ds)
inductive PReps (H : Hp) : List V → List PyData → Prop
  | nil : PReps H [] []
  | cons {x xs d ds} : PRep H x d → PReps H xs ds → PReps H (x :: xs) (d :: ds)
end
mutual
theorem PRep.same {H H' : Hp} (s : Same H H') : ∀ {v : V} {d : PyData}, PRep H v d → PRep H' v d
  | _, _, .int i => .int i
  | _, _, .str x => .str x
  | _, _, .lst h r => .lst (s _ _ h) (PReps.same s r)
  | _, _, .tup h r => .tup (s _ _ h) (PReps.same s r)
theorem PReps.same {H H' : Hp} (s : Same H H') : ∀ {vs : List V} {ds : List PyData}, PReps H vs ds → PReps H' vs ds
  | _, _, .nil => .nil
  | _, _, .cons h r => .cons (PRep.same s h) (PReps.same s r)
end
mutual
theorem PRep.d {K : PySem.W.Frag} {H : Hp} : ∀ {v : V} {d : PyData}, PRep H v d → DRep K H v d
  | _, _, .int i => .int i
  | _, _, .str x => .str x
  | _, _, .lst h r => .lst (SqL.of h) (PReps.d r)
  | _, _, .tup h r => .tup (SqT.of h) (PReps.d r)
theorem PReps.d {K : PySem.W.Frag} {H : Hp} : ∀ {vs : List V} {ds : List PyData}, PReps H vs ds → DReps K H vs ds
  | _, _, .nil => .nil
  | _, _, .cons h r => .cons (PRep.d h) (PReps.d r)
end
theorem PReps.len {H : Hp} : ∀ {vs : List V} {ds : List PyData}, PReps H vs ds → vs.length = ds.length
  | _, _, .nil => rfl
  | _, _, .cons _ r => by simp [PReps.len r]
theorem PReps.app {H : Hp} : ∀ {vs ws : List V} {ds es : List PyData}, PReps H vs ds → PReps H ws es → PReps H (vs ++ ws) (ds ++ es)
  | _, _, _, _, .nil, s => s
  | _, _, _, _, .cons h r, s => .cons h (PReps.app r s)
theorem PReps.last {H : Hp} : ∀ {vs : List V} {ds : List PyData} {d : PyData}, PReps H vs (ds ++ [d]) → ∃ ws v, vs = ws ++ [v] ∧ PReps H ws ds ∧ PRep H v d
  | vs, [], d, h => by
    cases h with
    | cons h r =>
      cases r
      exact ⟨[], _, rfl, .nil, h⟩
  | vs, e :: ds, d, h => by
    cases h with
    | cons h r =>
      obtain ⟨ws, v, e1, e2, e3⟩ := PReps.last r
      exact ⟨_ :: ws, v, by rw [e1]; rfl, .cons h e2, e3⟩
theorem PReps.ints {H : Hp} : ∀ ns : List Int, PReps H (ns.map V.int) (ns.map PyData.int)
  | [] => .nil
  | n :: ns => .cons (.int n) (PReps.ints ns)
mutual
def nodes : PyData → Nat
  | .list xs | .tuple xs => nodesAll xs
  | .none | .bool _ | .int _ | .str _ | .dict _ => 0
def nodesAll : List PyData → Nat
  | [] => 0
  | x :: xs => nodes x + 1 + nodesAll xs
end
theorem nodes_app : ∀ (ds es : List PyData), nodesAll (ds ++ es) = nodesAll ds + nodesAll es
  | [], es => by simp [nodesAll]
  | d :: ds, es => by simp only [List.cons_append, nodesAll, nodes_app ds es]; omega
theorem can_app : ∀ (ds es : List PyData), PyData.canLayAll0 (ds ++ es) = (PyData.canLayAll0 ds && PyData.canLayAll0 es)
  | [], es => by simp [PyData.canLayAll0]
  | d :: ds, es => by simp only [List.cons_append, PyData.canLayAll0, can_app ds es, Bool.and_assoc]
theorem dep_app : ∀ (ds es : List PyData), PyData.depthAll (ds ++ es) = max (PyData.depthAll ds) (PyData.depthAll es)
  | [], es => by simp [PyData.depthAll]
  | d :: ds, es => by simp only [List.cons_append, PyData.depthAll, dep_app ds es]; omega
structure PSk (ds : List PyData) (n : Nat) : Prop where
  can : PyData.canLayAll0 ds = true
  dep : PyData.depthAll ds ≤ 63
  nod : nodesAll ds ≤ n
theorem PSk.pop {ds : List PyData} {d : PyData} {n : Nat} (h : PSk (ds ++ [d]) n) : PSk ds n ∧ PSk [d] n ∧ nodesAll ds + nodes d + 1 ≤ n := by
  obtain ⟨a, b, c⟩ := h
  rw [can_app, Bool.and_eq_true] at a
  rw [dep_app] at b
  rw [nodes_app] at c
  have e : nodesAll [d] = nodes d + 1 := by simp [nodesAll]
  exact ⟨⟨a.1, by omega, by omega⟩, ⟨a.2, by omega, by omega⟩, by omega⟩
theorem PSk.add {ds es : List PyData} {n : Nat} (h : PSk ds n) (g1 : PyData.canLayAll0 es = true) (g2 : PyData.depthAll es ≤ 63) (hn : nodesAll ds + nodesAll es ≤ n) : PSk (ds ++ es) n :=
  ⟨by rw [can_app, h.can, g1]; rfl, by rw [dep_app]; have := h.dep; omega, by rw [nodes_app]; exact hn⟩
def Deed.data : Deed → PyData
  | .set t n => .tuple [.str "set", .int t, .int n]
  | .drop t => .tuple [.str "drop", .int t]
  | .rcp t s ms => .tuple [.str "recipe", .int t, .str s, .list (ms.map .int)]
  | .strike t => .tuple [.str "strike", .int t]
  | .lose t => .tuple [.str "lose", .int t]
  | .make t => .tuple [.str "make", .int t]
theorem DeedAt.data {H : Hp} {v : V} {d : Deed} (h : DeedAt H v d) : PRep H v d.data := by
  obtain ⟨a, l, rfl, h1, h2⟩ := h
  cases d with
  | set t n => exact .tup h1 (.cons (.str _) (.cons (.int _) (.cons (.int _) .nil)))
  | drop t => exact .tup h1 (.cons (.str _) (.cons (.int _) .nil))
  | rcp t s ms => exact .tup h1 (.cons (.str _) (.cons (.int _) (.cons (.str _) (.cons (.lst (show H l = some (.lst (ms.map V.int)) from h2) (PReps.ints ms)) .nil))))
  | strike t => exact .tup h1 (.cons (.str _) (.cons (.int _) .nil))
  | lose t => exact .tup h1 (.cons (.str _) (.cons (.int _) .nil))
  | make t => exact .tup h1 (.cons (.str _) (.cons (.int _) .nil))
theorem dep_ints0 : ∀ ns : List Int, PyData.depthAll (ns.map PyData.int) = 0
  | [] => by simp [PyData.depthAll]
  | n :: ns => by simp [PyData.depthAll, PyData.depth, dep_ints0 ns]
end Lw
set_option Elab.async false
set_option linter.all false
set_option maxRecDepth 100000
namespace Lw
open PySem L2 PyProof.Rows Yd
def spAnswers : Sp := fun vs H Q _ => ∃ (p : Addr) (ds : List Deed), vs = [.ref p] ∧ DeedsAt H p ds ∧ (∀ d ∈ ds, d.ok) ∧ ds.length ≤ 200 ∧
  ∀ (q : Addr) (as : List V) (H' : Hp), Same H H' → H' q = some (.lst as) → All2 (AnsAt H') as (run Ys.e0 ds) → Q (.ref q) H'
structure YA2 (H : Hp) (a b : Addr) (y : Ys) (n : Nat) : Prop where
  s : ∃ S, NumAt H a S ∧ (∀ t, fnd S t = y.S t) ∧ S.length ≤ n
  r : ∃ R, RcsAt H b R ∧ (∀ t, fnd R t = y.R t) ∧ (keysA R).Nodup ∧ R.length ≤ n
  ab : a ≠ b
theorem YA2.le {H : Hp} {a b : Addr} {y : Ys} {n m : Nat} (h : YA2 H a b y n) (hm : n ≤ m) : YA2 H a b y m := by
  obtain ⟨⟨S, s1, s2, s3⟩, ⟨R, r1, r2, r3, r4⟩, ab⟩ := h
  exact ⟨⟨S, s1, s2, by omega⟩, ⟨R, r1, r2, r3, by omega⟩, ab⟩
theorem YA2.same {H H' : Hp} {a b : Addr} {y : Ys} {n : Nat} (h : YA2 H a b y n) (s : Same H H') : YA2 H' a b y n := by
  obtain ⟨⟨S, s1, s2⟩, ⟨R, r1, r2⟩, ab⟩ := h
  exact ⟨⟨S, s1.same s, s2⟩, ⟨R, r1.same s, r2⟩, ab⟩
theorem YA2.nn {H : Hp} {a b : Addr} {y : Ys} {n : Nat} (h : YA2 H a b y n) : H a ≠ none ∧ H b ≠ none := by
  obtain ⟨⟨S, ⟨kS, h1, _⟩, _⟩, ⟨R, ⟨kR, h2, _⟩, _⟩, _⟩ := h
  exact ⟨by rw [h1]; exact Option.some_ne_none _, by rw [h2]; exact Option.some_ne_none _⟩
theorem YA2.three {H : Hp} {a b c : Addr} {y : Ys} {n : Nat} (h : YA2 H a b y n) (hc : H c = none) : YAt (upd H c (.dK [])) a b c { y with sh := fun _ => none } n := by
  obtain ⟨na, nb⟩ := h.nn
  obtain ⟨s, r, ab⟩ := h.same (Same.upd hc (o := .dK []))
  exact ⟨s, r, ⟨[], ⟨[], upd_same, .nil⟩, fun _ => rfl, by simp [keysA], by simp⟩, ab, fun z => na (z ▸ hc), fun z => nb (z ▸ hc)⟩
theorem YAt.two {H : Hp} {a b c : Addr} {y : Ys} {n : Nat} (h : YAt H a b c y n) : YA2 H a b y n := ⟨h.s, h.r, h.ab⟩
theorem YA2.sh {H : Hp} {a b : Addr} {y y' : Ys} {n : Nat} (h : YA2 H a b y n) (e1 : y'.S = y.S) (e2 : y'.R = y.R) : YA2 H a b y' n := by
  obtain ⟨⟨S, s1, s2, s3⟩, ⟨R, r1, r2, r3, r4⟩, ab⟩ := h
  exact ⟨⟨S, s1, fun t => by rw [e1]; exact s2 t, s3⟩, ⟨R, r1, fun t => by rw [e2]; exact r2 t, r3, r4⟩, ab⟩
theorem YA2.start {H : Hp} {a b : Addr} (ha : H a = none) (hb : (upd H a (.dK [])) b = none) : YA2 (upd (upd H a (.dK [])) b (.dK [])) a b Ys.e0 0 := by
  have ab : a ≠ b := fun z => by rw [← z, upd_same] at hb; cases hb
  exact ⟨⟨[], ⟨[], by rw [upd_ne ab]; exact upd_same, .nil⟩, fun _ => rfl, by simp⟩, ⟨[], ⟨[], upd_same, .nil⟩, fun _ => rfl, by simp [keysA], by simp⟩, ab⟩
theorem Wf.asked {n : Nat} {y : Ys} (h : Wf n y) (hn : n < 300) (t : Int) : (∃ v told, (Lw.ask y t).2 = .made v told ∧ Known y.g t v) ∨ ∃ w tr told, (Lw.ask y t).2 = .fails w tr told ∧ ¬ Kn y.g t := by
  have o := h.out hn t
  unfold Lw.ask
  dsimp only
  cases e : (visit y.g fuel [] t []).1 with
  | ok v => exact .inl ⟨v, _, rfl, (o.ok v e).known o.good⟩
  | error er => exact .inr ⟨_, _, _, rfl, (o.er er e).nk⟩
theorem after_take {ds : List Deed} {i : Nat} {d : Deed} (h : ds[i]? = some d) (y : Ys) : after y (ds.take (i + 1)) = (step (after y (ds.take i)) d).1 := by
  rw [List.take_add_one, h]
  exact after_snoc d _ y
theorem wf_take {ds : List Deed} (hok : ∀ d ∈ ds, d.ok) (hl : ds.length ≤ 200) {i : Nat} (hi : i ≤ ds.length) : Wf 200 (after Ys.e0 (ds.take i)) := by
  have hlt : (ds.take i).length = i := by rw [List.length_take]; omega
  have := Wf.e0.after (ds.take i) (by rw [hlt]; omega) fun d hd => hok d (List.mem_of_mem_take hd)
  rw [hlt] at this
  exact this.le (by omega)
theorem isMake (d : Deed) : (∃ t, d = .make t) ∨ ∀ t, d ≠ .make t := by
  cases d with
  | make t => exact .inl ⟨t, rfl⟩
  | set t n => exact .inr fun _ z => nomatch z
  | drop t => exact .inr fun _ z => nomatch z
  | rcp t s ms => exact .inr fun _ z => nomatch z
  | strike t => exact .inr fun _ z => nomatch z
  | lose t => exact .inr fun _ z => nomatch z
theorem row0m (d : Deed) (l : Addr) : ∃ s r, d.row l = .str s :: .int d.t :: r ∧ (s = "make" ↔ ∃ t, d = .make t) := by
  cases d with
  | set t n => exact ⟨"set", _, rfl, ⟨fun h => absurd h (by decide +kernel), fun ⟨_, h⟩ => nomatch h⟩⟩
  | drop t => exact ⟨"drop", _, rfl, ⟨fun h => absurd h (by decide +kernel), fun ⟨_, h⟩ => nomatch h⟩⟩
  | rcp t x ms => exact ⟨"recipe", _, rfl, ⟨fun h => absurd h (by decide +kernel), fun ⟨_, h⟩ => nomatch h⟩⟩
  | strike t => exact ⟨"strike", _, rfl, ⟨fun h => absurd h (by decide +kernel), fun ⟨_, h⟩ => nomatch h⟩⟩
  | lose t => exact ⟨"lose", _, rfl, ⟨fun h => absurd h (by decide +kernel), fun ⟨_, h⟩ => nomatch h⟩⟩
  | make t => exact ⟨"make", _, rfl, ⟨fun _ => ⟨t, rfl⟩, fun _ => rfl⟩⟩
end Lw
set_option Elab.async false
set_option linter.all false
set_option maxRecDepth 100000
namespace Lw
open PySem L2 PyProof.Rows Yd
def entF (R : Int → Option Rcp) (N : Int → Option Int) (t : Int) : Option (Ent Str) := match R t with
  | some x => some (x.1, x.2, x.2.map fun m => (N m).getD 0)
  | none => none
def tellF (R : Int → Option Rcp) (N : Int → Option Int) (sh : Shf Str) : List Int → Shf Str
  | [] => sh
  | t :: ts => tellF R N (upF sh t (entF R N t)) ts
def ToldOk (R : Int → Option Rcp) (N : Int → Option Int) (sh : Shf Str) : List Int → Prop
  | [] => True
  | t :: ts => (∃ x, R t = some x ∧ (∀ m ∈ x.2, (N m).isSome = true) ∧ sh t ≠ entF R N t) ∧ ToldOk R N (upF sh t (entF R N t)) ts
section
variable {R : Int → Option Rcp} {N : Int → Option Int}
theorem tellF_app : ∀ (as bs : List Int) (sh : Shf Str), tellF R N sh (as ++ bs) = tellF R N (tellF R N sh as) bs
  | [], bs, sh => rfl
  | a :: as, bs, sh => tellF_app as bs _
theorem ToldOk.app : ∀ {as bs : List Int} {sh : Shf Str}, ToldOk R N sh as → ToldOk R N (tellF R N sh as) bs → ToldOk R N sh (as ++ bs)
  | [], bs, sh, _, h => h
  | a :: as, bs, sh, h, g => ⟨h.1, ToldOk.app h.2 g⟩
theorem ToldOk.left : ∀ {as bs : List Int} {sh : Shf Str}, ToldOk R N sh (as ++ bs) → ToldOk R N sh as
  | [], bs, sh, _ => trivial
  | a :: as, bs, sh, h => ⟨h.1, ToldOk.left h.2⟩
theorem ToldOk.right : ∀ {as bs : List Int} {sh : Shf Str}, ToldOk R N sh (as ++ bs) → ToldOk R N (tellF R N sh as) bs
  | [], bs, sh, h => h
  | a :: as, bs, sh, h => ToldOk.right (as := as) (bs := bs) (sh := upF sh a (entF R N a)) h.2
end
section
variable {g : Pg Str} {N : Int → Option Int}
theorem nums_of (hN : ∀ t v, N t = some v ↔ Known g t v) : ∀ {ms ns : List Int}, All2 (Known g) ms ns → (ms.map fun m => (N m).getD 0) = ns ∧ ∀ m ∈ ms, (N m).isSome = true
  | _, _, .nil => ⟨rfl, by simp⟩
  | _, _, .cons h r => by
    obtain ⟨e, a⟩ := nums_of hN r
    have h1 := (hN _ _).mpr h
    refine ⟨by rw [List.map_cons, e, h1]; rfl, fun m hm => ?_⟩
    rcases List.mem_cons.mp hm with z | z
    · rw [z, h1]; rfl
    · exact a m z
theorem lookV_none {a : Acc Str} {t : Int} (h : lookV a t = none) : findV a t = none := by
  rw [lookV_find] at h
  cases e : findV a t with
  | none => rfl
  | some x => rw [e] at h; cases h
theorem told_all (hN : ∀ t v, N t = some v ↔ Known g t v) (sh : Shf Str) {acc : Acc Str} (G : Good g acc) : ToldOk g.R N sh (toldOf sh acc) ∧ tellF g.R N sh (toldOf sh acc) = shOf sh acc := by
  induction G with
  | nil => exact ⟨trivial, rfl⟩
  | @snoc a e G hs hl hr ha hw ih =>
    obtain ⟨h1, h2⟩ := ih
    obtain ⟨e1, e2⟩ := nums_of hN (ha.imp fun _ _ q => q.known G)
    have ee : entF g.R N e.t = some (entV e) := by
      unfold entF
      rw [hr]
      show some (e.s, e.ms, _) = _
      rw [e1]
      rfl
    have fn := lookV_none hl
    have sa : shOf sh a e.t = sh e.t := by unfold shOf; rw [fn]
    rw [toldOf_snoc, shOf_snoc sh a e fn]
    by_cases h : sh e.t = some (entV e)
    · rw [if_pos h, List.append_nil]
      refine ⟨h1, ?_⟩
      rw [h2]
      funext t
      by_cases q : t = e.t
      · rw [if_pos q, q, sa, h]
      · rw [if_neg q]
    · rw [if_neg h]
      refine ⟨h1.app ⟨⟨(e.s, e.ms), hr, e2, ?_⟩, trivial⟩, ?_⟩
      · rw [h2, sa, ee]; exact h
      · rw [tellF_app, h2]
        show upF (shOf sh a) e.t (entF g.R N e.t) = _
        rw [ee]
        rfl
end
end Lw
set_option Elab.async false
set_option linter.all false
set_option maxRecDepth 100000
namespace Lw
open PySem L2 PyProof.Rows Yd
def Sb (c : Addr) (H H' : Hp) : Prop := ∀ b o, b ≠ c → H b = some o → H' b = some o
theorem Sb.of {c : Addr} {H H' : Hp} (s : Same H H') : Sb c H H' := fun b o _ e => s b o e
theorem Sb.trans {c : Addr} {H H' H'' : Hp} (a : Sb c H H') (b : Sb c H' H'') : Sb c H H'' := fun x o n e => b x o n (a x o n e)
theorem Sb.upd {c : Addr} {H : Hp} {o : HO} : Sb c H (L2.upd H c o) := fun b u n e => by rw [upd_ne n]; exact e
theorem Sb.kp {c : Addr} {H H' : Hp} {k : List (Key × V)} (s : Sb c H H') (h : H c = some (.dK k)) : Kp H H' := fun b o n e => s b o (fun z => by rw [z, h] at e; exact n k (Option.some.inj e).symm) e
theorem NumAt.sb {c : Addr} {H H' : Hp} {d : Addr} {S : List (Int × Int)} (h : NumAt H d S) (s : Sb c H H') (n : d ≠ c) : NumAt H' d S := let ⟨kvs, h1, h2⟩ := h; ⟨kvs, s _ _ n h1, h2⟩
theorem RcsAt.sb {c : Addr} {H H' : Hp} {d : Addr} {R : List (Int × Rcp)} {k : List (Key × V)} (h : RcsAt H d R) (s : Sb c H H') (n : d ≠ c) (hc : H c = some (.dK k)) : RcsAt H' d R :=
  let ⟨kvs, h1, h2⟩ := h; ⟨kvs, s _ _ n h1, h2.imp fun _ _ q => q.kp (s.kp hc)⟩
theorem ShfAt.same {H H' : Hp} {d : Addr} {Z : List (Int × Ent Str)} (h : ShfAt H d Z) (s : Same H H') : ShfAt H' d Z := let ⟨kvs, h1, h2⟩ := h; ⟨kvs, s _ _ h1, h2.imp fun _ _ q => q.kp (Kp.of s)⟩
theorem good_can {s : Str} (h : s ∈ good3) : PyData.canLay0 (.str s) = true := by
  have : ∀ s ∈ good3, PyData.canLay0 (.str s) = true := by decide +kernel
  exact this s h
def entD (x : Ent Str) : PyData := .tuple [.str x.1, .list (x.2.1.map .int), .list (x.2.2.map .int)]
theorem eqv_str (a b : Str) : PyData.eqv (.str a) (.str b) = decide (a = b) := by
  simp [PyData.eqv]
  rfl
theorem eqv_ent (x y : Ent Str) : PyData.eqv (entD x) (entD y) = decide (x = y) := by
  obtain ⟨s, ms, ns⟩ := x
  obtain ⟨s', ms', ns'⟩ := y
  unfold entD
  simp only [PyData.eqv, PyData.eqvAll, eqv_intsAll, Bool.and_true]
  have e := eqv_str s s'
  simp only [PyData.eqv] at e
  rw [e]
  by_cases h1 : s = s'
  · by_cases h2 : ms = ms'
    · by_cases h3 : ns = ns' <;> simp [h1, h2, h3]
    · simp [h2]
  · simp [h1]
theorem shaped_ent {x : Ent Str} (h : x.1 ∈ good3) : SeqAt.shaped (entD x) = true := by
  show (PyData.canLay0 (entD x) && decide (PyData.depth (entD x) ≤ 64)) = true
  have h1 : PyData.canLay0 (entD x) = true := by
    have := good_can h
    unfold entD
    simp only [PyData.canLay0, PyData.canLayAll0, canLay_ints] at this ⊢
    simp [this]
  have h2 : PyData.depth (entD x) ≤ 64 := by
    unfold entD
    simp only [PyData.depth, PyData.depthAll, dep_ints0]
    decide
  rw [h1, decide_eq_true h2]
  rfl
theorem EntAt.data {K : PySem.W.Frag} {H : Hp} {v : V} {x : Ent Str} (h : EntAt H v x) : DRep K H v (entD x) := by
  obtain ⟨a, l, m, rfl, h1, h2, h3⟩ := h
  exact .tup (SqT.of h1) (.cons (.str _) (.cons (.lst (SqL.of h2) (DReps.ints _)) (.cons (.lst (SqL.of h3) (DReps.ints _)) .nil)))
structure TOk (R : List (Int × Rcp)) (Z : List (Int × Ent Str)) : Prop where
  srt : ∀ t x, fnd R t = some x → x.1 ∈ good3 ∧ x.2.length ≤ 20
  ent : ∀ t e, fnd Z t = some e → e.1 ∈ good3
  nd : (keysA Z).Nodup
def spTold : Sp := fun vs H Q _ => ∃ (tl c kq b : Addr) (told : List Int) (Z : List (Int × Ent Str)) (N : List (Int × Int)) (R : List (Int × Rcp)), vs = [.ref tl, .ref c, .ref kq, .ref b] ∧ H tl = some (.lst (told.map V.int)) ∧ ShfAt H c Z ∧ NumAt H kq N ∧ RcsAt H b R ∧ kq ≠ c ∧ b ≠ c ∧
  TOk R Z ∧ Z.length + told.length ≤ 1000000 ∧ ToldOk (fnd R) (fnd N) (fnd Z) told ∧
  ∀ (Z' : List (Int × Ent Str)) (H' : Hp), Sb c H H' → ShfAt H' c Z' → (∀ t, fnd Z' t = tellF (fnd R) (fnd N) (fnd Z) told t) → TOk R Z' → Z'.length ≤ Z.length + told.length → Q (.bl true) H'
theorem TOk.put {R : List (Int × Rcp)} {Z : List (Int × Ent Str)} (h : TOk R Z) (t : Int) {e : Ent Str} (he : e.1 ∈ good3) : TOk R (setA Z t e) := by
  refine ⟨h.srt, fun u x hx => ?_, nd_set Z t e h.nd⟩
  rw [fnd_set] at hx
  by_cases q : u = t
  · rw [if_pos q] at hx; cases hx; exact he
  · rw [if_neg q] at hx; exact h.ent u x hx
end Lw
namespace Lw
open PySem L2 PyProof.Rows Yd
end Lw
set_option Elab.async false
set_option linter.all false
set_option maxRecDepth 100000
namespace Lw
open PySem L2 PyProof.Rows Yd
theorem wk_good {s : Str} {ns : List Int} {v : Int} (h : wk s ns = some v) : s ∈ good3 := by
  refine Classical.byContradiction fun z => ?_
  unfold wk at h
  cases e : workOf s ns with
  | none => rw [e] at h; cases h
  | some r => exact z (work_some e)
theorem Wf.tok {n : Nat} {y : Ys} (h : Wf n y) {R : List (Int × Rcp)} {Z : List (Int × Ent Str)} (fR : ∀ t, fnd R t = y.R t) (fZ : ∀ t, fnd Z t = y.sh t) (nd : (keysA Z).Nodup) : TOk R Z := by
  refine ⟨fun t x e => h.srt t x (by rw [← fR, e]), fun t e he => ?_, nd⟩
  obtain ⟨ks, _, _, k3⟩ := h.key
  obtain ⟨_, v, hv⟩ := k3 t e (by rw [← fZ, he])
  exact wk_good hv
structure AskedBy (n : Nat) (y : Ys) (t : Int) (acc : Acc Str) : Prop where
  good : Good y.g acc
  st : (ask y t).1 = { y with sh := shOf y.sh acc }
  rch : ∀ e ∈ acc, Rch y.g t e.t
  len : (toldOf y.sh acc).length ≤ n
  ans : (∃ v, (ask y t).2 = .made v (toldOf y.sh acc) ∧ Has y.g acc t v) ∨ ∃ w tr, (ask y t).2 = .fails (whyW w) tr (toldOf y.sh acc) ∧ Fl y.g [] t (w, tr)
theorem Wf.askedBy {n : Nat} {y : Ys} (h : Wf n y) (hn : n < 300) (t : Int) : ∃ acc, AskedBy n y t acc := by
  have o := h.out hn t
  refine ⟨(visit y.g fuel [] t []).2, o.good, rfl, ?_, ?_, ?_⟩
  · obtain ⟨new, e, hr⟩ := o.pre
    rw [e]
    simpa using hr
  · obtain ⟨ks, k1, k2, _⟩ := h.key
    have h1 : ((visit y.g fuel [] t []).2.map (·.t)).length ≤ ks.length := len_le_of_nodup o.good.nodup fun z hz => by
      obtain ⟨e, he, rfl⟩ := List.mem_map.mp hz
      have := find_of_mem o.good.nodup he
      obtain ⟨_, _, h3, _⟩ := o.good.find_known this
      exact k2 _ _ h3
    rw [List.length_map] at h1
    unfold toldOf
    rw [List.length_map]
    exact Nat.le_trans (List.length_filter_le ..) (Nat.le_trans h1 k1)
  · unfold Lw.ask
    dsimp only
    cases e : (visit y.g fuel [] t []).1 with
    | ok v => exact .inl ⟨v, rfl, o.ok v e⟩
    | error er => exact .inr ⟨er.1, er.2, rfl, o.er er e⟩
theorem AskedBy.at {n : Nat} {y : Ys} {t : Int} {acc : Acc Str} (h : AskedBy n y t acc) {H : Hp} {v : V} (ha : AnsAt H v (ask y t).2) :
    ∃ a tl s r, v = .ref a ∧ H a = some (.tup (.str s :: (r ++ [.ref tl]))) ∧ H tl = some (.lst ((toldOf y.sh acc).map V.int)) ∧ ((s = "made" ∧ ∃ v, Has y.g acc t v) ∨ s = "fails") := by
  rcases h.ans with ⟨v, e, hv⟩ | ⟨w, tr, e, _⟩
  · rw [e] at ha
    obtain ⟨a, l, rfl, h1, h2⟩ := ha
    exact ⟨a, l, "made", [.int v], rfl, h1, h2, .inl ⟨rfl, v, hv⟩⟩
  · rw [e] at ha
    obtain ⟨a, l, m, rfl, h1, h2, h3⟩ := ha
    exact ⟨a, m, "fails", [.str (whyW w), .ref l], rfl, h1, h3, .inr rfl⟩
theorem AskedBy.notword {n : Nat} {y : Ys} {t : Int} {acc : Acc Str} (h : AskedBy n y t acc) : ∀ s, (step y (.make t)).2 ≠ .word s := fun s z => by
  have z' : (ask y t).2 = .word s := z
  rcases h.ans with ⟨v, e, _⟩ | ⟨w, tr, e, _⟩
  · rw [e] at z'; cases z'
  · rw [e] at z'; cases z'
theorem at_last {α : Type} (x : α) (r : List α) (v : α) : atI (x :: (r ++ [v])) (-1) = some v := atI_last (x :: r) v
theorem fnd_mem {α : Type} {R : List (Int × α)} {u : Int} {x : α} (e : fnd R u = some x) : ∃ p ∈ R, p.2 = x := by
  induction R with
  | nil => cases e
  | cons q R ih =>
    have e' : (if q.1 = u then some q.2 else fnd R u) = some x := e
    by_cases z : q.1 = u
    · rw [if_pos z] at e'
      exact ⟨q, by simp, Option.some.inj e'⟩
    · rw [if_neg z] at e'
      obtain ⟨p, hp, ep⟩ := ih e'
      exact ⟨p, by simp [hp], ep⟩
theorem flat_len : ∀ (L : List (Int × Rcp)), (∀ p ∈ L, p.2.2.length ≤ 20) → (L.flatMap fun p => p.2.2).length ≤ 20 * L.length
  | [], _ => by simp
  | q :: L, h => by
    have h1 := h q (by simp)
    have h2 := flat_len L fun p hp => h p (by simp [hp])
    simp only [List.flatMap_cons, List.length_append, List.length_cons]
    omega
theorem TOk.from {R : List (Int × Rcp)} {Z : List (Int × Ent Str)} (h : TOk R Z) (nR : (keysA R).Nodup) : ∃ U : List Int, (∀ y x, fnd R y = some x → ∀ m ∈ x.2, m ∈ U) ∧ U.length ≤ 20 * R.length := by
  refine ⟨R.flatMap fun p => p.2.2, fun y x e m hm => ?_, flat_len R fun p hp => ?_⟩
  · obtain ⟨p, hp, ep⟩ := fnd_mem e
    exact List.mem_flatMap.mpr ⟨p, hp, by rw [ep]; exact hm⟩
  · obtain ⟨j, hj⟩ := List.getElem?_of_mem hp
    exact (h.srt p.1 p.2 (fnd_ix nR hj)).2
theorem YAt.start {H : Hp} {a b c : Addr} (ha : H a = none) (hb : (upd H a (.dK [])) b = none) (hc : (upd (upd H a (.dK [])) b (.dK [])) c = none) : YAt (upd (upd (upd H a (.dK [])) b (.dK [])) c (.dK [])) a b c Ys.e0 0 := by
  have Y := YA2.start ha hb
  have na : (upd (upd H a (.dK [])) b (.dK [])) a ≠ none := Y.nn.1
  have nb : (upd (upd H a (.dK [])) b (.dK [])) b ≠ none := Y.nn.2
  obtain ⟨s, r, ab⟩ := Y.same (Same.upd hc (o := .dK []))
  exact ⟨s, r, ⟨[], ⟨[], upd_same, .nil⟩, fun _ => rfl, by simp [keysA], by simp⟩, ab, fun z => na (z ▸ hc), fun z => nb (z ▸ hc)⟩
theorem YAt.told {H H' : Hp} {a b c : Addr} {y y' : Ys} {n m : Nat} (h : YAt H a b c y n) (sb : Sb c H H') {Z : List (Int × Ent Str)} (hZ : ShfAt H' c Z) (fZ : ∀ t, fnd Z t = y'.sh t) (nZ : (keysA Z).Nodup) (lZ : Z.length ≤ 1000 * m) (hn : n ≤ m) (e1 : y'.S = y.S) (e2 : y'.R = y.R) : YAt H' a b c y' m := by
  obtain ⟨⟨S, s1, s2, s3⟩, ⟨R, r1, r2, r3, r4⟩, ⟨Z0, ⟨k0, z0, _⟩, _⟩, ab, ac, bc⟩ := h
  exact ⟨⟨S, s1.sb sb ac, fun t => by rw [e1]; exact s2 t, by omega⟩, ⟨R, r1.sb sb bc z0, fun t => by rw [e2]; exact r2 t, r3, by omega⟩, ⟨Z, hZ, fZ, nZ, lZ⟩, ab, ac, bc⟩
end Lw
set_option Elab.async false
set_option linter.all false
set_option maxRecDepth 100000
set_option maxHeartbeats 4000000
namespace Lw
open PySem L2 PyProof.Rows
def top (i : Nat) : Stmt := PySem.Challenge.pw_makeyard_k09_by_hand.main.body.getD i (.Pass ⟨0, 0, 0, 0⟩)
abbrev sWall : Stmt := top 0
abbrev sCheckSort : Stmt := top 12
abbrev sTaken : Stmt := top 13
abbrev sWorked : Stmt := top 14
abbrev sEachOnce : Stmt := top 16
abbrev sFirstUnknown : Stmt := top 17
abbrev sChange : Stmt := top 22
abbrev sChangeAnswer : Stmt := top 23
abbrev sAnswerTo : Stmt := top 24
abbrev sAnswers : Stmt := top 25
abbrev sUpto : Stmt := top 27
abbrev sDraw : Stmt := top 28
abbrev sWhole : Stmt := top 29
abbrev sAt : Stmt := top 30
abbrev sOneDeed : Stmt := top 31
abbrev sRenamed : Stmt := top 32
abbrev sYardDeeds : Stmt := top 33
abbrev sWork : Stmt := top 34
abbrev sChanged : Stmt := top 35
abbrev sKnowable : Stmt := top 36
abbrev sWholeRow : Stmt := top 37
abbrev sIsAnswer : Stmt := top 38
abbrev sDone : Stmt := top 39
abbrev sAnswered : Stmt := top 40
abbrev sToldRight : Stmt := top 41
abbrev sCopy : Stmt := top 42
abbrev sToldIs : Stmt := top 43
abbrev sLaw : Stmt := top 44
abbrev sRecipeInit : Stmt := inClass (top 18) 0
abbrev sRecipeMadeOf : Stmt := inClass (top 18) 1
abbrev sLotInit : Stmt := inClass (top 19) 0
abbrev sLotIsFit : Stmt := inClass (top 19) 1
abbrev sYardInit : Stmt := inClass (top 20) 0
abbrev sYardSetSource : Stmt := inClass (top 20) 1
abbrev sYardDropSource : Stmt := inClass (top 20) 2
abbrev sYardSetRecipe : Stmt := inClass (top 20) 3
abbrev sYardDropRecipe : Stmt := inClass (top 20) 4
abbrev sYardLose : Stmt := inClass (top 20) 5
abbrev sYardMake : Stmt := inClass (top 20) 6
abbrev sYardAsk : Stmt := inClass (top 20) 7
abbrev sYardFinish : Stmt := inClass (top 20) 8
abbrev sYardLying : Stmt := inClass (top 20) 9
section
variable {P : Program} {w : World} {K : PySem.W.Frag} {mg : Str → Option Value} {base : Heap} {f : Addr} {fd : FuncData}
theorem scWhole : FnScope ["_law_found"] ["_law_found"] (defScope sWhole) := ⟨rfl, rfl, rfl, by decide +kernel, rfl, by decide +kernel, by decide +kernel⟩
theorem own_whole (F : At K mg "_law_whole" sWhole f fd) (B : Blt mg) : Own P w K mg base "_law_whole" 1 ["_law_found"] spWhole := by
  refine F.own scWhole (fun _ _ _ _ _ _ us hl => match us, hl with | [_], _ => rfl) (fun vs H Q E h => ?_) (fun cdv A outer s H vs Q E hr h => ?_)
  · obtain ⟨n, rfl, _⟩ := h
    rfl
  · obtain ⟨n, rfl, k⟩ := h
    refine ⟨_, pss_one (ps_ret (pe_and (pe_callB call_isi rfl B.isi boot_isinstance (pa_cons (pv 0) (pa_cons (pe_bltn (v := .ty "int") rfl B.int boot_int rfl) pa_nil))) (pe_one (pe_not (pe_callB call_isi rfl B.isi boot_isinstance (pa_cons (pv 0) (pa_cons (pe_bltn (v := .ty "bool") rfl B.bool boot_bool rfl) pa_nil))))))), ?_⟩
    refine ⟨_, rfl, _, _, _, _, _, rfl, rfl, .inl (.int n), kit_ii K, _, rfl, iteT ?_⟩
    refine ⟨_, rfl, _, _, _, _, _, rfl, rfl, .inl (.int n), kit_ib K, _, rfl, ?_⟩
    exact k
theorem scAt : FnScope ["_law_script", "_law_k"] ["_law_script", "_law_k"] (defScope sAt) := ⟨rfl, rfl, rfl, by decide +kernel, rfl, by decide +kernel, by decide +kernel⟩
theorem own_at (F : At K mg "_law_at" sAt f fd) (B : Blt mg) : Own P w K mg base "_law_at" 1 ["_law_script", "_law_k"] (spAt K) := by
  refine F.own scAt (fun _ _ _ _ _ _ us hl => match us, hl with | [_, _], _ => rfl) (fun vs H Q E h => ?_) (fun cdv A outer s H vs Q E hr h => ?_)
  · obtain ⟨p, ns, n, rfl, _⟩ := h
    rfl
  · obtain ⟨p, ns, n, rfl, hS, k⟩ := h
    refine ⟨_, pss_cons (ps_if (pt_cmpR op_lt (pv 1) (pe_callB call_len_seq rfl B.len boot_len (pa_cons (pv 0) pa_nil)) (nomark _)) (pss_one (ps_ret (pe_ix ix_list (pv 0) (pv 1) (fun _ _ => rfl)))) pss_nil) (pss_one (ps_ret pe_int)), ?_⟩
    refine ⟨_, rfl, _, rfl, p, _, rfl, .inl hS, _, _, rfl, rfl, _, rfl, ?_⟩
    refine ite2 (fun h0 => ?_) (fun h0 => ?_)
    · have h1 : n < ns.length := by
        have := of_decide_eq_true h0
        simp only [List.length_map] at this
        omega
      refine ⟨_, rfl, _, rfl, p, _, _, _, rfl, rfl, hS, atI_nat (v := .int (ns.getD n 0)) (by simp [List.getElem?_eq_getElem h1, List.getD_eq_getElem?_getD]), k⟩
    · have h1 : ¬ n < ns.length := fun z => h0 (decide_eq_true (by simp only [List.length_map]; omega))
      have : ns.getD n 0 = 0 := by simp [List.getD_eq_getElem?_getD, List.getElem?_eq_none (by omega : ns.length ≤ n)]
      rw [this] at k
      exact k
theorem scUpto : FnScope ["_law_script", "_law_small", "_law_great"] ["_law_script", "_law_small", "_law_great"] (defScope sUpto) := ⟨rfl, rfl, rfl, by decide +kernel, rfl, by decide +kernel, by decide +kernel⟩
theorem own_upto (F : At K mg "_law_upto" sUpto f fd) (B : Blt mg) : Own P w K mg base "_law_upto" 1 ["_law_script", "_law_small", "_law_great"] (spUpto K) := by
  refine F.own scUpto (fun _ _ _ _ _ _ us hl => match us, hl with | [_, _, _], _ => rfl) (fun vs H Q E h => ?_) (fun cdv A outer s H vs Q E hr h => ?_)
  · obtain ⟨p, ns, a, b, rfl, _⟩ := h
    rfl
  · obtain ⟨p, ns, a, b, rfl, hS, hl, k⟩ := h
    have sc := scUpto
    refine ⟨_, (pss_cons (ps_if (pt_cmpR op_gt (pe_callB call_len_seq rfl B.len boot_len (pa_cons (pv 0) pa_nil)) pe_int (nomark _)) (pss_one (ps_ret (pv 2))) pss_nil)
      (pss_one (ps_ret (pv 1)))), ?_⟩
    refine ⟨_, rfl, p, _, rfl, .inl hS, _, _, rfl, rfl, _, rfl, ?_⟩
    rw [decide_eq_false (by simp only [List.length_map]; omega)]
    exact iteF ⟨_, rfl, k⟩
theorem scWholeRow : FnScope ["_law_found", "_law_one"] ["_law_found"] (defScope sWholeRow) := ⟨rfl, rfl, rfl, by decide +kernel, rfl, by decide +kernel, by decide +kernel⟩
theorem own_row (F : At K mg "_law_whole_row" sWholeRow f fd) (B : Blt mg) (D : Own P w K mg base "_law_whole" 1 ["_law_found"] spWhole) : Own P w K mg base "_law_whole_row" 2 ["_law_found"] spRow := by
  refine F.own scWholeRow (fun _ _ _ _ _ _ us hl => match us, hl with | [_], _ => rfl) (fun vs H Q E h => ?_) (fun cdv A outer s H vs Q E hr h => ?_)
  · obtain ⟨p, ns, rfl, _⟩ := h
    rfl
  · obtain ⟨p, ns, rfl, hp, k⟩ := h
    have sc := scWholeRow
    have hS : SqL K H p (ns.map V.int) := SqL.of hp
    refine ⟨_, (pss_cons (ps_if (pt_not (pt_val (pe_callB (call_isiK (K := K) rfl) rfl B.isi boot_isinstance (pa_cons (pv 0) (pa_cons (pe_bltn (v := .ty "list") rfl B.list boot_list rfl) pa_nil))))) (pss_one (ps_ret pe_bl)) pss_nil)
      (pss_cons (ps_for PassesOwn.never rfl (pi_list (pv 0)) (pg_name (i := 1) sc.nd rfl (Or.inl rfl)) (pss_one (ps_if (pt_not (pt_val (pe_own D hr rfl (pa_cons (pv 1) pa_nil)))) (pss_one (ps_ret pe_bl)) pss_nil)))
      (pss_one (ps_ret pe_bl)))), ?_⟩
    refine ⟨_, rfl, _, _, _, _, _, rfl, rfl, .inl (.lst hp), kit_ll K, _, rfl, iteF ?_⟩
    refine ⟨_, rfl, p, rfl, ⟨_, hS⟩, for_list (K := K) (a := p) (xs := ns.map V.int) (fun i σ H2 => H2 = H ∧ ∃ v, σ = [some (.ref p), v]) ⟨rfl, none, rfl⟩ (fun i σ H2 _ ⟨z, _⟩ => z ▸ hS) ?_ ?_⟩
    · rintro i y σ H2 hi ⟨rfl, v, rfl⟩
      obtain ⟨z, rfl, hz⟩ := int_at hi
      refine ⟨_, rfl, z, rfl, _, rfl, iteF ?_⟩
      exact ⟨rfl, _, rfl⟩
    · rintro σ H2 ⟨rfl, v, rfl⟩
      exact k
end
end Lw
set_option Elab.async false
set_option linter.all false
set_option maxRecDepth 100000
set_option maxHeartbeats 4000000
namespace Lw
open PySem L2 PyProof.Rows
section
variable {P : Program} {w : World} {K : PySem.W.Frag} {mg : Str → Option Value} {base : Heap} {f : Addr} {fd : FuncData}
theorem scWork : FnScope ["_law_sort", "_law_amounts", "_law_total", "_law_number", "_law_left"] ["_law_sort", "_law_amounts"] (defScope sWork) := ⟨rfl, rfl, rfl, by decide +kernel, rfl, by decide +kernel, by decide +kernel⟩
theorem sum_snoc (ns : List Int) (i : Nat) (n : Int) (h : ns[i]? = some n) : (ns.take (i + 1)).sum = (ns.take i).sum + n := by
  rw [List.take_add_one, h]
  simp
theorem fold_snoc (g : Int → Int → Int) (a : Int) (ns : List Int) (i : Nat) (n : Int) (h : ns[i]? = some n) : (ns.take (i + 1)).foldl g a = g ((ns.take i).foldl g a) n := by
  rw [List.take_add_one, h]
  simp
def stepW (sort : Str) (a n : Int) : Int := if sort = "most" then max a n else a - n
theorem foldl_sub (ns : List Int) : ∀ a : Int, ns.foldl (fun a n => a - n) a = a - ns.sum := by
  induction ns with
  | nil => intro a; simp
  | cons m ns ih => intro a; rw [List.foldl_cons, ih, List.sum_cons]; omega
theorem own_work (F : At K mg "_law_work" sWork f fd) (B : Blt mg) : Own P w K mg base "_law_work" 1 ["_law_sort", "_law_amounts"] (spWork K) := by
  refine F.own scWork (fun _ _ _ _ _ _ us hl => match us, hl with | [_, _], _ => rfl) (fun vs H Q E h => ?_) (fun cdv A outer s H vs Q E hr h => ?_)
  · obtain ⟨p, ns, sort, r, rfl, _⟩ := h
    rfl
  · obtain ⟨p, ns, sort, r, rfl, hS, hw, k⟩ := h
    have hu := units_of hr
    refine ⟨_, pss_cons (ps_if (pt_cmpR op_eq (pv 0) pe_str (nomark _))
        (pss_cons (ps_set (i := 2) scWork.nd rfl (Or.inl rfl) pe_int)
        (pss_cons (ps_for PassesOwn.never rfl (pi_list (pv 1)) (pg_name (i := 3) scWork.nd rfl (Or.inl rfl)) (pss_one (ps_set (i := 2) scWork.nd rfl (Or.inl rfl) (pe_op op_add (pv 2) (pv 3)))))
        (pss_one (ps_ret (pv 2))))) pss_nil)
      (pss_cons (ps_if (pt_cmpR (op_eqD hu) (pv 1) (pe_lst pa_nil) (nomark _)) (pss_one (ps_ret pe_non)) pss_nil)
      (pss_cons (ps_set (i := 4) scWork.nd rfl (Or.inl rfl) (pe_ix ix_list (pv 1) pe_int (fun _ _ => rfl)))
      (pss_cons (ps_for PassesOwn.never rfl (pi_list (pe_slice sl_list (pv 1) (po_some pe_int) po_none)) (pg_name (i := 3) scWork.nd rfl (Or.inl rfl))
        (pss_one (ps_if (pt_cmpR op_eq (pv 0) pe_str (nomark _)) (pss_one (ps_set (i := 4) scWork.nd rfl (Or.inl rfl) (pe_callB (call_max2 rfl) rfl B.max boot_max (pa_cons (pv 4) (pa_cons (pv 3) pa_nil))))) (pss_one (ps_set (i := 4) scWork.nd rfl (Or.inl rfl) (pe_op op_sub (pv 4) (pv 3)))))))
      (pss_cons (ps_if (PW.pt (pw_and (pt_cmpR op_eq (pv 0) pe_str (nomark _)) (pw_and1 (pt_cmpR op_lt (pv 4) pe_int (nomark _))))) (pss_one (ps_ret pe_non)) pss_nil)
      (pss_one (ps_ret (pv 4))))))), ?_⟩
    unfold workOf at hw
    refine ⟨_, rfl, rfl, _, rfl, ?_⟩
    refine ite2 (fun e => ?_) (fun e => ?_)
    · have e1 : sort = "sum" := V.str.inj (of_decide_eq_true e)
      rw [if_pos e1] at hw
      cases hw
      refine ⟨_, rfl, p, rfl, ⟨_, hS⟩, for_list (K := K) (a := p) (xs := ns.map V.int) (fun i σ H2 => H2 = H ∧ ∃ v u, σ = [some (.str sort), some (.ref p), some (.int (ns.take i).sum), v, u]) ⟨rfl, none, none, rfl⟩ (fun i σ H2 _ ⟨z, _⟩ => z ▸ hS) ?_ ?_⟩
      · rintro i y σ H2 hi ⟨rfl, v, u, rfl⟩
        obtain ⟨z, rfl, hz⟩ := int_at hi
        refine ⟨_, rfl, _, rfl, _, _, rfl, rfl, rfl, some (.int z), u, ?_⟩
        rw [sum_snoc ns i z hz]
        rfl
      · rintro σ H2 ⟨rfl, v, u, rfl⟩
        refine ⟨_, rfl, ?_⟩
        rw [List.take_of_length_le (by simp)]
        exact k _ (Same.refl _)
    have e1 : ¬ sort = "sum" := fun z => e (decide_eq_true (congrArg V.str z))
    rw [if_neg e1] at hw
    refine ⟨_, rfl, by show 0 ≤ sizeLine; omega, fun q hq => ?_⟩
    have s1 : Same H (upd H q (.lst [])) := Same.upd hq
    have hS1 := hS.same s1
    refine ⟨.list (ns.map .int), .list [], .lst hS1 (DReps.ints ns), .lst (SqL.of upd_same) .nil, shaped_ints ns, shaped_nil, _, rfl, ?_⟩
    rw [if_neg (by decide : ¬ (false = true)), eqv_nil]
    cases ns with
    | nil =>
      refine iteT ?_
      have hr2 : r = none := by
        by_cases e2 : sort = "most"
        · rw [if_pos e2] at hw; cases hw; rfl
        · rw [if_neg e2] at hw
          by_cases e3 : sort = "take"
          · rw [if_pos e3] at hw; cases hw; rfl
          · rw [if_neg e3] at hw; cases hw
      subst hr2
      exact k _ s1
    | cons n ns =>
      refine iteF ?_
      refine ⟨_, rfl, p, _, _, _, rfl, rfl, hS1, atI0 _ _, ?_⟩
      refine ⟨_, rfl, 1, rfl, p, _, rfl, hS1, fun q2 hq2 => ?_⟩
      have s2 := s1.step hq2 (o := .lst (cutV ((n :: ns).map V.int) (some 1) none))
      have hL : SqL K (upd (upd H q (.lst [])) q2 (.lst (cutV ((n :: ns).map V.int) (some 1) none))) q2 (ns.map V.int) := SqL.of (by rw [List.map_cons, cut1]; exact upd_same)
      refine ⟨q2, rfl, ⟨_, hL⟩, for_list (K := K) (a := q2) (xs := ns.map V.int) (fun i σ H2 => H2 = upd (upd H q (.lst [])) q2 (.lst (cutV ((n :: ns).map V.int) (some 1) none)) ∧ ∃ v u, σ = [some (.str sort), some (.ref p), u, v, some (.int ((ns.take i).foldl (stepW sort) n))]) ⟨rfl, none, none, rfl⟩ (fun i σ H2 _ ⟨z, _⟩ => z ▸ hL) ?_ ?_⟩
      · rintro i y σ H2 hi ⟨rfl, v, u, rfl⟩
        obtain ⟨z, rfl, hz⟩ := int_at hi
        refine ⟨_, rfl, rfl, _, rfl, ?_⟩
        refine ite2 (fun e => ?_) (fun e => ?_)
        · have e2 : sort = "most" := V.str.inj (of_decide_eq_true e)
          refine ⟨_, rfl, _, rfl, _, _, rfl, rfl, some (.int z), u, ?_⟩
          rw [fold_snoc _ _ ns i z hz]
          have : ∀ a b : Int, (if b > a then b else a) = stepW sort a b := fun a b => by
            unfold stepW
            rw [if_pos e2]
            by_cases h : b > a
            · rw [if_pos h]; omega
            · rw [if_neg h]; omega
          rw [← this]
          rfl
        · have e2 : ¬ sort = "most" := fun z => e (decide_eq_true (congrArg V.str z))
          refine ⟨_, rfl, _, rfl, _, _, rfl, rfl, rfl, some (.int z), u, ?_⟩
          rw [fold_snoc _ _ ns i z hz]
          have : ∀ a b : Int, a - b = stepW sort a b := fun a b => by
            unfold stepW
            rw [if_neg e2]
          rw [← this]
          rfl
      · rintro σ H2 ⟨rfl, v, u, rfl⟩
        rw [List.take_of_length_le (by simp)]
        refine ⟨_, rfl, rfl, _, rfl, ?_⟩
        by_cases e2 : sort = "most"
        · rw [if_pos e2] at hw
          cases hw
          have nt : ¬ sort = "take" := by rw [e2]; decide +kernel
          rw [decide_eq_false (fun z => nt (V.str.inj z))]
          refine iteF (iteF ⟨_, rfl, ?_⟩)
          have : ns.foldl (stepW sort) n = ns.foldl max n := by
            congr 1
            funext a b
            unfold stepW
            rw [if_pos e2]
          rw [this]
          exact k _ s2
        · rw [if_neg e2] at hw
          have e3 : sort = "take" := by
            by_cases e3 : sort = "take"
            · exact e3
            · rw [if_neg e3] at hw; cases hw
          rw [if_pos e3] at hw
          cases hw
          have fe : ns.foldl (stepW sort) n = n - ns.sum := by
            rw [← foldl_sub]
            congr 1
            funext a b
            unfold stepW
            rw [if_neg e2]
          rw [decide_eq_true (congrArg V.str e3)]
          refine iteT ⟨_, rfl, _, _, rfl, rfl, _, rfl, ?_⟩
          rw [fe]
          refine ite2 (fun h0 => ?_) (fun h0 => ?_)
          · have h1 : ¬ 0 ≤ n - ns.sum := by have := of_decide_eq_true h0; omega
            have kk := k _ s2
            rw [takeOf_neg h1] at kk
            exact kk
          · have h1 : 0 ≤ n - ns.sum := by
              have : ¬ n - ns.sum < 0 := fun z => h0 (decide_eq_true z)
              omega
            have kk := k _ s2
            rw [takeOf_pos h1] at kk
            exact ⟨_, rfl, kk⟩
theorem scDraw : FnScope ["_law_number", "_law_prime", "_law_many"] ["_law_number", "_law_prime", "_law_many"] (defScope sDraw) := ⟨rfl, rfl, rfl, by decide +kernel, rfl, by decide +kernel, by decide +kernel⟩
theorem own_draw (F : At K mg "_law_draw" sDraw f fd) : Own P w K mg base "_law_draw" 1 ["_law_number", "_law_prime", "_law_many"] spDraw := by
  refine F.own scDraw (fun _ _ _ _ _ _ us hl => match us, hl with | [_, _, _], _ => rfl) (fun vs H Q E h => ?_) (fun cdv A outer s H vs Q E hr h => ?_)
  · obtain ⟨n, p, m, rfl, _⟩ := h
    rfl
  · obtain ⟨n, p, m, rfl, hp, hm, k⟩ := h
    have sc := scDraw
    refine ⟨_, (pss_one (ps_ret (pe_op op_mod (pe_op op_mod (pe_op op_mul (pv 0) pe_int) (pv 1)) (pv 2)))), ?_⟩
    exact ⟨_, rfl, _, _, rfl, rfl, .inr ⟨by decide, by decide⟩, _, rfl, _, _, rfl, rfl, hp, _, rfl, _, _, rfl, rfl, hm, k⟩
end
end Lw
set_option Elab.async false
set_option linter.all false
set_option maxRecDepth 100000
set_option maxHeartbeats 4000000
namespace Lw
open PySem L2 PyProof.Rows
section
variable {P : Program} {w : World} {K : PySem.W.Frag} {mg : Str → Option Value} {base : Heap} {f : Addr} {fd : FuncData}
theorem low_of {d : Deed} (h : 0 ≤ d.t ∧ d.t ≤ 10) (hm : ∀ m ∈ d.ms, 0 ≤ m ∧ m ≤ 10 := by intro m hm; cases hm) : d.low := ⟨⟨by omega, by omega⟩, fun m q => by have := hm m q; omega⟩
theorem lo_snoc {ms : List Int} {n : Int} (h : ∀ c ∈ ms, 0 ≤ c ∧ c ≤ 10) (hn : 0 ≤ n ∧ n ≤ 10) : ∀ c ∈ ms ++ [n], 0 ≤ c ∧ c ≤ 10 := fun c hc => by
  rcases List.mem_append.mp hc with q | q
  · exact h c q
  · rw [List.mem_singleton.mp q]; exact hn
theorem mod10 (z : Int) : 0 ≤ z % 10 ∧ z % 10 ≤ 10 := by omega
theorem mod11 (z : Int) : 0 ≤ z % 11 ∧ z % 11 ≤ 10 := by omega
theorem scOneDeed : FnScope ["_law_way", "_law_rest", "_law_thing", "_law_makings", "_law_j"] ["_law_way", "_law_rest"] (defScope sOneDeed) := ⟨rfl, rfl, rfl, by decide +kernel, rfl, by decide +kernel, by decide +kernel⟩
theorem own_one (F : At K mg "_law_one_deed" sOneDeed f fd) (B : Blt mg) (D : Own P w K mg base "_law_draw" 1 ["_law_number", "_law_prime", "_law_many"] spDraw) : Own P w K mg base "_law_one_deed" 2 ["_law_way", "_law_rest"] spOneDeed := by
  refine F.own scOneDeed (fun _ _ _ _ _ _ us hl => match us, hl with | [_, _], _ => rfl) (fun vs H Q E h => ?_) (fun cdv A outer s H vs Q E hr h => ?_)
  · obtain ⟨a, b, rfl, _⟩ := h
    rfl
  · obtain ⟨way, rest, rfl, k⟩ := h
    have sc := scOneDeed
    have z3 : 3 ≤ sizeLine := by decide
    have z2 : 2 ≤ sizeLine := by decide
    refine ⟨_, (pss_cons (ps_if (pt_cmpR op_eq (pv 0) pe_int (nomark _)) (pss_one (ps_ret (pe_tup (pa_cons pe_str (pa_cons (pe_op op_mod (pv 1) pe_int) (pa_cons (pe_op op_mod (pe_op op_fdiv (pv 1) pe_int) pe_int) pa_nil)))))) pss_nil)
      (pss_cut (fun σ H1 => H1 = H ∧ σ = [some (.int way), some (.int rest), none, none, none]) (ps_if (PW.pt (pw_and (pt_cmpR op_eq (pv 0) pe_int (nomark _)) (pw_and1 (pt_cmpR op_eq (pe_op op_mod (pv 1) pe_int) pe_int (nomark _))))) (pss_one (ps_ret (pe_tup (pa_cons pe_str (pa_cons (pe_op op_mod (pe_op op_fdiv (pv 1) pe_int) pe_int) (pa_cons (pe_ix ix_list (pe_lst (pa_cons (pe_op op_pow pe_int pe_int) (pa_cons (pe_un un_neg (pe_op op_pow pe_int pe_int)) pa_nil))) (pe_own D hr rfl (pa_cons (pv 1) (pa_cons pe_int (pa_cons pe_int pa_nil)))) (fun _ _ => rfl)) pa_nil)))))) pss_nil)
      (pss_cons (ps_if (pt_cmpR op_eq (pv 0) pe_int (nomark _)) (pss_one (ps_ret (pe_tup (pa_cons pe_str (pa_cons (pe_op op_mod (pv 1) pe_int) (pa_cons (pe_op op_sub (pe_op op_mod (pe_op op_fdiv (pv 1) pe_int) pe_int) pe_int) pa_nil)))))) pss_nil)
      (pss_cons (ps_if (pt_cmpR op_lt (pv 0) pe_int (nomark _)) (pss_cons (ps_set (i := 2) sc.nd rfl (Or.inl rfl) (pe_op op_add pe_int (pe_op op_mod (pv 1) pe_int)))
      (pss_cut (fun σ H1 => H1 = H ∧ ∃ t : Int, (0 ≤ t ∧ t ≤ 9) ∧ σ = [some (.int way), some (.int rest), some (.int t), none, none]) (ps_if (pt_cmpR op_eq (pe_op op_mod (pv 1) pe_int) pe_int (nomark _)) (pss_one (ps_set (i := 2) sc.nd rfl (Or.inl rfl) (pe_op op_mod (pv 1) pe_int))) pss_nil)
      (pss_cons (ps_set (i := 3) sc.nd rfl (Or.inl rfl) (pe_lst pa_nil))
      (pss_cut (fun σ H1 => Same H H1 ∧ ∃ (t : Int) (m : Addr) (ms : List Int) (v : Option V), (0 ≤ t ∧ t ≤ 9) ∧ σ = [some (.int way), some (.int rest), some (.int t), some (.ref m), v] ∧ H1 m = some (.lst (ms.map V.int)) ∧ ms.length ≤ 9 ∧ H m = none ∧ ∀ c ∈ ms, 0 ≤ c ∧ c ≤ 10) (ps_for PassesOwn.never rfl (pi_range1 rfl B.range (pa_cons (pe_ix ix_list (pe_lst (pa_cons pe_int (pa_cons pe_int (pa_cons pe_int (pa_cons pe_int (pa_cons pe_int (pa_cons pe_int (pa_cons pe_int (pa_cons pe_int pa_nil))))))))) (pe_op op_mod (pe_op op_fdiv (pv 1) pe_int) pe_int) (fun _ _ => rfl)) pa_nil)) (pg_name (i := 4) sc.nd rfl (Or.inl rfl)) (pss_one (ps_expr (pe_bm PySem.F.plainAttrs_list PySem.F.slot_list_append PySem.F.type_list_append mt_append (pv 3) (pa_cons (pe_op op_mod (pe_op op_sub (pe_op op_sub (pv 2) pe_int) (pe_op op_mod (pe_op op_fdiv (pv 1) (pe_op op_add (pv 4) pe_int)) pe_int)) pe_int) pa_nil)))))
      (pss_cut (fun σ H1 => Same H H1 ∧ ∃ (t : Int) (m : Addr) (ms : List Int) (v : Option V), (0 ≤ t ∧ t ≤ 9) ∧ σ = [some (.int way), some (.int rest), some (.int t), some (.ref m), v] ∧ H1 m = some (.lst (ms.map V.int)) ∧ ms.length ≤ 10 ∧ ∀ c ∈ ms, 0 ≤ c ∧ c ≤ 10) (ps_if (pt_cmpR op_eq (pe_op op_mod (pv 1) pe_int) pe_int (nomark _)) (pss_one (ps_expr (pe_bm PySem.F.plainAttrs_list PySem.F.slot_list_append PySem.F.type_list_append mt_append (pv 3) (pa_cons (pe_op op_mod (pe_op op_add (pv 2) (pe_own D hr rfl (pa_cons (pv 1) (pa_cons pe_int (pa_cons pe_int pa_nil))))) pe_int) pa_nil)))) pss_nil)
      (pss_one (ps_ret (pe_tup (pa_cons pe_str (pa_cons (pv 2) (pa_cons (pe_ix ix_list (pe_lst (pa_cons pe_str (pa_cons pe_str (pa_cons pe_str (pa_cons pe_str (pa_cons pe_str pa_nil)))))) (pe_op op_mod (pe_op op_fdiv (pv 1) pe_int) pe_int) (fun _ _ => rfl)) (pa_cons (pv 3) pa_nil)))))))))))) pss_nil)
      (pss_cons (ps_if (pt_cmpR op_eq (pv 0) pe_int (nomark _)) (pss_one (ps_ret (pe_tup (pa_cons (pe_ix ix_list (pe_lst (pa_cons pe_str (pa_cons pe_str (pa_cons pe_str (pa_cons pe_str pa_nil))))) (pe_op op_mod (pv 1) pe_int) (fun _ _ => rfl)) (pa_cons (pe_op op_mod (pe_op op_fdiv (pv 1) pe_int) pe_int) pa_nil))))) pss_nil)
      (pss_cons (ps_if (pt_cmpR op_eq (pe_op op_mod (pv 1) pe_int) pe_int (nomark _)) (pss_one (ps_ret (pe_tup (pa_cons pe_str (pa_cons (pe_op op_sub pe_int (pe_op op_mod (pe_op op_fdiv (pv 1) pe_int) pe_int)) pa_nil))))) pss_nil)
      (pss_one (ps_ret (pe_tup (pa_cons pe_str (pa_cons (pe_op op_sub pe_int (pe_op op_mod (pv 1) pe_int)) pa_nil))))))))))), ?_⟩
    refine ⟨_, rfl, rfl, _, rfl, ?_⟩
    refine ite2 (fun _ => ?_) (fun _ => ?_)
    · refine ⟨_, rfl, _, _, rfl, rfl, (by show (0 : Int) < 4; decide), _, rfl, _, _, rfl, rfl, ⟨by decide, by decide⟩, _, _, rfl, rfl, (by show (0 : Int) < 7; decide), z3, fun p hp => ?_⟩
      exact k (.set (rest % 4) (rest / 4 % 7)) _ _ (Same.upd hp) ⟨p, 0, rfl, upd_same, trivial⟩ trivial (low_of (by show 0 ≤ rest % 4 ∧ rest % 4 ≤ 10; omega))
    refine ⟨?_, ?_⟩
    · refine ⟨_, rfl, rfl, _, rfl, ?_⟩
      refine ite2 (fun _ => ?_) (fun _ => iteF ⟨rfl, rfl⟩)
      refine ⟨_, rfl, _, _, rfl, rfl, (by show (0 : Int) < 9; decide), rfl, _, rfl, ?_⟩
      refine ite2 (fun _ => ?_) (fun _ => ⟨rfl, rfl⟩)
      obtain ⟨n, hn⟩ := two_at ((10 : Int) ^ (20 : Int).toNat) (-((10 : Int) ^ (20 : Int).toNat)) (rest * 48271 % 1009)
      refine ⟨_, rfl, _, _, rfl, rfl, ⟨by decide, by decide⟩, _, _, rfl, rfl, (by show (0 : Int) < 4; decide), _, _, rfl, rfl, ⟨by decide, by decide, by decide⟩, _, _, rfl, rfl, ⟨by decide, by decide, by decide⟩, _, rfl, z2, fun q hq => ?_⟩
      refine ⟨_, rfl, _, _, _, rfl, by decide, by decide, q, _, _, _, rfl, rfl, SqL.of upd_same, hn, z3, fun p hp => ?_⟩
      exact k (.set (rest / 9 % 4) n) _ _ ((Same.upd hq).step hp) ⟨p, 0, rfl, upd_same, trivial⟩ trivial (low_of (by show 0 ≤ rest / 9 % 4 ∧ rest / 9 % 4 ≤ 10; omega))
    rintro σ1 H1 ⟨rfl, rfl⟩
    refine ⟨_, rfl, rfl, _, rfl, ?_⟩
    refine ite2 (fun _ => ?_) (fun _ => ?_)
    · refine ⟨_, rfl, _, _, rfl, rfl, (by show (0 : Int) < 11; decide), _, rfl, _, _, rfl, rfl, ⟨by decide, by decide⟩, _, _, rfl, rfl, (by show (0 : Int) < 9; decide), _, _, rfl, rfl, z3, fun p hp => ?_⟩
      exact k (.set (rest % 11) (rest / 11 % 9 - 4)) _ _ (Same.upd hp) ⟨p, 0, rfl, upd_same, trivial⟩ trivial (low_of (by show 0 ≤ rest % 11 ∧ rest % 11 ≤ 10; omega))
    refine ⟨_, rfl, _, _, rfl, rfl, _, rfl, ?_⟩
    refine ite2 (fun _ => ?_) (fun _ => ?_)
    · refine ⟨_, rfl, _, _, rfl, rfl, (by show (0 : Int) < 6; decide), _, _, rfl, rfl, ?_⟩
      refine ⟨?_, ?_⟩
      · refine ⟨_, rfl, _, _, rfl, rfl, (by show (0 : Int) < 13; decide), rfl, _, rfl, ?_⟩
        refine ite2 (fun _ => ?_) (fun _ => ?_)
        · exact ⟨_, rfl, _, _, rfl, rfl, (by show (0 : Int) < 4; decide), rfl, rest % 4, by omega, rfl⟩
        · exact ⟨rfl, 4 + rest % 6, by omega, rfl⟩
      rintro σ1 H1 ⟨rfl, t, bt, rfl⟩
      refine ⟨by show 0 ≤ sizeLine; omega, fun m hm => ?_⟩
      refine ⟨?_, ?_⟩
      · obtain ⟨n, hn, n0, n9⟩ := many_at (rest / 6)
        refine ⟨by show 8 ≤ sizeLine; decide, fun q hq => ?_⟩
        refine ⟨_, rfl, _, _, rfl, rfl, ⟨by decide, by decide⟩, _, _, rfl, rfl, (by show (0 : Int) < 8; decide), q, _, _, _, rfl, rfl, SqL.of upd_same, hn, n, rfl, by omega, by omega, ?_⟩
        refine for_range (fun i σ H2 => Same H1 H2 ∧ i ≤ 9 ∧ ∃ (ms : List Int) (v : Option V), σ = [some (.int way), some (.int rest), some (.int t), some (.ref m), v] ∧ H2 m = some (.lst (ms.map V.int)) ∧ ms.length = i ∧ ∀ c ∈ ms, 0 ≤ c ∧ c ≤ 10) ⟨(Same.upd hm).step hq, by omega, [], none, rfl, Same.upd hq _ _ upd_same, rfl, by simp⟩ ?_ ?_
        · rintro i σ H2 hi ⟨sm, h9, ms, v, rfl, hms, hl, hlo⟩
          refine ⟨_, rfl, .inl ⟨rfl, _, SqL.of hms⟩, _, rfl, _, _, rfl, rfl, _, rfl, _, rfl, _, _, rfl, rfl, _, _, rfl, rfl, ⟨by omega, by omega⟩, _, _, rfl, rfl, (by show (0 : Int) < 4; decide), _, _, rfl, rfl, _, _, rfl, rfl, (by show (0 : Int) < 10; decide), m, _, _, rfl, rfl, hms, by have := line1000; simp only [List.length_map]; omega, ?_⟩
          refine ⟨fun b o e => ?_, by omega, ms ++ [_], _, rfl, by rw [ints_snoc]; exact upd_same, by simp [hl], lo_snoc hlo (mod10 _)⟩
          rw [upd_ne (ne_of_none e hm)]
          exact sm b o e
        · rintro σ H2 ⟨sm, _, ms, v, rfl, hms, hl, hlo⟩
          exact ⟨sm, t, m, ms, v, bt, rfl, hms, by omega, hm, hlo⟩
      rintro σ1 H2 ⟨sm, t, m, ms, v, bt, rfl, hms, hl, hm0, hlo⟩
      refine ⟨?_, ?_⟩
      · refine ⟨_, rfl, _, _, rfl, rfl, (by show (0 : Int) < 7; decide), rfl, _, rfl, ?_⟩
        refine ite2 (fun _ => ?_) (fun _ => ?_)
        · refine ⟨_, rfl, .inl ⟨rfl, _, SqL.of hms⟩, _, rfl, _, rfl, _, _, _, rfl, by decide, by decide, _, _, rfl, rfl, _, _, rfl, rfl, (by show (0 : Int) < 11; decide), m, _, _, rfl, rfl, hms, by have := line1000; simp only [List.length_map]; omega, ?_⟩
          refine ⟨fun b o e => ?_, t, m, ms ++ [_], _, bt, rfl, by rw [ints_snoc]; exact upd_same, by simp; omega, lo_snoc hlo (mod11 _)⟩
          rw [upd_ne (ne_of_none e hm0)]
          exact sm b o e
        · exact ⟨sm, t, m, ms, v, bt, rfl, hms, by omega, hlo⟩
      rintro σ1 H3 ⟨sm, t, m, ms, v, bt, rfl, hms, hl, hlo⟩
      obtain ⟨x, hx, hsh⟩ := sort5_at (rest / 3)
      refine ⟨_, rfl, by show 5 ≤ sizeLine; decide, fun q hq => ?_⟩
      refine ⟨_, rfl, _, _, rfl, rfl, ⟨by decide, by decide⟩, _, _, rfl, rfl, (by show (0 : Int) < 5; decide), q, _, _, _, rfl, rfl, SqL.of upd_same, hx, _, rfl, by show 4 ≤ sizeLine; decide, fun p hp => ?_⟩
      exact k (.rcp t x ms) _ _ ((sm.step hq).step hp) ⟨p, m, rfl, upd_same, Same.upd hp _ _ (Same.upd hq _ _ hms)⟩ ⟨hsh.1, hsh.2, by omega⟩ (low_of (by show 0 ≤ t ∧ t ≤ 10; omega) hlo)
    refine ⟨_, rfl, rfl, _, rfl, ?_⟩
    refine ite2 (fun _ => ?_) (fun _ => ?_)
    · obtain ⟨x, d, hx, hd, hok, hmk⟩ := word_at rest (rest / 4 % 10)
      refine ⟨by show 4 ≤ sizeLine; decide, fun q hq => ?_⟩
      refine ⟨_, rfl, _, _, rfl, rfl, (by show (0 : Int) < 4; decide), q, _, _, _, rfl, rfl, SqL.of upd_same, hx, _, rfl, _, _, rfl, rfl, ⟨by decide, by decide⟩, _, _, rfl, rfl, (by show (0 : Int) < 10; decide), z2, fun p hp => ?_⟩
      exact k d _ _ ((Same.upd hq).step hp) ⟨p, 0, rfl, by rw [hd]; exact upd_same, hmk _ _⟩ hok.1 (low_of (by rw [hok.2.1]; omega) (by rw [hok.2.2]; intro m q; cases q))
    refine ⟨_, rfl, _, _, rfl, rfl, (by show (0 : Int) < 4; decide), rfl, _, rfl, ?_⟩
    refine ite2 (fun _ => ?_) (fun _ => ?_)
    · refine ⟨_, rfl, _, _, rfl, rfl, ⟨by decide, by decide⟩, _, _, rfl, rfl, (by show (0 : Int) < 11; decide), _, _, rfl, rfl, z2, fun p hp => ?_⟩
      exact k (.make (10 - rest / 4 % 11)) _ _ (Same.upd hp) ⟨p, 0, rfl, upd_same, trivial⟩ trivial (low_of (by show 0 ≤ 10 - rest / 4 % 11 ∧ 10 - rest / 4 % 11 ≤ 10; omega))
    · refine ⟨_, rfl, _, _, rfl, rfl, (by show (0 : Int) < 6; decide), _, _, rfl, rfl, z2, fun p hp => ?_⟩
      exact k (.make (9 - rest % 6)) _ _ (Same.upd hp) ⟨p, 0, rfl, upd_same, trivial⟩ trivial (low_of (by show 0 ≤ 9 - rest % 6 ∧ 9 - rest % 6 ≤ 10; omega))
end
end Lw
set_option Elab.async false
set_option linter.all false
set_option maxRecDepth 100000
set_option maxHeartbeats 4000000
namespace Lw
open PySem L2 PyProof.Rows
section
variable {P : Program} {w : World} {K : PySem.W.Frag} {mg : Str → Option Value} {base : Heap} {f : Addr} {fd : FuncData}
theorem scCopy : FnScope ["_law_asked", "_law_copied", "_law_deed"] ["_law_asked"] (defScope sCopy) := ⟨rfl, rfl, rfl, by decide +kernel, rfl, by decide +kernel, by decide +kernel⟩
theorem own_copy (F : At K mg "_law_copy" sCopy f fd) (B : Blt mg) : Own P w K mg base "_law_copy" 1 ["_law_asked"] spCopy := by
  refine F.own scCopy (fun _ _ _ _ _ _ us hl => match us, hl with | [_], _ => rfl) (fun vs H Q E h => ?_) (fun cdv A outer s H vs Q E hr h => ?_)
  · obtain ⟨p, ds, rfl, _⟩ := h
    rfl
  · obtain ⟨p, ds, rfl, hD, hok, k⟩ := h
    have sc := scCopy
    have big := line1000
    obtain ⟨vs, hp, hvs⟩ := hD
    have hS : SqL K H p vs := SqL.of hp
    have hlen := hvs.len
    have hlen2 := hok.1
    refine ⟨_, (pss_cons (ps_set (i := 1) sc.nd rfl (Or.inl rfl) (pe_lst pa_nil))
      (pss_cons (ps_for PassesOwn.never rfl (pi_list (pv 0)) (pg_name (i := 2) sc.nd rfl (Or.inl rfl)) (pss_one (ps_if (pt_cmpR op_eq (pe_ix ix_tup (pv 2) pe_int (fun _ _ => rfl)) pe_str (nomark _)) (pss_one (ps_expr (pe_bm PySem.F.plainAttrs_list PySem.F.slot_list_append PySem.F.type_list_append mt_append (pv 1) (pa_cons (pe_tup (pa_cons (pe_ix ix_tup (pv 2) pe_int (fun _ _ => rfl)) (pa_cons (pe_ix ix_tup (pv 2) pe_int (fun _ _ => rfl)) (pa_cons (pe_ix ix_tup (pv 2) pe_int (fun _ _ => rfl)) (pa_cons (pe_callTy call_list_of rfl B.list boot_list (pa_cons (pe_ix ix_tup (pv 2) pe_int (fun _ _ => rfl)) pa_nil)) pa_nil))))) pa_nil)))) (pss_one (ps_expr (pe_bm PySem.F.plainAttrs_list PySem.F.slot_list_append PySem.F.type_list_append mt_append (pv 1) (pa_cons (pv 2) pa_nil)))))))
      (pss_one (ps_ret (pv 1))))), ?_⟩
    refine ⟨by show 0 ≤ sizeLine; omega, fun c hc => ?_⟩
    have s1 := Same.upd hc (o := .lst [])
    refine ⟨_, rfl, p, rfl, ⟨_, hS.same s1⟩, for_list (K := K) (a := p) (xs := vs) (fun i σ H2 => Same H H2 ∧ ∃ (us : List V) (v : Option V), σ = [some (.ref p), some (.ref c), v] ∧ H2 c = some (.lst us) ∧ Yd.All2 (DeedOff c H2) us (ds.take i)) ⟨s1, [], none, rfl, upd_same, .nil⟩ (fun i σ H2 _ ⟨z, _⟩ => hS.same z) ?_ ?_⟩
    · rintro i y σ H2 hi ⟨sm, us, v, rfl, hc2, hus⟩
      obtain ⟨d, hd, hat⟩ := all2_get hvs i y hi
      obtain ⟨a, l, rfl, ha, hm, hlc⟩ := hat.off hc
      have ha2 := sm _ _ ha
      have hm2 := mk_same hm sm
      have il : i < ds.length := (List.getElem?_eq_some_iff.mp hd).1
      have lus : us.length = i := by
        rw [hus.len, List.length_take]
        omega
      have tk : ds.take (i + 1) = ds.take i ++ [d] := by rw [List.take_add_one, hd]; rfl
      obtain ⟨x0, r0, e0, iff0⟩ := row0 d l
      have hT : SqT K H2 a (d.row l) := SqT.of ha2
      refine ⟨_, rfl, a, _, _, _, rfl, rfl, hT, by rw [e0]; exact atI0 _ _, rfl, _, rfl, ?_⟩
      refine ite2 (fun e => ?_) (fun e => ?_)
      · obtain ⟨t, x, ms, rfl⟩ := iff0.mp (V.str.inj (of_decide_eq_true e))
        have hm3 : H2 l = some (.lst (ms.map V.int)) := hm2
        refine ⟨_, rfl, .inl ⟨rfl, _, SqL.of hc2⟩, _, rfl, a, _, _, _, rfl, rfl, hT, atI0 _ _, _, rfl, a, _, _, _, rfl, rfl, hT, atI1 _ _ _, _, rfl, a, _, _, _, rfl, rfl, hT, atI2 _ _ _ _, _, rfl, a, _, _, _, rfl, rfl, hT, atI3 _ _ _ _ _, l, _, rfl, .inl (SqL.of hm3), fun q hq => ?_⟩
        refine ⟨by show 4 ≤ sizeLine; decide, fun b hb => ?_⟩
        have s3 := (Same.upd hq (o := .lst (ms.map V.int))).step hb (o := .tup [.str "recipe", .int t, .str x, .ref q])
        refine ⟨c, _, _, rfl, rfl, s3 _ _ hc2, by omega, ?_⟩
        obtain ⟨r1, r2, r3⟩ := snoc_off (x := .ref b) (d := .rcp t x ms) hc sm s3 hc2 hus ⟨b, q, rfl, upd_same, Same.upd hb _ _ upd_same, (ne_of_none hc2 hq).symm⟩
        exact ⟨r1, _, _, rfl, r2, by rw [tk]; exact r3⟩
      · refine ⟨_, rfl, .inl ⟨rfl, _, SqL.of hc2⟩, _, rfl, c, _, _, rfl, rfl, hc2, by omega, ?_⟩
        obtain ⟨r1, r2, r3⟩ := snoc_off (x := .ref a) (d := d) hc sm (Same.refl H2) hc2 hus ⟨a, l, rfl, ha2, hm2, hlc⟩
        exact ⟨r1, _, _, rfl, r2, by rw [tk]; exact r3⟩
    · rintro σ H2 ⟨sm, us, v, rfl, hc2, hus⟩
      rw [List.take_of_length_le (by omega)] at hus
      exact ⟨_, rfl, k c H2 sm ⟨us, hc2, hus.imp fun _ _ q => q.at_⟩⟩
end
end Lw
set_option Elab.async false
set_option linter.all false
set_option maxRecDepth 100000
set_option maxHeartbeats 4000000
namespace Lw
open PySem L2 PyProof.Rows Yd
section
variable {P : Program} {w : World} {K : PySem.W.Frag} {mg : Str → Option Value} {base : Heap} {f : Addr} {fd : FuncData}
theorem scRenamed : FnScope ["_law_deed", "_law_often", "_law_shift", "_law_row"] ["_law_deed", "_law_often", "_law_shift"] (defScope sRenamed) := ⟨rfl, rfl, rfl, by decide +kernel, rfl, by decide +kernel, by decide +kernel⟩
theorem own_renamed (F : At K mg "_law_renamed" sRenamed f fd) (B : Blt mg) : Own P w K mg base "_law_renamed" 1 ["_law_deed", "_law_often", "_law_shift"] spRenamed2 := by
  refine F.own scRenamed (fun _ _ _ _ _ _ us hl => match us, hl with | [_, _, _], _ => rfl) (fun vs H Q E h => ?_) (fun cdv A outer s H vs Q E hr h => ?_)
  · obtain ⟨v, d, o, s, rfl, _⟩ := h
    rfl
  · obtain ⟨v, d, o, sh, rfl, ⟨ho3, hsh⟩, ⟨a, l, rfl, ha, hm⟩, ⟨hok, hlow⟩, k⟩ := h
    have ho : -(2 ^ 64) < o ∧ o < 2 ^ 64 := by rcases ho3 with rfl | rfl <;> decide
    have sc := scRenamed
    have big := line1000
    refine ⟨_, (pss_cons (ps_set (i := 3) sc.nd rfl (Or.inl rfl) (pe_callTy call_list_of rfl B.list boot_list (pa_cons (pv 0) pa_nil)))
      (pss_cons (ps_asg (pe_op op_add (pe_op op_mul (pv 1) (pe_ix ix_list (pv 3) pe_int (fun _ _ => rfl))) (pv 2)) (pg_sub (pv 3) pe_int set_list))
      (pss_cons (ps_if (pt_cmpR op_eq (pe_ix ix_tup (pv 0) pe_int (fun _ _ => rfl)) pe_str (nomark _)) (pss_one (ps_asg (pe_comp (N := ["_law_one", "_law_shift", "_law_often"]) (places := [2, 1]) rfl (blk_of (by rfl) (by decide +kernel) rfl (by decide +kernel) rfl rfl (by decide +kernel) rfl (sub2 rfl rfl) (blkHas2 [(".0", .local), ("_law_one", .local), ("_law_often", .cell), ("_law_shift", .cell)] rfl (by decide +kernel)) (blkAt2 rfl rfl rfl rfl)) (pi_list (pe_ix ix_list (pv 3) pe_int (fun _ _ => rfl))) (fun _ _ _ _ _ => .none) (fun _ _ _ _ _ => (pe_op op_add (pe_op op_mul (pv 2) (pv 0)) (pv 1)))) (pg_sub (pv 3) pe_int set_list))) pss_nil)
      (pss_one (ps_ret (pe_callTy call_tuple_of rfl B.tuple boot_tuple (pa_cons (pv 3) pa_nil))))))), ?_⟩
    obtain ⟨x0, r0, e0, iff0⟩ := row0 d l
    refine ⟨_, rfl, a, _, rfl, .inr (SqT.of ha), fun r hr => ?_⟩
    rw [e0]
    refine ⟨_, rfl, _, rfl, r, _, _, _, rfl, rfl, SqL.of upd_same, atI1 _ _ _, _, _, rfl, rfl, .inl ho, _, rfl, _, _, rfl, rfl, _, rfl, r, _, _, 1, rfl, rfl, upd_same, ix_at1 (by simp), ?_⟩
    rw [upd_upd]
    have hT : SqT K (upd H r (.lst ((.str x0 :: .int d.t :: r0 : List V).set 1 (.int (o * d.t + sh))))) a (d.row l) := SqT.of (Same.upd hr _ _ ha)
    refine ⟨_, rfl, a, _, _, _, rfl, rfl, hT, by rw [e0]; exact atI0 _ _, rfl, _, rfl, ?_⟩
    refine ite2 (fun e => ?_) (fun e => ?_)
    · obtain ⟨t, x, ms, rfl⟩ := iff0.mp (V.str.inj (of_decide_eq_true e))
      cases e0
      have hm3 : H l = some (.lst (ms.map V.int)) := hm
      have s1 := Same.upd hr (o := .lst ([.str "recipe", .int (o * t + sh), .str x, .ref l] : List V))
      refine ⟨_, rfl, r, _, _, _, rfl, rfl, SqL.of upd_same, atI3 _ _ _ _ _, l, rfl, ⟨_, SqL.of (s1 _ _ hm3)⟩, fun q hq => ?_⟩
      have hml : ms.length ≤ 20 := hok.2.2
      refine cmp_map (K := K) (fun v => match v with | V.int c => V.int (o * c + sh) | v => v) (SqL.of (s1 _ _ hm3)) hq (by rw [List.length_map]; omega) (fun i y hy H1 Q' _ q' => ?_) ?_
      · obtain ⟨c, rfl, _⟩ := int_at hy
        exact ⟨_, rfl, _, rfl, _, _, rfl, rfl, .inl ho, _, rfl, _, _, rfl, rfl, q'⟩
      have er : (ms.map V.int).map (fun v => match v with | V.int c => V.int (o * c + sh) | v => v) = (ms.map fun c => o * c + sh).map V.int := by
        rw [List.map_map, List.map_map]
        rfl
      rw [er]
      have hrq : r ≠ q := fun z => by rw [← z, upd_same] at hq; cases hq
      refine ⟨_, rfl, r, _, _, 3, rfl, rfl, (by rw [upd_ne hrq]; exact upd_same), ix_at3 (by simp), ?_⟩
      refine ⟨_, rfl, r, _, rfl, .inl ⟨SqL.of upd_same, fun p hp => ?_⟩⟩
      have hq0 : H q = none := by rw [upd_ne hrq.symm] at hq; exact hq
      refine k (.rcp (o * t + sh) x (ms.map fun c => o * c + sh)) _ _ (Same.step (Same.put (Same.put (Same.upd hr) hq0) hr) hp) (fun c hc => ⟨p, q, rfl, upd_same, Same.upd hp _ _ ?_, fun z => hc (z ▸ hq0)⟩) ⟨⟨hok.1, hok.2.1, by rw [List.length_map]; exact hml⟩, lim_of ho3 hlow.1 hsh, fun c' hc' => by
        obtain ⟨m', hm', rfl⟩ := List.mem_map.mp hc'
        exact lim_of ho3 (hlow.2 m' hm') hsh⟩
      rw [upd_ne hrq.symm]
      exact upd_same
    · refine ⟨_, rfl, r, _, rfl, .inl ⟨SqL.of upd_same, fun p hp => ?_⟩⟩
      have hn : ∀ t x ms, d ≠ .rcp t x ms := fun t x ms z => e (decide_eq_true (congrArg V.str (iff0.mpr ⟨t, x, ms, z⟩)))
      refine k (d.re (o * d.t + sh)) _ _ (Same.step (Same.upd hr) hp) (fun c _ => DeedAt.offN ⟨p, l, rfl, ?_, ?_⟩ (re_not _ hn)) ⟨Deed.re_ok _ hok, by rw [Deed.re_t]; exact lim_of ho3 hlow.1 hsh, by rw [Deed.re_ms _ hn]; intro m q; cases q⟩
      · rw [Deed.re_row _ d l e0]
        exact upd_same
      · exact Deed.re_mk _ (mk_same hm (Same.step (Same.upd hr) hp))
end
end Lw
set_option Elab.async false
set_option linter.all false
set_option maxRecDepth 100000
set_option maxHeartbeats 4000000
namespace Lw
open PySem L2 PyProof.Rows Yd
section
variable {P : Program} {w : World} {K : PySem.W.Frag} {mg : Str → Option Value} {base : Heap} {f : Addr} {fd : FuncData}
theorem mk_low {a b : Int} (h1 : 0 ≤ a) (h2 : a ≤ 100) : -1000 ≤ a - 1 - b % 4 ∧ a - 1 - b % 4 ≤ 1000 := by omega
theorem scYardDeeds : FnScope ["_law_cells", "_law_first", "_law_asked", "_law_thing", "_law_makings", "_law_j", "_law_sort", "_law_k", "_law_rest", "_law_deed", "_law_shift", "_law_often"] ["_law_cells", "_law_first"] (defScope sYardDeeds) := ⟨rfl, rfl, rfl, by decide +kernel, rfl, by decide +kernel, by decide +kernel⟩
theorem often_at (z : Int) : ∃ n : Int, atI [V.int 1, V.int 3] (z % 2) = some (.int n) ∧ (n = 1 ∨ n = 3) := by
  have h0 : 0 ≤ z % 2 := Int.emod_nonneg _ (by decide)
  have h1 : z % 2 < 2 := Int.emod_lt_of_pos _ (by decide)
  generalize z % 2 = k at h0 h1
  have hk : k = 0 ∨ k = 1 := by omega
  rcases hk with rfl | rfl
  · exact ⟨1, rfl, by decide⟩
  · exact ⟨3, rfl, by decide⟩
theorem own_deeds (F : At K mg "_law_yard_deeds" sYardDeeds f fd) (B : Blt mg) (Do : Own P w K mg base "_law_one_deed" 2 ["_law_way", "_law_rest"] spOneDeed) (Dr : Own P w K mg base "_law_renamed" 1 ["_law_deed", "_law_often", "_law_shift"] spRenamed2) : Own P w K mg base "_law_yard_deeds" 3 ["_law_cells", "_law_first"] (spDeeds2 K) := by
  refine F.own scYardDeeds (fun _ _ _ _ _ _ us hl => match us, hl with | [_, _], _ => rfl) (fun vs H Q E h => ?_) (fun cdv A outer s H vs Q E hr h => ?_)
  · obtain ⟨p, ns, fi, rfl, _⟩ := h
    rfl
  · obtain ⟨p, ns, fi, rfl, hS, hlen, k⟩ := h
    have sc := scYardDeeds
    have hr1 : Room 1 _ := hr.mono (by decide)
    have big := line1000
    have z0 : 0 ≤ sizeLine := Nat.zero_le _
    have z2 : 2 ≤ sizeLine := by omega
    have z3 : 3 ≤ sizeLine := by omega
    have z4 : 4 ≤ sizeLine := by omega
    refine ⟨_, (pss_cons (ps_set (i := 2) sc.nd rfl (Or.inl rfl) (pe_lst pa_nil))
      (pss_cutE (ps_for PassesOwn.never rfl (pi_range1 rfl B.range (pa_cons pe_int pa_nil)) (pg_name (i := 3) sc.nd rfl (Or.inl rfl)) (pss_one (ps_expr (pe_bm PySem.F.plainAttrs_list PySem.F.slot_list_append PySem.F.type_list_append mt_append (pv 2) (pa_cons (pe_tup (pa_cons pe_str (pa_cons (pv 3) (pa_cons (pe_op op_mod (pe_op op_fdiv (pv 1) (pe_op op_add (pv 3) pe_int)) pe_int) pa_nil)))) pa_nil)))))
      (pss_cutE (ps_for PassesOwn.never rfl (pi_range2 rfl B.range (pa_cons pe_int (pa_cons pe_int pa_nil))) (pg_name (i := 3) sc.nd rfl (Or.inl rfl)) (pss_cons (ps_set (i := 4) sc.nd rfl (Or.inl rfl) (pe_lst pa_nil))
      (pss_cutE (ps_for PassesOwn.never rfl (pi_range1 rfl B.range (pa_cons (pe_op op_add pe_int (pe_op op_mod (pe_op op_fdiv (pv 1) (pv 3)) pe_int)) pa_nil)) (pg_name (i := 5) sc.nd rfl (Or.inl rfl)) (pss_one (ps_expr (pe_bm PySem.F.plainAttrs_list PySem.F.slot_list_append PySem.F.type_list_append mt_append (pv 4) (pa_cons (pe_op op_sub (pe_op op_sub (pv 3) pe_int) (pe_op op_mod (pe_op op_fdiv (pv 1) (pe_op op_add (pv 5) (pv 3))) pe_int)) pa_nil)))))
      (pss_cons (ps_set (i := 6) sc.nd rfl (Or.inl rfl) (pe_ix ix_list (pe_lst (pa_cons pe_str (pa_cons pe_str (pa_cons pe_str pa_nil)))) (pe_op op_mod (pe_op op_fdiv (pv 1) (pe_op op_add (pv 3) pe_int)) pe_int) (fun _ _ => rfl)))
      (pss_one (ps_expr (pe_bm PySem.F.plainAttrs_list PySem.F.slot_list_append PySem.F.type_list_append mt_append (pv 2) (pa_cons (pe_tup (pa_cons pe_str (pa_cons (pv 3) (pa_cons (pv 6) (pa_cons (pv 4) pa_nil))))) pa_nil))))))))
      (pss_cutE (ps_for PassesOwn.never rfl (pi_range1 rfl B.range (pa_cons (pe_callB call_len_seq rfl B.len boot_len (pa_cons (pv 0) pa_nil)) pa_nil)) (pg_name (i := 7) sc.nd rfl (Or.inl rfl)) (pss_cons (ps_set (i := 8) sc.nd rfl (Or.inl rfl) (pe_op op_add (pe_op op_fdiv (pe_ix ix_list (pv 0) (pv 7) (fun _ _ => rfl)) pe_int) (pv 7)))
      (pss_cons (ps_set (i := 9) sc.nd rfl (Or.inl rfl) (pe_own Do hr rfl (pa_cons (pe_op op_mod (pe_ix ix_list (pv 0) (pv 7) (fun _ _ => rfl)) pe_int) (pa_cons (pv 8) pa_nil))))
      (pss_cutE (ps_if (PW.pt (pw_and (pt_cmpR op_eq (pe_op op_mod (pe_ix ix_list (pv 0) (pv 7) (fun _ _ => rfl)) pe_int) pe_int (nomark _)) (pw_and1 (pt_cmpR op_eq (pe_op op_mod (pv 8) pe_int) pe_int (nomark _))))) (pss_one (ps_set (i := 9) sc.nd rfl (Or.inl rfl) (pe_ix ix_list (pv 2) (pe_op op_add pe_int (pe_op op_mod (pv 8) pe_int)) (fun _ _ => rfl)))) pss_nil)
      (pss_cutE (ps_if (PW.pt (pw_and (pt_cmpR op_eq (pe_op op_mod (pe_ix ix_list (pv 0) (pv 7) (fun _ _ => rfl)) pe_int) pe_int (nomark _)) (pw_and1 (pt_cmpR op_eq (pe_op op_mod (pv 8) pe_int) pe_int (nomark _))))) (pss_cons (ps_set (i := 9) sc.nd rfl (Or.inl rfl) (pe_ix ix_list (pv 2) (pe_op op_add pe_int (pe_op op_mod (pv 8) pe_int)) (fun _ _ => rfl)))
      (pss_one (ps_set (i := 9) sc.nd rfl (Or.inl rfl) (pe_tup (pa_cons pe_str (pa_cons (pe_ix ix_tup (pv 9) pe_int (fun _ _ => rfl)) (pa_cons (pe_ix ix_list (pe_lst (pa_cons pe_str (pa_cons pe_str pa_nil))) (pe_op op_mod (pv 8) pe_int) (fun _ _ => rfl)) (pa_cons (pe_callTy call_list_of rfl B.list boot_list (pa_cons (pe_ix ix_tup (pv 9) pe_int (fun _ _ => rfl)) pa_nil)) pa_nil)))))))) pss_nil)
      (pss_one (ps_expr (pe_bm PySem.F.plainAttrs_list PySem.F.slot_list_append PySem.F.type_list_append mt_append (pv 2) (pa_cons (pv 9) pa_nil)))))))))
      (pss_cons (ps_set (i := 10) sc.nd rfl (Or.inr rfl) (pe_op op_mod (pe_op op_fdiv (pv 1) pe_int) (pe_op op_pow pe_int pe_int)))
      (pss_cons (ps_set (i := 11) sc.nd rfl (Or.inr rfl) (pe_ix ix_list (pe_lst (pa_cons pe_int (pa_cons pe_int pa_nil))) (pe_op op_mod (pv 1) pe_int) (fun _ _ => rfl)))
      (pss_one (ps_ret (pe_comp (N := ["_law_deed", "_law_often", "_law_shift"]) (places := [11, 10]) rfl (blk_of (by rfl) (by decide +kernel) rfl (by decide +kernel) rfl rfl (by decide +kernel) rfl (sub2 rfl rfl) (blkHas2 [(".0", .local), ("_law_deed", .local), ("_law_renamed", .globalImplicit), ("_law_often", .cell), ("_law_shift", .cell)] rfl (by decide +kernel)) (blkAt2 rfl rfl rfl rfl)) (pi_list (pv 2)) (fun _ _ _ _ _ => .none) (fun _ _ _ _ _ => (pe_own Dr (Room.mono hr (by decide)) rfl (pa_cons (pv 0) (pa_cons (pv 1) (pa_cons (pv 2) pa_nil)))))))))))))), ?_⟩
    refine ⟨z0, fun c hc => ?_⟩
    have hS1 : SqL K (upd H c (.lst [])) p (ns.map V.int) := hS.same (Same.upd hc)
    refine ⟨fun σ H2 => Same H H2 ∧ ∃ (us : List V) (ds : List Deed) (v3 : Option V), σ = [some (.ref p), some (.int fi), some (.ref c), v3, none, none, none, none, none, none, none, none] ∧ H2 c = some (.lst us) ∧ All2 (DeedOff c H2) us ds ∧ YOk ds ∧ ds.length = 4, ?_, ?_⟩
    · refine ⟨_, rfl, by decide, by decide, ?_⟩
      refine for_range (fun i σ H2 => Same H H2 ∧ ∃ (us : List V) (ds : List Deed) (v3 : Option V), σ = [some (.ref p), some (.int fi), some (.ref c), v3, none, none, none, none, none, none, none, none] ∧ H2 c = some (.lst us) ∧ All2 (DeedOff c H2) us ds ∧ YOk ds ∧ ds.length = i)
        ⟨Same.upd hc, [], [], none, rfl, upd_same, .nil, ⟨by simp, by simp⟩, rfl⟩ ?_ ?_
      · rintro i σ H2 hi ⟨sm, us, ds, v3, rfl, hc2, hus, Y, hl⟩
        have hi4 : i < 4 := hi
        refine ⟨_, rfl, .inl ⟨rfl, _, SqL.of hc2⟩, _, rfl, _, rfl, _, rfl, _, _, rfl, rfl, _, _, rfl, rfl, ⟨by omega, by omega⟩, _, _, rfl, rfl, (by show (0 : Int) < 7; decide), z3, fun q hq => ?_⟩
        have t1 := Same.upd hq (o := .tup [.str "set", .int (0 + (i : Int)), .int (fi / (0 + (i : Int) + 1) % 7)])
        refine ⟨c, _, _, rfl, rfl, t1 _ _ hc2, by rw [hus.len]; omega, ?_⟩
        obtain ⟨r1, r2, r3⟩ := snoc_off (x := .ref q) (d := .set (0 + (i : Int)) (fi / (0 + (i : Int) + 1) % 7)) hc sm t1 hc2 hus ⟨q, c + 1, rfl, upd_same, trivial, Nat.succ_ne_self c⟩
        exact ⟨r1, _, _, _, rfl, r2, r3, Y.snoc ⟨trivial, (show -1000 ≤ 0 + (i : Int) ∧ 0 + (i : Int) ≤ 1000 by omega), fun m q => nomatch q⟩ (fun a _ => by omega), by simp [hl]⟩
      · rintro σ H2 ⟨sm, us, ds, v3, rfl, hc2, hus, Y, hl⟩
        exact ⟨sm, us, ds, v3, rfl, hc2, hus, Y, hl⟩
    rintro σ H2 ⟨sm, us, ds, v3, rfl, hc2, hus, Y, hl⟩
    refine ⟨fun σ H2 => Same H H2 ∧ ∃ (us : List V) (ds : List Deed) (v3 v4 v5 v6 : Option V), σ = [some (.ref p), some (.int fi), some (.ref c), v3, v4, v5, v6, none, none, none, none, none] ∧ H2 c = some (.lst us) ∧ All2 (DeedOff c H2) us ds ∧ YOk ds ∧ ds.length = 10, ?_, ?_⟩
    · refine ⟨_, _, rfl, ⟨by decide, by decide, by decide, by decide⟩, ?_⟩
      refine for_range (fun i σ H2 => Same H H2 ∧ ∃ (us : List V) (ds : List Deed) (v3 v4 v5 v6 : Option V), σ = [some (.ref p), some (.int fi), some (.ref c), v3, v4, v5, v6, none, none, none, none, none] ∧ H2 c = some (.lst us) ∧ All2 (DeedOff c H2) us ds ∧ YOk ds ∧ ds.length = i + 4)
        ⟨sm, us, ds, v3, none, none, none, rfl, hc2, hus, Y, by omega⟩ ?_ ?_
      · rintro i σ H2 hi ⟨sm, us, ds, v3, v4, v5, v6, rfl, hc2, hus, Y, hl⟩
        have hi6 : i < 6 := hi
        refine ⟨z0, fun m hm => ?_⟩
        have s1 := Same.upd hm (o := .lst [])
        refine ⟨fun σ H3 => Same H2 H3 ∧ ∃ (ms : List Int) (v5 : Option V), σ = [some (.ref p), some (.int fi), some (.ref c), some (.int (4 + (i : Int))), some (.ref m), v5, v6, none, none, none, none, none] ∧ H3 m = some (.lst (ms.map V.int)) ∧ ms.length ≤ 3 ∧ ∀ c ∈ ms, -1000 ≤ c ∧ c ≤ 1000, ?_, ?_⟩
        · have b1 : 0 ≤ fi / (4 + (i : Int)) % 3 := Int.emod_nonneg _ (by decide)
          have b2 : fi / (4 + (i : Int)) % 3 < 3 := Int.emod_lt_of_pos _ (by decide)
          refine ⟨_, rfl, _, rfl, _, _, rfl, rfl, ⟨by omega, by omega⟩, _, _, rfl, rfl, (by show (0 : Int) < 3; decide), _, _, rfl, rfl, _, rfl, by show -(2 ^ 62) ≤ 1 + fi / (4 + (i : Int)) % 3; omega, by show 1 + fi / (4 + (i : Int)) % 3 < 2 ^ 62; omega, ?_⟩
          refine for_range (n := (1 + fi / (4 + (i : Int)) % 3).toNat) (fun j σ H3 => Same H2 H3 ∧ ∃ (ms : List Int) (v5 : Option V), σ = [some (.ref p), some (.int fi), some (.ref c), some (.int (4 + (i : Int))), some (.ref m), v5, v6, none, none, none, none, none] ∧ H3 m = some (.lst (ms.map V.int)) ∧ ms.length = j ∧ ∀ c ∈ ms, -1000 ≤ c ∧ c ≤ 1000) ⟨s1, [], v5, rfl, upd_same, rfl, by simp⟩ ?_ ?_
          · rintro j σ H3 hj ⟨sm3, ms, v5, rfl, hm3, hlm, hlo⟩
            have hj3 : j < 3 := by omega
            refine ⟨_, rfl, .inl ⟨rfl, _, SqL.of hm3⟩, _, rfl, _, _, rfl, rfl, _, rfl, _, rfl, _, rfl, _, _, rfl, rfl, _, _, rfl, rfl, ⟨by omega, by omega⟩, _, _, rfl, rfl, (by show (0 : Int) < 4; decide), _, _, rfl, rfl, m, _, _, rfl, rfl, hm3, by rw [List.length_map]; omega, ?_⟩
            exact ⟨Same.put sm3 hm, ms ++ [_], _, rfl, by rw [ints_snoc]; exact upd_same, by simp [hlm], fun c hc => by
              rcases List.mem_append.mp hc with q | q
              · exact hlo c q
              · rw [List.mem_singleton.mp q]
                exact mk_low (by omega) (by omega)⟩
          · rintro σ H3 ⟨sm3, ms, v5, rfl, hm3, hlm, hlo⟩
            exact ⟨sm3, ms, v5, rfl, hm3, by omega, hlo⟩
        rintro σ H3 ⟨sm3, ms, v5, rfl, hm3, hlm, hlo⟩
        obtain ⟨x, hx, hsh⟩ := sort3_at (fi / (4 + (i : Int) + 2))
        refine ⟨z3, fun mn hmn => ?_⟩
        have s2 := Same.upd hmn (o := .lst [.str "sum", .str "take", .str "most"])
        refine ⟨_, rfl, _, rfl, _, _, rfl, rfl, _, _, rfl, rfl, ⟨by omega, by omega⟩, _, _, rfl, rfl, (by show (0 : Int) < 3; decide), mn, _, _, _, rfl, rfl, SqL.of upd_same, hx, ?_⟩
        have sm4 := sm3.trans s2
        have hc4 := sm4 _ _ hc2
        refine ⟨_, rfl, .inl ⟨rfl, _, SqL.of hc4⟩, _, rfl, _, rfl, _, rfl, z4, fun q hq => ?_⟩
        have s3 := Same.upd hq (o := .tup [.str "recipe", .int (4 + (i : Int)), .str x, .ref m])
        refine ⟨c, _, _, rfl, rfl, s3 _ _ hc4, by rw [hus.len]; omega, ?_⟩
        obtain ⟨r1, r2, r3⟩ := snoc_off (x := .ref q) (d := .rcp (4 + (i : Int)) x ms) hc sm (sm4.trans s3) hc2 hus ⟨q, m, rfl, upd_same, s3 _ _ (s2 _ _ hm3), (ne_of_none hc2 hm).symm⟩
        exact ⟨r1, _, _, _, _, _, _, rfl, r2, r3, Y.snoc ⟨⟨hsh.1, hsh.2, by omega⟩, (show -1000 ≤ 4 + (i : Int) ∧ 4 + (i : Int) ≤ 1000 by omega), hlo⟩ (fun _ _ => ⟨_, _, _, rfl⟩), by simp [hl]⟩
      · rintro σ H2 ⟨sm, us, ds, v3, v4, v5, v6, rfl, hc2, hus, Y, hl⟩
        exact ⟨sm, us, ds, v3, v4, v5, v6, rfl, hc2, hus, Y, hl⟩
    clear hus hc2 sm Y hl us ds
    rintro σ H2 ⟨sm, us, ds, v3, v4, v5, v6, rfl, hc2, hus, Y, hl⟩
    refine ⟨fun σ H2 => Same H H2 ∧ ∃ (us : List V) (ds : List Deed) (v7 v8 v9 : Option V), σ = [some (.ref p), some (.int fi), some (.ref c), v3, v4, v5, v6, v7, v8, v9, none, none] ∧ H2 c = some (.lst us) ∧ All2 (DeedOff c H2) us ds ∧ YOk ds ∧ ds.length = ns.length + 10, ?_, ?_⟩
    · refine ⟨_, rfl, p, _, rfl, .inl (hS.same sm), _, rfl, by omega, by rw [List.length_map]; omega, ?_⟩
      rw [show ((List.map V.int ns).length : Int).toNat = ns.length by simp]
      refine for_range (fun i σ H2 => Same H H2 ∧ ∃ (us : List V) (ds : List Deed) (v7 v8 v9 : Option V), σ = [some (.ref p), some (.int fi), some (.ref c), v3, v4, v5, v6, v7, v8, v9, none, none] ∧ H2 c = some (.lst us) ∧ All2 (DeedOff c H2) us ds ∧ YOk ds ∧ ds.length = i + 10)
        ⟨sm, us, ds, none, none, none, rfl, hc2, hus, Y, by omega⟩ ?_ ?_
      · rintro i σ H2 hi ⟨sm, us, ds, v7, v8, v9, rfl, hc2, hus, Y, hl⟩
        have hci : atI (ns.map V.int) (0 + (i : Int)) = some (.int ns[i]) := by
          rw [Int.zero_add]
          exact atI_nat (by rw [List.getElem?_map, List.getElem?_eq_getElem hi]; rfl)
        have hSi : SqL K H2 p (ns.map V.int) := hS.same sm
        refine ⟨_, rfl, _, rfl, p, _, _, _, rfl, rfl, hSi, hci, _, _, rfl, rfl, ⟨by decide, by decide⟩, _, rfl, _, _, rfl, rfl, ?_⟩
        refine ⟨_, rfl, _, rfl, p, _, _, _, rfl, rfl, hSi, hci, _, _, rfl, rfl, (by show (0 : Int) < 8; decide), _, rfl, _, _, rfl, fun d v H3 sm3 hat hok1 hok2 => ?_⟩
        have hok : d.ok0 ∧ d.low := ⟨hok1, hok2⟩
        have hc3 := sm3 _ _ hc2
        have hus3 := hus.imp fun _ _ q => q.same sm3
        have hne : us ≠ [] := fun z => by have := hus.len; rw [z] at this; simp at this; omega
        have hoff := hat.offL hc3 hne (offs_ref hus)
        have hSi3 := hS.same (sm.trans sm3)
        have b1 : 0 ≤ (ns[i] / 8 + (0 + (i : Int))) % 6 := Int.emod_nonneg _ (by decide)
        have b2 : (ns[i] / 8 + (0 + (i : Int))) % 6 < 6 := Int.emod_lt_of_pos _ (by decide)
        obtain ⟨j, hj⟩ : ∃ j : Nat, 4 + (ns[i] / 8 + (0 + (i : Int))) % 6 = (j : Int) := ⟨(4 + (ns[i] / 8 + (0 + (i : Int))) % 6).toNat, by omega⟩
        have hjl : j < ds.length := by omega
        obtain ⟨tj, xj, mj, hdj⟩ := Y.rcs j (by omega) (by omega) hjl
        obtain ⟨uj, huj, hoj⟩ := all2_get' hus3 j _ hdj
        have hatj : atI us (4 + (ns[i] / 8 + (0 + (i : Int))) % 6) = some uj := by rw [hj]; exact atI_nat huj
        have okj := Y.ok _ (List.mem_of_getElem? hdj)
        refine ⟨fun σ' H' => H' = H3 ∧ ∃ (v : V) (d : Deed), σ' = [some (.ref p), some (.int fi), some (.ref c), v3, v4, v5, v6, some (.int (0 + (i : Int))), some (.int (ns[i] / 8 + (0 + (i : Int)))), some v, none, none] ∧ DeedOff c H3 v d ∧ d.ok0 ∧ d.low, ?_, ?_⟩
        · refine ⟨_, rfl, _, rfl, p, _, _, _, rfl, rfl, hSi3, hci, _, _, rfl, rfl, (by show (0 : Int) < 8; decide), rfl, _, rfl, ?_⟩
          refine ite2 (fun _ => ?_) (fun _ => iteF ⟨rfl, v, d, rfl, hoff, hok⟩)
          refine ⟨_, rfl, _, _, rfl, rfl, (by show (0 : Int) < 5; decide), rfl, _, rfl, ?_⟩
          refine ite2 (fun _ => ?_) (fun _ => ⟨rfl, v, d, rfl, hoff, hok⟩)
          refine ⟨_, rfl, _, rfl, _, _, rfl, rfl, (by show (0 : Int) < 6; decide), _, _, rfl, rfl, c, _, _, _, rfl, rfl, SqL.of hc3, hatj, ?_⟩
          exact ⟨rfl, uj, _, rfl, hoj, okj⟩
        rintro σ' H' ⟨rfl, v, d, rfl, hoff, hok⟩
        refine ⟨fun σ' H4 => Same H' H4 ∧ ∃ (v : V) (d : Deed), σ' = [some (.ref p), some (.int fi), some (.ref c), v3, v4, v5, v6, some (.int (0 + (i : Int))), some (.int (ns[i] / 8 + (0 + (i : Int)))), some v, none, none] ∧ DeedOff c H4 v d ∧ d.ok0 ∧ d.low, ?_, ?_⟩
        · refine ⟨_, rfl, _, rfl, p, _, _, _, rfl, rfl, hSi3, hci, _, _, rfl, rfl, (by show (0 : Int) < 8; decide), rfl, _, rfl, ?_⟩
          refine ite2 (fun _ => ?_) (fun _ => iteF ⟨Same.refl _, v, d, rfl, hoff, hok⟩)
          refine ⟨_, rfl, _, _, rfl, rfl, (by show (0 : Int) < 5; decide), rfl, _, rfl, ?_⟩
          refine ite2 (fun _ => ?_) (fun _ => ⟨Same.refl _, v, d, rfl, hoff, hok⟩)
          refine ⟨_, rfl, _, rfl, _, _, rfl, rfl, (by show (0 : Int) < 6; decide), _, _, rfl, rfl, c, _, _, _, rfl, rfl, SqL.of hc3, hatj, ?_⟩
          obtain ⟨aj, lj, rfl, haj, hmj, hlj⟩ := hoj
          have hmj' : H' lj = some (.lst (mj.map V.int)) := hmj
          obtain ⟨x, hx, hsh⟩ := sort2_at (ns[i] / 8 + (0 + (i : Int)))
          refine ⟨_, rfl, aj, _, _, _, rfl, rfl, SqT.of haj, atI1 _ _ _, z2, fun mn hmn => ?_⟩
          have s2 := Same.upd hmn (o := .lst [.str "most", .str "sum"])
          refine ⟨_, rfl, _, _, rfl, rfl, (by show (0 : Int) < 2; decide), mn, _, _, _, rfl, rfl, SqL.of upd_same, hx, _, rfl, aj, _, _, _, rfl, rfl, SqT.of (s2 _ _ haj), atI3 _ _ _ _ _, lj, _, rfl, .inl (SqL.of (s2 _ _ hmj')), fun q hq => ?_⟩
          have s3 := Same.upd hq (o := .lst (mj.map V.int))
          refine ⟨z4, fun b hb => ?_⟩
          have s4 := Same.upd hb (o := .tup [.str "recipe", .int tj, .str x, .ref q])
          refine ⟨(s2.trans s3).trans s4, .ref b, .rcp tj x mj, rfl, ⟨b, q, rfl, upd_same, s4 _ _ upd_same, (ne_of_none (s2 _ _ hc3) hq).symm⟩, ⟨hsh.1, hsh.2, okj.1.2.2⟩, okj.2⟩
        rintro σ' H4 ⟨sm4, v, d, rfl, hoff, hok⟩
        refine ⟨_, rfl, .inl ⟨rfl, _, SqL.of (sm4 _ _ hc3)⟩, _, rfl, c, _, _, rfl, rfl, sm4 _ _ hc3, by rw [hus.len]; omega, ?_⟩
        obtain ⟨r1, r2, r3⟩ := snoc_off (x := v) (d := d) hc sm (sm3.trans sm4) hc2 hus hoff
        exact ⟨r1, _, _, _, _, _, rfl, r2, r3, Y.snoc hok (fun _ _ => by omega), by simp [hl]⟩
      · rintro σ H2 ⟨sm, us, ds, v7, v8, v9, rfl, hc2, hus, Y, hl⟩
        exact ⟨sm, us, ds, v7, v8, v9, rfl, hc2, hus, Y, by omega⟩
    clear hus hc2 sm Y hl us ds
    rintro σ H2 ⟨sm, us, ds, v7, v8, v9, rfl, hc2, hus, Y, hl⟩
    refine ⟨_, rfl, _, _, rfl, rfl, ⟨by decide, by decide⟩, _, _, rfl, rfl, ⟨by decide, by decide, by decide⟩, _, _, rfl, rfl, (by show (0 : Int) < (10 : Int) ^ (30 : Int).toNat; decide), ?_⟩
    obtain ⟨on, hon, ob1⟩ := often_at fi
    have ob : (on = 1 ∨ on = 3) ∧ 0 ≤ fi / 7 % (10 : Int) ^ (30 : Int).toNat ∧ fi / 7 % (10 : Int) ^ (30 : Int).toNat < 10 ^ 30 := ⟨ob1, Int.emod_nonneg _ (by decide), Int.emod_lt_of_pos _ (by decide)⟩
    refine ⟨z2, fun mn hmn => ?_⟩
    have s2 := Same.upd hmn (o := .lst [.int 1, .int 3])
    refine ⟨_, rfl, _, _, rfl, rfl, (by show (0 : Int) < 2; decide), mn, _, _, _, rfl, rfl, SqL.of upd_same, hon, ?_⟩
    have hc3 := s2 _ _ hc2
    have hus3 := hus.imp fun _ _ q => q.same s2
    have hul := hus.len
    refine ⟨_, rfl, c, rfl, ⟨_, SqL.of hc3⟩, fun D hD => ?_⟩
    refine cmp_list (K := K) (a := c) (xs := us) (fun i H1 ys => Same (upd H2 mn (.lst [.int 1, .int 3])) H1 ∧ H1 D = some (.lst ys) ∧ ∃ es, All2 (DeedOff D H1) ys es ∧ (∀ d ∈ es, d.ok) ∧ es.length = i ∧ ∀ c, H c ≠ none → All2 (DeedOff c H1) ys es) (by rw [hus.len]; omega)
      ⟨Same.upd hD, upd_same, [], .nil, by simp, rfl, fun _ _ => .nil⟩ (fun i H1 ys ⟨sm1, h1, es, h2, _, h3, _⟩ => ⟨SqL.of (sm1 _ _ hc3), h1, by rw [h2.len]; exact h3⟩) ?_ ?_ ?_
    · rintro i x H1 ys hx ⟨sm1, h1, es, h2, h4, h3, h5⟩
      obtain ⟨d, hd, hat⟩ := all2_get hus3 i x hx
      refine ⟨_, rfl, _, rfl, _, rfl, x, d, on, _, rfl, ob, hat.at_.same sm1, Y.ok _ (List.mem_of_getElem? hd), fun d' v' H' sm' hnew hok' => ?_⟩
      have h1' := sm' _ _ h1
      refine ⟨h1', Same.put (sm1.trans sm') hD, upd_same, es ++ [d'], ?_, ?_, by simp [h3], fun c' hc' => ?_⟩
      · exact all2_snoc (offs_upd (h2.imp fun _ _ q => q.same sm') h1') ((hnew D (by rw [h1]; exact Option.some_ne_none _)).upd h1')
      · intro e he
        rcases List.mem_append.mp he with q | q
        · exact h4 e q
        · rw [show e = d' by simpa using q]; exact hok'
      · have hc1 : H1 c' ≠ none := fun z => by
          cases q : H c' with
          | none => exact hc' q
          | some o => rw [sm1 _ _ (s2 _ _ (sm _ _ q))] at z; cases z
        have hD1 : H1 D ≠ none := by rw [h1]; exact Option.some_ne_none _
        exact all2_snoc (offs_updD ((h5 c' hc').imp fun _ _ q => q.same sm') (h2.imp fun _ _ q => q.same sm') h1') ((hnew c' hc1).updD (hnew D hD1) h1')
    · rintro σ H1 Q1 Q2 hQ ⟨v1, e1, v2, e2, v3, e3, x, d, o, sh, e4, e5, e6, e7, kk⟩
      exact ⟨v1, e1, v2, e2, v3, e3, x, d, o, sh, e4, e5, e6, e7, fun d' v' H' a b c => hQ _ _ (kk d' v' H' a b c)⟩
    · rintro H1 ys ⟨sm1, h1, es, h2, h4, h3, h5⟩
      exact k D es H1 ((sm.trans s2).trans sm1) ⟨ys, h1, h2.imp fun _ _ q => q.at_⟩ h4 (by omega) (fun c' hc' => ⟨ys, h1, h5 c' hc'⟩)
end
end Lw
set_option Elab.async false
set_option linter.all false
set_option maxRecDepth 100000
set_option maxHeartbeats 4000000
namespace Lw
open PySem L2 PyProof.Rows Yd
section
variable {P : Program} {w : World} {K : PySem.W.Frag} {mg : Str → Option Value} {base : Heap} {f : Addr} {fd : FuncData}
theorem isS_iff {α : Type} {o : Option α} : (o.isSome = true) ↔ ∃ x, o = some x := Option.isSome_iff_exists
end
end Lw
set_option Elab.async false
set_option linter.all false
set_option maxRecDepth 100000
set_option maxHeartbeats 4000000
namespace Lw
open PySem L2 PyProof.Rows Yd
section
variable {P : Program} {w : World} {K : PySem.W.Frag} {mg : Str → Option Value} {base : Heap} {f : Addr} {fd : FuncData}
theorem scKnowable : FnScope ["_law_sources", "_law_recipes", "_law_known", "_law_more", "_law_thing", "_law_sort", "_law_makings", "_law_lacking", "_law_number"] ["_law_sources", "_law_recipes"] (defScope sKnowable) := ⟨rfl, rfl, rfl, by decide +kernel, rfl, by decide +kernel, by decide +kernel⟩
def lackV (N : List (Int × Int)) : V → Bool
  | .int c => !(fnd N c).isSome
  | _ => false
def valN (N : List (Int × Int)) : V → V
  | .int c => .int ((fnd N c).getD 0)
  | v => v
theorem lack_map (N : List (Int × Int)) (ms : List Int) : (ms.map V.int).filter (lackV N) = (ms.filter fun c => !(fnd N c).isSome).map V.int := by
  rw [List.filter_map]
  rfl
theorem valN_map (N : List (Int × Int)) (ms : List Int) : (ms.map V.int).map (valN N) = (ms.map fun m => (fnd N m).getD 0).map V.int := by
  rw [List.map_map, List.map_map]
  rfl
theorem own_knowable (F : At K mg "_law_knowable" sKnowable f fd) (B : Blt mg) (Dw : Own P w K mg base "_law_work" 1 ["_law_sort", "_law_amounts"] (spWork K)) : Own P w K mg base "_law_knowable" 2 ["_law_sources", "_law_recipes"] spKnowable := by
  refine F.own scKnowable (fun _ _ _ _ _ _ us hl => match us, hl with | [_, _], _ => rfl) (fun vs H Q E h => ?_) (fun cdv A outer s H vs Q E hr h => ?_)
  · obtain ⟨a, b, S, R, g, rfl, _⟩ := h
    rfl
  · obtain ⟨a, b, S, R, g, rfl, ⟨kS, hkS, rS⟩, ⟨kR, hkR, rR⟩, eS, eR, eW, nd, lS, lR, hsort, k⟩ := h
    have sc := scKnowable
    have hu := units_of hr
    have hu1 := Nat.lt_of_le_of_lt (Nat.add_le_add_left (by decide : 1 ≤ 64) _) hu
    have big := lineM
    have z0 : 0 ≤ sizeLine := by omega
    refine ⟨_, (pss_cons (ps_set (i := 2) sc.nd rfl (Or.inr rfl) (pe_callTy call_dictD rfl B.dict boot_dict (pa_cons (pv 0) pa_nil)))
      (pss_cons (ps_set (i := 3) sc.nd rfl (Or.inl rfl) pe_bl)
      (pss_cons (ps_while PassesOwn.never (pt_val (pv 3)) (pss_cons (ps_set (i := 3) sc.nd rfl (Or.inl rfl) pe_bl)
      (pss_one (ps_for PassesOwn.never rfl (pi_list (pe_callTy (call_listD rfl) rfl B.list boot_list (pa_cons (pv 1) pa_nil))) (pg_name (i := 4) sc.nd rfl (Or.inl rfl)) (pss_cons (ps_asg (pe_dget hu1 (pv 1) (pv 4) (fun _ _ => rfl)) (pg_tup rfl (pgs_cons (pg_name (i := 5) sc.nd rfl (Or.inl rfl)) (pgs_cons (pg_name (i := 6) sc.nd rfl (Or.inl rfl)) pgs_nil))))
      (pss_cons (ps_comp (i := 7) (N := ["_law_one", "_law_known"]) (places := [2]) sc.nd rfl (Or.inl rfl) rfl (blk_of (by rfl) (by decide +kernel) rfl (by decide +kernel) rfl rfl (by decide +kernel) rfl (fun p hp => by rw [List.mem_singleton.mp hp]; rfl) (blkHas' [(".0", .local), ("_law_one", .local), ("_law_known", .cell)] rfl (by decide +kernel)) (blkAt rfl rfl)) (pi_list (pv 6)) (fun _ _ _ _ _ => .one (pt_cmp (pc_dnotin hu1 (pv 0) (pv 1)))) (fun _ _ _ _ _ => (pv 0)))
      (pss_one (ps_if (PW.pt (pw_and (pt_cmp (pc_dnotin hu1 (pv 4) (pv 2))) (pw_and1 (pt_cmpR (op_eqD hu) (pv 7) (pe_lst pa_nil) (nomark _))))) (pss_cons (ps_set (i := 8) sc.nd rfl (Or.inl rfl) (pe_own Dw hr rfl (pa_cons (pv 5) (pa_cons (pe_comp (N := ["_law_one", "_law_known"]) (places := [2]) rfl (blk_of (by rfl) (by decide +kernel) rfl (by decide +kernel) rfl rfl (by decide +kernel) rfl (fun p hp => by rw [List.mem_singleton.mp hp]; rfl) (blkHas' [(".0", .local), ("_law_one", .local), ("_law_known", .cell)] rfl (by decide +kernel)) (blkAt rfl rfl)) (pi_list (pv 6)) (fun _ _ _ _ _ => .none) (fun _ _ _ _ _ => (pe_dget hu1 (pv 1) (pv 0) (fun _ _ => rfl)))) pa_nil))))
      (pss_one (ps_if (pt_cmp (pc_notN (pv 8))) (pss_cons (ps_dput hu1 (pv 2) (pv 4) (pv 8) rfl)
      (pss_one (ps_set (i := 3) sc.nd rfl (Or.inl rfl) pe_bl))) pss_nil))) pss_nil))))))))
      (pss_one (ps_ret (pv 2)))))), ?_⟩
    refine ⟨_, rfl, a, kS, rfl, .inl hkS, fun q hq => ?_⟩
    have s0 := Same.upd hq (o := .dK kS)
    refine ⟨fun m σ H2 => ∃ (N : List (Int × Int)) (mo : Bool) (v4 v5 v6 v7 v8 : Option V), σ = [some (.ref a), some (.ref b), some (.ref q), some (.bl mo), v4, v5, v6, v7, v8] ∧ Same H H2 ∧ NumAt H2 q N ∧ KI S R g N ∧ m = cnt R N + (if mo = true then 1 else 0) ∧ (mo = false → ∀ t ∈ keysA R, Chk R g N t),
      ⟨_, S, true, none, none, none, none, none, rfl, s0, ⟨kS, upd_same, rS⟩, KI.start eS, rfl, fun z => nomatch z⟩, ?_⟩
    rintro m σ H2 ⟨N, mo, v4, v5, v6, v7, v8, rfl, sm, hN, I, rfl, hcl⟩
    refine ⟨_, rfl, mo, rfl, ?_⟩
    cases mo with
    | false =>
      refine iteF ?_
      exact ⟨_, rfl, k q N H2 hq sm hN (I.done eS eR (hcl rfl))⟩
    | true =>
    refine iteT ⟨_, fun _ _ h => h, ?_⟩
    refine ⟨_, rfl, b, kR, rfl, .inl (sm _ _ hkR), fun kl hkl => ⟨kl, rfl, ⟨_, SqL.of upd_same⟩, ?_⟩⟩
    rw [rR.keys]
    have s1 := Same.upd hkl (o := .lst ((keysA R).map V.int))
    refine for_list (K := K) (a := kl) (xs := (keysA R).map V.int) (fun i σ H3 => ∃ (N' : List (Int × Int)) (mo : Bool) (v4 v5 v6 v7 v8 : Option V), σ = [some (.ref a), some (.ref b), some (.ref q), some (.bl mo), v4, v5, v6, v7, v8] ∧ Same H H3 ∧ H3 kl = some (.lst ((keysA R).map V.int)) ∧ NumAt H3 q N' ∧ KI S R g N' ∧ (mo = true → cnt R N' < cnt R N) ∧ (mo = false → N' = N ∧ ∀ j t, j < i → (keysA R)[j]? = some t → Chk R g N t))
      ⟨N, false, v4, v5, v6, v7, v8, rfl, sm.trans s1, upd_same, hN.same s1, I, (fun z => nomatch z), fun _ => ⟨rfl, fun j t h => by omega⟩⟩ (fun i σ H3 _ ⟨_, _, _, _, _, _, _, _, _, z, _⟩ => SqL.of z) ?_ ?_
    · rintro i y σ H3 hi ⟨N', mo, w4, w5, w6, w7, w8, rfl, sm3, hk3, ⟨kN, hq3, rN⟩, I3, hmt, hmf⟩
      obtain ⟨t, rfl, hti⟩ := int_at hi
      have tR : t ∈ keysA R := List.mem_of_getElem? hti
      rcases rR.val t with ⟨f1, f2⟩ | ⟨x, rv, f1, f2, a2, l, rfl, ha, hl⟩
      · obtain ⟨z, hz⟩ := (mem_keys R t).mp tR
        rw [hz] at f1; cases f1
      have dg : DGet H3 b (.int t) (some (.ref a2)) := by rw [← f2]; exact DGet.k (k := .inl t) (sm3 _ _ hkR)
      refine ⟨_, rfl, _, rfl, b, _, rfl, dg, a2, _, rfl, SqT.of (sm3 _ _ ha), rfl, _, _, rfl, _, _, rfl, rfl, ?_⟩
      obtain ⟨hgood, hml⟩ := hsort t x f1
      have hl3 := sm3 _ _ hl
      refine ⟨_, rfl, l, rfl, ⟨_, SqL.of hl3⟩, fun D hD => ?_⟩
      refine cmp_filter (K := K) (lackV N') (SqL.of hl3) hD (by rw [List.length_map]; omega) (fun j v hv H4 Q' s4 q' => ?_) (fun j v hv H4 Q' s4 q' => ?_) ?_
      · obtain ⟨c, rfl, _⟩ := int_at hv
        refine ⟨_, rfl, _, rfl, q, _, rfl, DGet.k (k := .inl c) (s4 _ _ hq3), _, rfl, ?_⟩
        rw [rN.has c]
        exact q'
      · exact ⟨_, rfl, q'⟩
      rw [lack_map]
      have s4 := Same.upd hD (o := .lst ((x.2.filter fun c => !(fnd N' c).isSome).map V.int))
      have sm4 := sm3.trans s4
      have fin : ∀ (H5 : Hp) (w7 w8 : Option V), Same H3 H5 → Chk R g N' t → ∃ (N'' : List (Int × Int)) (mo' : Bool) (v4 v5 v6 v7 v8 : Option V), [some (.ref a), some (.ref b), some (.ref q), some (.bl mo), some (.int t), some (.str x.1), some (.ref l), w7, w8] = [some (.ref a), some (.ref b), some (.ref q), some (.bl mo'), v4, v5, v6, v7, v8] ∧ Same H H5 ∧ H5 kl = some (.lst ((keysA R).map V.int)) ∧ NumAt H5 q N'' ∧ KI S R g N'' ∧ (mo' = true → cnt R N'' < cnt R N) ∧ (mo' = false → N'' = N ∧ ∀ j t, j < i + 1 → (keysA R)[j]? = some t → Chk R g N t) := fun H5 w7 w8 s5 hc =>
        ⟨N', mo, _, _, _, _, _, rfl, sm3.trans s5, s5 _ _ hk3, ⟨kN, s5 _ _ hq3, rN⟩, I3, hmt, fun e => ⟨(hmf e).1, fun j t' hj ht' => by
          by_cases hji : j < i
          · exact (hmf e).2 j t' hji ht'
          · have : j = i := by omega
            subst this
            rw [hti] at ht'
            cases ht'
            rw [← (hmf e).1]
            exact hc⟩⟩
      refine ⟨_, rfl, _, rfl, q, _, rfl, DGet.k (k := .inl t) (s4 _ _ hq3), _, rfl, ?_⟩
      rw [rN.has t]
      cases hft : fnd N' t with
      | some v =>
        refine iteF (iteF ?_)
        exact fin _ _ _ s4 fun x' _ e => by rw [hft] at e; cases e
      | none =>
      refine iteT ⟨_, rfl, z0, fun e1 he1 => ?_⟩
      have s5 := Same.upd he1 (o := .lst [])
      have sm5 := s4.trans s5
      refine ⟨.list ((x.2.filter fun c => !(fnd N' c).isSome).map .int), .list [], .lst (SqL.of (s5 _ _ upd_same)) (DReps.ints _), .lst (SqL.of upd_same) .nil, shaped_ints _, shaped_nil, _, rfl, ?_⟩
      rw [if_neg (by decide : ¬ (false = true)), eqv_nil]
      by_cases hlk : (x.2.filter fun c => !(fnd N' c).isSome) = []
      · have hem : (x.2.filter fun c => !(fnd N' c).isSome).isEmpty = true := by rw [hlk]; rfl
        rw [hem]
        refine iteT ?_
        have hall : ∀ m ∈ x.2, (fnd N' m).isSome = true := fun m hm => by
          have := List.filter_eq_nil_iff.mp hlk m hm
          cases q : (fnd N' m).isSome with
          | true => rfl
          | false => rw [q] at this; exact absurd rfl this
        have hA := all_of hall
        have hl5 := sm5 _ _ hl3
        refine ⟨_, rfl, _, rfl, l, rfl, ⟨_, SqL.of hl5⟩, fun D2 hD2 => ?_⟩
        refine cmp_map (K := K) (valN N') (SqL.of hl5) hD2 (by rw [List.length_map]; omega) (fun j v hv H6 Q' s6 q' => ?_) ?_
        · obtain ⟨c, rfl, hc⟩ := int_at hv
          obtain ⟨n, hn⟩ := Option.isSome_iff_exists.mp (hall c (List.mem_of_getElem? hc))
          rcases rN.val c with ⟨g1, g2⟩ | ⟨n', v', g1, g2, g3⟩
          · rw [hn] at g1; cases g1
          · refine ⟨_, rfl, _, rfl, q, v', rfl, by rw [← g2]; exact DGet.k (k := .inl c) (s6 _ _ (sm5 _ _ hq3)), ?_⟩
            have : valN N' (.int c) = v' := by
              show V.int ((fnd N' c).getD 0) = v'
              rw [g1, g3]
              rfl
            rw [this] at q'
            exact q'
        rw [valN_map]
        have s6 := Same.upd hD2 (o := .lst ((x.2.map fun m => (fnd N' m).getD 0).map V.int))
        refine ⟨D2, x.2.map fun m => (fnd N' m).getD 0, x.1, wk x.1 (x.2.map fun m => (fnd N' m).getD 0), rfl, SqL.of upd_same, work_good _ hgood, fun H7 s7 => ?_⟩
        have sm7 := (sm5.trans s6).trans s7
        refine ⟨_, rfl, _, rfl, ?_⟩
        cases hw : wk x.1 (x.2.map fun m => (fnd N' m).getD 0) with
        | none =>
          refine iteF ?_
          refine fin _ _ _ sm7 fun x' e1 e2 ns hns => ?_
          rw [f1] at e1
          cases e1
          have : ns = x.2.map fun m => (fnd N' m).getD 0 := All2.det (fun _ _ _ p q => by rw [p] at q; exact Option.some.inj q) hns hA
          rw [this, eW]
          exact hw
        | some v =>
          refine iteT ?_
          have hq7 := sm7 _ _ hq3
          have hlenN := I3.len
          have hrl := rN.len
          refine ⟨_, rfl, _, rfl, _, rfl, q, _, rfl, .inl ⟨kN, .inl t, hq7, rfl, by omega, rfl⟩, ?_⟩
          have I8 := I3.put eS eR f1 hft hA (by rw [eW]; exact hw)
          refine ⟨setA N' t v, true, _, _, _, _, _, rfl, Same.put (sm3.trans sm7) hq, ?_, ⟨_, upd_same, rN.put t rfl⟩, I8, fun _ => ?_, fun z => nomatch z⟩
          · rw [upd_ne (ne_of (sm7 _ _ hk3) hq7 (by intro z; cases z))]
            exact sm7 _ _ hk3
          · have h1 := cnt_lt (R := R) (v := v) tR hft
            cases mo with
            | true => have := hmt rfl; omega
            | false => rw [(hmf rfl).1] at h1 ⊢; exact h1
      · have : (x.2.filter fun c => !(fnd N' c).isSome).isEmpty = false := by simpa using hlk
        rw [this]
        refine iteF ?_
        refine fin _ _ _ sm5 fun x' e1 e2 ns hns => ?_
        rw [f1] at e1
        cases e1
        exfalso
        refine hlk (List.filter_eq_nil_iff.mpr fun m hm => ?_)
        obtain ⟨n, hn⟩ := hns.mem m hm
        rw [hn]
        exact Bool.false_ne_true
    · rintro σ H3 ⟨N', mo, w4, w5, w6, w7, w8, rfl, sm3, hk3, hN3, I3, hmt, hmf⟩
      refine ⟨_, ?_, N', mo, w4, w5, w6, w7, w8, rfl, sm3, hN3, I3, rfl, fun e t ht => ?_⟩
      · cases mo with
        | true => have := hmt rfl; simp; omega
        | false => rw [(hmf rfl).1]; simp
      · obtain ⟨j, hj⟩ := List.getElem?_of_mem ht
        have hjl : j < ((keysA R).map V.int).length := by rw [List.length_map]; exact (List.getElem?_eq_some_iff.mp hj).1
        rw [(hmf e).1]
        exact (hmf e).2 j t hjl hj
end
end Lw
set_option Elab.async false
set_option linter.all false
set_option maxRecDepth 100000
set_option maxHeartbeats 4000000
namespace Lw
open PySem L2 PyProof.Rows Yd
section
variable {P : Program} {w : World} {K : PySem.W.Frag} {mg : Str → Option Value} {base : Heap} {f : Addr} {fd : FuncData}
theorem scIsAnswer : FnScope ["_law_found"] ["_law_found"] (defScope sIsAnswer) := ⟨rfl, rfl, rfl, by decide +kernel, rfl, by decide +kernel, by decide +kernel⟩
theorem own_isAnswer (F : At K mg "_law_is_answer" sIsAnswer f fd) (B : Blt mg) (Dw : Own P w K mg base "_law_whole" 1 ["_law_found"] spWhole) (Dr : Own P w K mg base "_law_whole_row" 2 ["_law_found"] spRow) : Own P w K mg base "_law_is_answer" 3 ["_law_found"] spIsAns := by
  refine F.own scIsAnswer (fun _ _ _ _ _ _ us hl => match us, hl with | [_], _ => rfl) (fun vs H Q E h => ?_) (fun cdv A outer s H vs Q E hr h => ?_)
  · obtain ⟨v, x, rfl, _⟩ := h
    rfl
  · obtain ⟨v, x, rfl, hx, hnw, k⟩ := h
    have sc := scIsAnswer
    have hr1 : Room 1 _ := hr.mono (by decide)
    refine ⟨_, (pss_cons (ps_if (PW.pt (pw_or (pt_not (pt_val (pe_callB (call_isiK (K := K) rfl) rfl B.isi boot_isinstance (pa_cons (pv 0) (pa_cons (pe_bltn (v := .ty "tuple") rfl B.tuple boot_tuple rfl) pa_nil))))) (pw_or (pt_cmpR op_lt (pe_callB call_len_seq rfl B.len boot_len (pa_cons (pv 0) pa_nil)) pe_int (nomark _)) (pw_or1 (pt_not (pt_val (pe_callB (call_isiK (K := K) rfl) rfl B.isi boot_isinstance (pa_cons (pe_ix ix_tup (pv 0) pe_int (fun _ _ => rfl)) (pa_cons (pe_bltn (v := .ty "str") rfl B.str boot_str rfl) pa_nil))))))))) (pss_one (ps_ret pe_bl)) pss_nil)
      (pss_cons (ps_if (pt_cmpR op_eq (pe_ix ix_tup (pv 0) pe_int (fun _ _ => rfl)) pe_str (nomark _)) (pss_one (ps_ret (pe_and (pe_cmpR op_eq (pe_callB call_len_seq rfl B.len boot_len (pa_cons (pv 0) pa_nil)) pe_int (nomark _)) (pe_and (pe_own Dw hr1 rfl (pa_cons (pe_ix ix_tup (pv 0) pe_int (fun _ _ => rfl)) pa_nil)) (pe_one (pe_own Dr hr rfl (pa_cons (pe_ix ix_tup (pv 0) pe_int (fun _ _ => rfl)) pa_nil))))))) pss_nil)
      (pss_cons (ps_if (PW.pt (pw_or (pt_cmpR op_ne (pe_ix ix_tup (pv 0) pe_int (fun _ _ => rfl)) pe_str (nomark _)) (pw_or (pt_cmpR op_ne (pe_callB call_len_seq rfl B.len boot_len (pa_cons (pv 0) pa_nil)) pe_int (nomark _)) (pw_or1 (pt_not (pt_val (pe_callB (call_isiK (K := K) rfl) rfl B.isi boot_isinstance (pa_cons (pe_ix ix_tup (pv 0) pe_int (fun _ _ => rfl)) (pa_cons (pe_bltn (v := .ty "str") rfl B.str boot_str rfl) pa_nil))))))))) (pss_one (ps_ret pe_bl)) pss_nil)
      (pss_one (ps_ret (pe_and (pe_own Dr hr rfl (pa_cons (pe_ix ix_tup (pv 0) pe_int (fun _ _ => rfl)) pa_nil)) (pe_one (pe_own Dr hr rfl (pa_cons (pe_ix ix_tup (pv 0) pe_int (fun _ _ => rfl)) pa_nil))))))))), ?_⟩
    cases x with
    | word s => exact absurd rfl (hnw s)
    | made n told =>
      obtain ⟨a, l, rfl, ha, hl⟩ := hx
      have hT : SqT K H a [.str "made", .int n, .ref l] := SqT.of ha
      refine ⟨_, rfl, _, _, _, _, _, rfl, rfl, .inl (.tup ha), kit_tt K, _, rfl, iteF ?_⟩
      refine ⟨_, rfl, a, _, rfl, .inr hT, _, _, rfl, rfl, _, rfl, ?_⟩
      refine ite2 (fun e => absurd e (by show ¬ decide ((3 : Int) < 3) = true; decide)) (fun _ => ?_)
      refine ⟨_, rfl, a, _, _, _, rfl, rfl, hT, atI0 _ _, _, _, _, _, _, rfl, rfl, .inl (.str _), kit_ss K, _, rfl, iteF ?_⟩
      refine ⟨_, rfl, a, _, _, _, rfl, rfl, hT, atI0 _ _, rfl, _, rfl, ?_⟩
      refine ite2 (fun _ => ?_) (fun e => absurd (by decide +kernel) e)
      refine ⟨_, rfl, a, _, rfl, .inr hT, rfl, _, rfl, ?_⟩
      refine ite2 (fun _ => ?_) (fun e => absurd (by show decide (V.int 3 = V.int 3) = true; decide +kernel) e)
      refine ⟨_, rfl, a, _, _, _, rfl, rfl, hT, atI1 _ _ _, n, rfl, _, rfl, iteT ?_⟩
      exact ⟨_, rfl, a, _, _, _, rfl, rfl, hT, atI2 _ _ _ _, l, told, rfl, hl, k⟩
    | fails wd tr told =>
      obtain ⟨a, l, m, rfl, ha, hl, hm⟩ := hx
      have hT : SqT K H a [.str "fails", .str wd, .ref l, .ref m] := SqT.of ha
      refine ⟨_, rfl, _, _, _, _, _, rfl, rfl, .inl (.tup ha), kit_tt K, _, rfl, iteF ?_⟩
      refine ⟨_, rfl, a, _, rfl, .inr hT, _, _, rfl, rfl, _, rfl, ?_⟩
      refine ite2 (fun e => absurd e (by show ¬ decide ((4 : Int) < 3) = true; decide)) (fun _ => ?_)
      refine ⟨_, rfl, a, _, _, _, rfl, rfl, hT, atI0 _ _, _, _, _, _, _, rfl, rfl, .inl (.str _), kit_ss K, _, rfl, iteF ?_⟩
      refine ⟨_, rfl, a, _, _, _, rfl, rfl, hT, atI0 _ _, rfl, _, rfl, ?_⟩
      refine ite2 (fun e => absurd e (by decide +kernel)) (fun _ => ?_)
      refine ⟨_, rfl, a, _, _, _, rfl, rfl, hT, atI0 _ _, rfl, _, rfl, ?_⟩
      refine ite2 (fun e => absurd e (by decide +kernel)) (fun _ => ?_)
      refine ⟨_, rfl, a, _, rfl, .inr hT, rfl, _, rfl, ?_⟩
      refine ite2 (fun e => absurd e (by show ¬ (!decide (V.int 4 = V.int 4)) = true; decide +kernel)) (fun _ => ?_)
      refine ⟨_, rfl, a, _, _, _, rfl, rfl, hT, atI1 _ _ _, _, _, _, _, _, rfl, rfl, .inl (.str _), kit_ss K, _, rfl, iteF ?_⟩
      refine ⟨_, rfl, a, _, _, _, rfl, rfl, hT, atI2 _ _ _ _, l, tr, rfl, hl, _, rfl, iteT ?_⟩
      exact ⟨_, rfl, a, _, _, _, rfl, rfl, hT, atI3 _ _ _ _ _, m, told, rfl, hm, k⟩
end
end Lw
set_option Elab.async false
set_option linter.all false
set_option maxRecDepth 100000
set_option maxHeartbeats 4000000
namespace Lw
open PySem L2 PyProof.Rows Yd
section
variable {P : Program} {w : World} {K : PySem.W.Frag} {mg : Str → Option Value} {base : Heap} {f : Addr} {fd : FuncData}
theorem scToldRight : FnScope ["_law_told", "_law_shelf", "_law_known", "_law_recipes", "_law_thing", "_law_sort", "_law_makings", "_law_making", "_law_numbers"] ["_law_told", "_law_shelf", "_law_known", "_law_recipes"] (defScope sToldRight) := ⟨rfl, rfl, rfl, by decide +kernel, rfl, by decide +kernel, by decide +kernel⟩
theorem own_told (F : At K mg "_law_told_right" sToldRight f fd) (B : Blt mg) : Own P w K mg base "_law_told_right" 1 ["_law_told", "_law_shelf", "_law_known", "_law_recipes"] spTold := by
  refine F.own scToldRight (fun _ _ _ _ _ _ us hl => match us, hl with | [_, _, _, _], _ => rfl) (fun vs H Q E h => ?_) (fun cdv A outer s H vs Q E hr h => ?_)
  · obtain ⟨tl, c, kq, b, told, Z, N, R, rfl, _⟩ := h
    rfl
  · obtain ⟨tl, c, kq, b, told, Z, N, R, rfl, htl, hZ, hN, hR, nkc, nbc, T, hlen, hto, k⟩ := h
    have sc := scToldRight
    have hu := units_of hr
    have hu1 := Nat.lt_of_le_of_lt (Nat.add_le_add_left (by decide : 1 ≤ 64) _) hu
    have big := lineM
    have z3 : 3 ≤ sizeLine := by omega
    refine ⟨_, (pss_cons (ps_for PassesOwn.never rfl (pi_list (pv 0)) (pg_name (i := 4) sc.nd rfl (Or.inl rfl)) (pss_cons (ps_if (pt_cmp (pc_dnotin hu1 (pv 4) (pv 3))) (pss_one (ps_ret pe_bl)) pss_nil)
      (pss_cons (ps_asg (pe_dget hu1 (pv 3) (pv 4) (fun _ _ => rfl)) (pg_tup rfl (pgs_cons (pg_name (i := 5) sc.nd rfl (Or.inl rfl)) (pgs_cons (pg_name (i := 6) sc.nd rfl (Or.inl rfl)) pgs_nil))))
      (pss_cons (ps_for PassesOwn.never rfl (pi_list (pv 6)) (pg_name (i := 7) sc.nd rfl (Or.inl rfl)) (pss_one (ps_if (pt_cmp (pc_dnotin hu1 (pv 7) (pv 2))) (pss_one (ps_ret pe_bl)) pss_nil)))
      (pss_cons (ps_comp (i := 8) (N := ["_law_making", "_law_known"]) (places := [2]) sc.nd rfl (Or.inl rfl) rfl (blk_of (by rfl) (by decide +kernel) rfl (by decide +kernel) rfl rfl (by decide +kernel) rfl (fun p hp => by rw [List.mem_singleton.mp hp]; rfl) (blkHas' [(".0", .local), ("_law_making", .local), ("_law_known", .cell)] rfl (by decide +kernel)) (blkAt rfl rfl)) (pi_list (pv 6)) (fun _ _ _ _ _ => .none) (fun _ _ _ _ _ => (pe_dget hu1 (pv 1) (pv 0) (fun _ _ => rfl))))
      (pss_cons (ps_if (PW.pt (pw_and (pt_cmp (pc_din hu1 (pv 4) (pv 1))) (pw_and1 (pt_cmpR (op_eqD hu) (pe_dget hu1 (pv 1) (pv 4) (fun _ _ => rfl)) (pe_tup (pa_cons (pv 5) (pa_cons (pv 6) (pa_cons (pv 8) pa_nil)))) (nomark _))))) (pss_one (ps_ret pe_bl)) pss_nil)
      (pss_one (ps_dput hu1 (pv 1) (pv 4) (pe_tup (pa_cons (pv 5) (pa_cons (pv 6) (pa_cons (pv 8) pa_nil)))) rfl))))))))
      (pss_one (ps_ret pe_bl))), ?_⟩
    obtain ⟨kN, hkN, rN⟩ := hN
    obtain ⟨kR, hkR, rR⟩ := hR
    have hZ0 := hZ
    obtain ⟨kZ0, hkZ0, _⟩ := hZ0
    have ntc : tl ≠ c := ne_of htl hkZ0 (by intro z; cases z)
    refine ⟨_, rfl, tl, rfl, ⟨_, SqL.of htl⟩, for_list (K := K) (a := tl) (xs := told.map V.int) (fun i σ H2 => ∃ (Z' : List (Int × Ent Str)) (v4 v5 v6 v7 v8 : Option V), σ = [some (.ref tl), some (.ref c), some (.ref kq), some (.ref b), v4, v5, v6, v7, v8] ∧ Sb c H H2 ∧ ShfAt H2 c Z' ∧ (∀ t, fnd Z' t = tellF (fnd R) (fnd N) (fnd Z) (told.take i) t) ∧ TOk R Z' ∧ Z'.length ≤ Z.length + i)
      ⟨Z, none, none, none, none, none, rfl, Sb.of (Same.refl _), hZ, fun _ => rfl, T, by omega⟩ (fun i σ H2 _ ⟨_, _, _, _, _, _, _, sb, _⟩ => SqL.of (sb _ _ ntc htl)) ?_ ?_⟩
    · rintro i y σ H2 hi ⟨Z', v4, v5, v6, v7, v8, rfl, sb, ⟨kZ, hkZ, rZ⟩, fZ, T', lZ⟩
      obtain ⟨t, rfl, hti⟩ := int_at hi
      have il : i < told.length := (List.getElem?_eq_some_iff.mp hti).1
      have split : told = told.take i ++ t :: told.drop (i + 1) := by
        have e1 : told.drop i = t :: told.drop (i + 1) := by
          rw [List.drop_eq_getElem_cons il]
          congr 1
          rw [List.getElem?_eq_getElem il] at hti
          exact Option.some.inj hti
        rw [← e1, List.take_append_drop]
      have hto' := hto
      rw [split] at hto'
      obtain ⟨⟨x, hx1, hx2, hx3⟩, _⟩ := hto'.right
      obtain ⟨hg, hl20⟩ := T.srt t x hx1
      have kp := sb.kp hkZ0
      have hkR2 := sb _ _ nbc hkR
      have hkN2 := sb _ _ nkc hkN
      rcases rR.val t with ⟨f1, f2⟩ | ⟨x', rv, f1, f2, a2, l, rfl, ha, hl⟩
      · rw [hx1] at f1; cases f1
      have ex : x' = x := by rw [hx1] at f1; exact (Option.some.inj f1).symm
      subst ex
      have ha2 := kp.tup ha
      have hl2 := kp.lst hl
      have dg : DGet H2 b (.int t) (some (.ref a2)) := by rw [← f2]; exact DGet.k (k := .inl t) hkR2
      refine ⟨_, rfl, _, rfl, b, _, rfl, dg, _, rfl, iteF ?_⟩
      refine ⟨_, rfl, _, rfl, b, _, rfl, dg, a2, _, rfl, SqT.of ha2, rfl, _, _, rfl, _, _, rfl, rfl, ?_⟩
      refine ⟨_, rfl, l, rfl, ⟨_, SqL.of hl2⟩, for_list (K := K) (a := l) (xs := x'.2.map V.int) (fun j σ H3 => H3 = H2 ∧ ∃ v7, σ = [some (.ref tl), some (.ref c), some (.ref kq), some (.ref b), some (.int t), some (.str x'.1), some (.ref l), v7, v8]) ⟨rfl, v7, rfl⟩ (fun j σ H3 _ ⟨z, _⟩ => z ▸ SqL.of hl2) ?_ ?_⟩
      · rintro j y σ H3 hj ⟨rfl, v7, rfl⟩
        obtain ⟨m, rfl, hm⟩ := int_at hj
        refine ⟨_, rfl, _, rfl, kq, _, rfl, DGet.k (k := .inl m) hkN2, _, rfl, ?_⟩
        rw [rN.has m, hx2 m (List.mem_of_getElem? hm)]
        exact iteF ⟨rfl, _, rfl⟩
      rintro σ H3 ⟨rfl, v7, rfl⟩
      refine ⟨_, rfl, l, rfl, ⟨_, SqL.of hl2⟩, fun D hD => ?_⟩
      refine cmp_map (K := K) (valN N) (SqL.of hl2) hD (by rw [List.length_map]; omega) (fun j v hv H4 Q' s4 q' => ?_) ?_
      · obtain ⟨m, rfl, hm⟩ := int_at hv
        obtain ⟨n, hn⟩ := Option.isSome_iff_exists.mp (hx2 m (List.mem_of_getElem? hm))
        rcases rN.val m with ⟨g1, g2⟩ | ⟨n', v', g1, g2, g3⟩
        · rw [hn] at g1; cases g1
        · refine ⟨_, rfl, _, rfl, kq, v', rfl, by rw [← g2]; exact DGet.k (k := .inl m) (s4 _ _ hkN2), ?_⟩
          have : valN N (.int m) = v' := by
            show V.int ((fnd N m).getD 0) = v'
            rw [g1, g3]
            rfl
          rw [this] at q'
          exact q'
      rw [valN_map]
      have s4 := Same.upd hD (o := .lst ((x'.2.map fun m => (fnd N m).getD 0).map V.int))
      have eE : entF (fnd R) (fnd N) t = some (x'.1, x'.2, x'.2.map fun m => (fnd N m).getD 0) := by unfold entF; rw [hx1]
      have rest : ∀ (H5 : Hp), Same (upd H3 D (.lst ((x'.2.map fun m => (fnd N m).getD 0).map V.int))) H5 → ∀ tp, H5 tp = none →
          ∃ a' H6, V.ref c = .ref a' ∧ DPut (upd H5 tp (.tup [.str x'.1, .ref l, .ref D])) a' (.int t) (.ref tp) H6 ∧ ∃ (Z' : List (Int × Ent Str)) (w4 w5 w6 w7 w8 : Option V), [some (.ref tl), some (.ref c), some (.ref kq), some (.ref b), some (.int t), some (.str x'.1), some (.ref l), v7, some (.ref D)] = [some (.ref tl), some (.ref c), some (.ref kq), some (.ref b), w4, w5, w6, w7, w8] ∧ Sb c H H6 ∧ ShfAt H6 c Z' ∧ (∀ u, fnd Z' u = tellF (fnd R) (fnd N) (fnd Z) (told.take (i + 1)) u) ∧ TOk R Z' ∧ Z'.length ≤ Z.length + (i + 1) := by
        intro H5 s5 tp htp
        have s6 := Same.upd htp (o := .tup [.str x'.1, .ref l, .ref D])
        have s7 := (s4.trans s5).trans s6
        have hkZ7 := s7 _ _ hkZ
        have zl := rZ.len
        refine ⟨c, _, rfl, .inl ⟨kZ, .inl t, hkZ7, rfl, by omega, rfl⟩, setA Z' t (x'.1, x'.2, x'.2.map fun m => (fnd N m).getD 0), _, _, _, _, _, rfl, (sb.trans (Sb.of s7)).trans Sb.upd, ?_, ?_, T'.put t hg, ?_⟩
        · have kp8 := Kp.dict hkZ7 (k' := putK kZ (.inl t) (.ref tp))
          refine ⟨_, upd_same, (rZ.imp fun _ _ q => (EntAt.kp q (Kp.of s7)).kp kp8).put t (EntAt.kp ⟨tp, l, D, rfl, upd_same, s7 _ _ hl2, ?_⟩ kp8)⟩
          exact s6 _ _ (s5 _ _ upd_same)
        · intro u
          have tk : told.take (i + 1) = told.take i ++ [t] := by rw [List.take_add_one, hti]; rfl
          rw [tk, tellF_app]
          show _ = upF _ t (entF (fnd R) (fnd N) t) u
          rw [fnd_set, eE]
          unfold upF
          rw [fZ]
        · have := len_set Z' t ((x'.1, x'.2, x'.2.map fun m => (fnd N m).getD 0) : Ent Str)
          omega
      refine ⟨_, rfl, _, rfl, c, _, rfl, DGet.k (k := .inl t) (s4 _ _ hkZ), _, rfl, ?_⟩
      rcases rZ.val t with ⟨g1, g2⟩ | ⟨e, ev, g1, g2, g3⟩
      · rw [g2]
        refine iteF (iteF ?_)
        refine ⟨_, rfl, _, rfl, _, rfl, z3, fun tp htp => ⟨_, rfl, _, rfl, rest _ (Same.refl _) tp htp⟩⟩
      · rw [g2]
        refine iteT ⟨_, rfl, _, rfl, c, _, rfl, by rw [← g2]; exact DGet.k (k := .inl t) (s4 _ _ hkZ), _, rfl, _, rfl, _, rfl, z3, fun tp htp => ?_⟩
        have s5 := Same.upd htp (o := .tup [.str x'.1, .ref l, .ref D])
        have hE : EntAt (upd (upd H3 D (.lst ((x'.2.map fun m => (fnd N m).getD 0).map V.int))) tp (.tup [.str x'.1, .ref l, .ref D])) (.ref tp) (x'.1, x'.2, x'.2.map fun m => (fnd N m).getD 0) := ⟨tp, l, D, rfl, upd_same, s5 _ _ (s4 _ _ hl2), s5 _ _ upd_same⟩
        refine ⟨entD e, entD (x'.1, x'.2, x'.2.map fun m => (fnd N m).getD 0), (EntAt.kp g3 (Kp.of (s4.trans s5))).data, hE.data, shaped_ent (T'.ent t e g1), shaped_ent hg, _, rfl, ?_⟩
        have hne : ¬ e = (x'.1, x'.2, x'.2.map fun m => (fnd N m).getD 0) := fun z => hx3 (by rw [← fZ t, g1, eE, z])
        rw [if_neg (by decide : ¬ (false = true)), eqv_ent, decide_eq_false hne]
        refine iteF ?_
        exact ⟨_, rfl, _, rfl, _, rfl, z3, fun tp2 htp2 => ⟨_, rfl, _, rfl, rest _ s5 tp2 htp2⟩⟩
    · rintro σ H2 ⟨Z', v4, v5, v6, v7, v8, rfl, sb, hZ', fZ, T', lZ⟩
      rw [List.length_map] at lZ
      rw [List.take_of_length_le (by simp)] at fZ
      exact k Z' H2 sb hZ' fZ T' lZ
end
end Lw
set_option Elab.async false
set_option linter.all false
set_option maxRecDepth 100000
namespace L2
open PySem PySem.Spec PyProof.Rows
section
variable {X : Cx}
end
end L2
set_option Elab.async false
set_option linter.all false
set_option maxRecDepth 100000
namespace Lw
open PySem L2 PyProof.Rows Yd
theorem flat_ints : ∀ ns : List Int, (ns.map V.int).all flatV = true
  | [] => rfl
  | n :: ns => by simp [flatV]
end Lw
set_option Elab.async false
set_option linter.all false
set_option maxRecDepth 100000
namespace Lw
open PySem L2 PyProof.Rows Yd
def dbl1 : Deed → List Deed
  | .make t => [.make t, .make t]
  | d => [d]
def dbl : List Deed → List Deed
  | [] => []
  | d :: r => dbl1 d ++ dbl r
theorem dbl1_not {d : Deed} (h : ∀ t, d ≠ .make t) : dbl1 d = [d] := by
  cases d with
  | make t => exact absurd rfl (h t)
  | _ => rfl
def Turn2 (D : List Deed) (i : Nat) (fi : Bool) : Prop := (fi = true ∧ ∃ r, D.drop i = dbl r) ∨ (fi = false ∧ ∃ t r, D.drop i = .make t :: dbl r ∧ 1 ≤ i ∧ D[i - 1]? = some (.make t))
theorem drop_of {D : List Deed} {i : Nat} {d : Deed} (h : D[i]? = some d) : D.drop i = d :: D.drop (i + 1) := by
  obtain ⟨il, e⟩ := List.getElem?_eq_some_iff.mp h
  rw [List.drop_eq_getElem_cons il, e]
theorem Turn2.not {D : List Deed} {i : Nat} {fi : Bool} {d : Deed} (h : Turn2 D i fi) (hd : D[i]? = some d) (nm : ∀ t, d ≠ .make t) : Turn2 D (i + 1) fi := by
  have e := drop_of hd
  rcases h with ⟨rfl, r, hr⟩ | ⟨rfl, t, r, hr, _⟩
  · rw [e] at hr
    cases r with
    | nil => cases hr
    | cons x r =>
      left
      rcases isMake x with ⟨t, rfl⟩ | nx
      · have : d :: D.drop (i + 1) = .make t :: .make t :: dbl r := hr
        injection this with h1 h2
        exact absurd h1 (nm t)
      · have : d :: D.drop (i + 1) = x :: dbl r := by rw [hr]; show dbl1 x ++ dbl r = _; rw [dbl1_not nx]; rfl
        injection this with h1 h2
        exact ⟨rfl, r, h2⟩
  · rw [e] at hr
    injection hr with h1 h2
    exact absurd h1 (nm t)
theorem Turn2.one {D : List Deed} {i : Nat} {t : Int} (h : Turn2 D i true) (hd : D[i]? = some (.make t)) : Turn2 D (i + 1) false := by
  have e := drop_of hd
  rcases h with ⟨_, r, hr⟩ | ⟨z, _⟩
  · rw [e] at hr
    cases r with
    | nil => cases hr
    | cons x r =>
      right
      rcases isMake x with ⟨u, rfl⟩ | nx
      · have : .make t :: D.drop (i + 1) = Deed.make u :: .make u :: dbl r := hr
        injection this with h1 h2
        cases h1
        exact ⟨rfl, t, r, h2, by omega, by simpa using hd⟩
      · have : .make t :: D.drop (i + 1) = x :: dbl r := by rw [hr]; show dbl1 x ++ dbl r = _; rw [dbl1_not nx]; rfl
        injection this with h1 h2
        exact absurd h1.symm (nx t)
  · cases z
theorem Turn2.two {D : List Deed} {i : Nat} {t : Int} (h : Turn2 D i false) (hd : D[i]? = some (.make t)) : Turn2 D (i + 1) true ∧ 1 ≤ i ∧ D[i - 1]? = some (.make t) := by
  have e := drop_of hd
  rcases h with ⟨z, _⟩ | ⟨_, u, r, hr, h1, h2⟩
  · cases z
  · rw [e] at hr
    injection hr with h3 h4
    cases h3
    exact ⟨.inl ⟨rfl, r, h4⟩, h1, h2⟩
end Lw
set_option linter.all false
namespace Yd
variable {σ : Type} {g : Pg σ}
def dd1 (a : List Int) (m : Int) : List Int := if m ∈ a then a else a ++ [m]
def dd (ms : List Int) : List Int := ms.foldl dd1 []
theorem dd_snoc (ms : List Int) (m : Int) : dd (ms ++ [m]) = dd1 (dd ms) m := by simp [dd]
theorem dd_find (p : Int → Bool) : ∀ (ms acc : List Int), (ms.foldl dd1 acc).find? p = (acc ++ ms).find? p
  | [], acc => by simp
  | m :: r, acc => by
    rw [List.foldl_cons, dd_find p r]
    unfold dd1
    by_cases h : m ∈ acc
    · rw [if_pos h, List.find?_append, List.find?_append]
      cases e : acc.find? p with
      | some x => rfl
      | none =>
        have : p m = false := by
          have := List.find?_eq_none.mp e m h
          simpa using this
        simp [this]
    · rw [if_neg h, List.append_assoc]
      rfl
theorem dd_find' (p : Int → Bool) (ms : List Int) : (dd ms).find? p = ms.find? p := by
  have := dd_find p ms []
  rw [List.nil_append] at this
  exact this
theorem mem_ddF (x : Int) : ∀ (ms acc : List Int), x ∈ ms.foldl dd1 acc ↔ x ∈ acc ∨ x ∈ ms
  | [], acc => by simp
  | m :: r, acc => by
    rw [List.foldl_cons, mem_ddF x r]
    unfold dd1
    by_cases h : m ∈ acc
    · rw [if_pos h]
      constructor
      · rintro (q | q)
        · exact .inl q
        · exact .inr (List.mem_cons_of_mem _ q)
      · rintro (q | q)
        · exact .inl q
        · rcases List.mem_cons.mp q with rfl | q
          · exact .inl h
          · exact .inr q
    · rw [if_neg h]
      constructor
      · rintro (q | q)
        · rcases List.mem_append.mp q with q | q
          · exact .inl q
          · rw [List.mem_singleton.mp q]; exact .inr (List.mem_cons_self ..)
        · exact .inr (List.mem_cons_of_mem _ q)
      · rintro (q | q)
        · exact .inl (List.mem_append_left _ q)
        · rcases List.mem_cons.mp q with rfl | q
          · exact .inl (List.mem_append_right _ (by simp))
          · exact .inr q
theorem mem_dd {x : Int} {ms : List Int} : x ∈ dd ms ↔ x ∈ ms := by
  have := mem_ddF x ms []
  simpa [dd] using this
theorem dd_len : ∀ (ms acc : List Int), (ms.foldl dd1 acc).length ≤ acc.length + ms.length
  | [], acc => by simp
  | m :: r, acc => by
    rw [List.foldl_cons]
    have := dd_len r (dd1 acc m)
    have h2 : (dd1 acc m).length ≤ acc.length + 1 := by
      unfold dd1
      by_cases h : m ∈ acc
      · rw [if_pos h]; omega
      · rw [if_neg h]; simp
    simp only [List.length_cons]
    omega
theorem dd_len' (ms : List Int) : (dd ms).length ≤ ms.length := by
  have := dd_len ms []
  simpa [dd] using this
theorem dd_nums {ms : List Int} {f h : Int → Int} : (dd ms).map f = (dd ms).map h ↔ ms.map f = ms.map h := by
  rw [List.map_inj_left, List.map_inj_left]
  constructor
  · intro q x hx; exact q x (mem_dd.mpr hx)
  · intro q x hx; exact q x (mem_dd.mp hx)
def hasB (g : Pg σ) (acc : Acc σ) (m : Int) : Bool := (g.S m).isSome || (lookV acc m).isSome
theorem hasB_iff {acc : Acc σ} {m : Int} : hasB g acc m = true ↔ ∃ n, Has g acc m n := by
  unfold hasB Has
  constructor
  · intro h
    rcases Bool.or_eq_true_iff.mp h with q | q
    · obtain ⟨n, q⟩ := Option.isSome_iff_exists.mp q; exact ⟨n, .inl q⟩
    · obtain ⟨n, q⟩ := Option.isSome_iff_exists.mp q; exact ⟨n, .inr q⟩
  · rintro ⟨n, q | q⟩
    · rw [q]; rfl
    · rw [q]; simp
def unk (g : Pg σ) (acc : Acc σ) (m : Int) : Bool := !hasB g acc m
def Uk (g : Pg σ) (acc : Acc σ) (t : Int) : Prop := g.S t = none ∧ lookV acc t = none
theorem Uk.unk {acc : Acc σ} {t : Int} (h : Uk g acc t) : Yd.unk g acc t = true := by
  unfold Yd.unk hasB
  rw [h.1, h.2]
  rfl
theorem unk_iff {acc : Acc σ} {t : Int} : Yd.unk g acc t = true ↔ Uk g acc t := by
  constructor
  · intro h
    unfold Yd.unk hasB at h
    unfold Uk
    cases e1 : g.S t with
    | some n => rw [e1] at h; simp at h
    | none =>
      cases e2 : lookV acc t with
      | some n => rw [e2] at h; simp at h
      | none => exact ⟨rfl, rfl⟩
  · exact Uk.unk
inductive Mch (g : Pg σ) (t0 : Int) : Nat → Acc σ → List Int → Except Er Int × Acc σ → Prop
  | done {acc tr v} : Has g acc t0 v → Mch g t0 0 acc tr (.ok v, acc)
  | ring {acc p l} : Uk g acc t0 → l ∈ p → Mch g t0 1 acc (p ++ [l]) (.error (.ring, p ++ [l]), acc)
  | miss {acc p l} : Uk g acc t0 → l ∉ p → g.R l = none → Mch g t0 1 acc (p ++ [l]) (.error (.missing, p ++ [l]), acc)
  | push {acc p l s ms m n r} : Uk g acc t0 → l ∉ p → g.R l = some (s, ms) → ms.find? (Yd.unk g acc) = some m → p.length ≤ 300 → Mch g t0 n acc (p ++ [l] ++ [m]) r → Mch g t0 (n + 1) acc (p ++ [l]) r
  | noway {acc p l s ms ns} : Uk g acc t0 → l ∉ p → g.R l = some (s, ms) → All2 (Has g acc) ms ns → g.W s ns = none → Mch g t0 1 acc (p ++ [l]) (.error (.noway, p ++ [l]), acc)
  | make {acc p l s ms ns v n r} : Uk g acc t0 → l ∉ p → g.R l = some (s, ms) → All2 (Has g acc) ms ns → g.W s ns = some v → Mch g t0 n (acc ++ [⟨l, s, ms, ns, v⟩]) p r → Mch g t0 (n + 1) acc (p ++ [l]) r
theorem Mch.pre {t0 : Int} {n : Nat} {acc : Acc σ} {tr : List Int} {r : Except Er Int × Acc σ} (h : Mch g t0 n acc tr r) : ∃ new, r.2 = acc ++ new := by
  induction h with
  | done _ => exact ⟨[], by simp⟩
  | ring _ _ => exact ⟨[], by simp⟩
  | miss _ _ _ => exact ⟨[], by simp⟩
  | push _ _ _ _ _ _ ih => exact ih
  | noway _ _ _ _ _ => exact ⟨[], by simp⟩
  | make _ _ _ _ _ _ ih => obtain ⟨nw, e⟩ := ih; exact ⟨[_] ++ nw, by rw [e, List.append_assoc]⟩
theorem Good.left : ∀ {b a : Acc σ}, Good g (a ++ b) → Good g a := by
  intro b a h
  generalize e : a ++ b = c at h
  induction h generalizing b with
  | nil =>
    have : a = [] := by simp at e; exact e.1
    rw [this]; exact .nil
  | @snoc c' x G hs hl hr ha hw ih =>
    rcases List.eq_nil_or_concat b with rfl | ⟨b', y, rfl⟩
    · rw [List.append_nil] at e
      rw [e]; exact .snoc G hs hl hr ha hw
    · rw [List.concat_eq_append, ← List.append_assoc] at e
      have := (List.append_inj' e rfl).1
      exact ih this
theorem Good.last {a : Acc σ} {e : Vs σ} (h : Good g (a ++ [e])) : g.S e.t = none ∧ lookV a e.t = none ∧ g.R e.t = some (e.s, e.ms) ∧ All2 (Has g a) e.ms e.ns ∧ g.W e.s e.ns = some e.v := by
  generalize q : a ++ [e] = c at h
  cases h with
  | nil => simp at q
  | @snoc c' x G hs hl hr ha hw =>
    obtain ⟨q1, q2⟩ := List.append_inj' q rfl
    cases q2
    subst q1
    exact ⟨hs, hl, hr, ha, hw⟩
theorem goAll_keep {f : Int → Acc σ → Except Er Int × Acc σ} {x : Int} (hf : ∀ m acc, lookV acc x = none → lookV (f m acc).2 x = none) : ∀ (ms : List Int) (acc : Acc σ), lookV acc x = none → lookV (goAll f ms acc).2 x = none
  | [], acc, h => h
  | m :: ms, acc, h => by
    simp only [goAll]
    have h1 := hf m acc h
    cases e1 : f m acc with
    | mk r1 a1 =>
      rw [e1] at h1
      cases r1 with
      | error e => exact h1
      | ok n =>
        simp only
        have h2 := goAll_keep hf ms a1 h1
        cases e2 : goAll f ms a1 with
        | mk r2 a2 =>
          rw [e2] at h2
          cases r2 <;> exact h2
theorem visit_keep {x : Int} : ∀ (f : Nat) (path : List Int) (t : Int) (acc : Acc σ), x ∈ path → lookV acc x = none → lookV (visit g f path t acc).2 x = none
  | 0, path, t, acc, _, h => h
  | f + 1, path, t, acc, hx, h => by
    simp only [visit]
    cases es : g.S t with
    | some n => exact h
    | none =>
      simp only
      cases el : lookV acc t with
      | some v => exact h
      | none =>
        simp only
        cases er : g.R t with
        | none => exact h
        | some p =>
          obtain ⟨s, ms⟩ := p
          simp only
          by_cases hin : t ∈ path
          · rw [if_pos hin]; exact h
          · rw [if_neg hin]
            have h1 := goAll_keep (x := x) (f := visit g f (path ++ [t])) (fun m a ha => visit_keep f (path ++ [t]) m a (List.mem_append_left _ hx) ha) ms acc h
            cases e1 : goAll (visit g f (path ++ [t])) ms acc with
            | mk r1 a1 =>
              rw [e1] at h1
              cases r1 with
              | error e => exact h1
              | ok ns =>
                simp only
                cases ew : g.W s ns with
                | none => exact h1
                | some v =>
                  simp only
                  have hne : ¬ t = x := fun z => hin (z ▸ hx)
                  have h1' : lookV a1 x = none := h1
                  rw [lookV_app, h1']
                  simp [lookV, hne]
def Runs (g : Pg σ) (t0 : Int) (acc : Acc σ) (tr up : List Int) (t : Int) : Except Er Int × Acc σ → Prop
  | (.error e, a1) => ∃ n, Mch g t0 n acc tr (.error e, a1)
  | (.ok v, a1) => Has g a1 t v ∧ (∃ new, a1 = acc ++ new) ∧ ∀ n r, Mch g t0 n a1 up r → ∃ m, Mch g t0 m acc tr r
def RunsAll (g : Pg σ) (t0 : Int) (acc : Acc σ) (tr : List Int) (ms : List Int) : Except Er (List Int) × Acc σ → Prop
  | (.error e, a1) => ∃ n, Mch g t0 n acc tr (.error e, a1)
  | (.ok ns, a1) => All2 (Has g a1) ms ns ∧ (∃ new, a1 = acc ++ new) ∧ ∀ n r, Mch g t0 n a1 tr r → ∃ m, Mch g t0 m acc tr r
theorem goAll_runs {f : Int → Acc σ → Except Er Int × Acc σ} {t0 l : Int} {p : List Int} {s : σ} {all : List Int} (hl : l ∉ p) (hR : g.R l = some (s, all)) (hp : p.length ≤ 300) (hS0 : g.S t0 = none)
    (kp : ∀ m acc, lookV acc t0 = none → lookV (f m acc).2 t0 = none)
    (hk : ∀ m acc n, Has g acc m n → ∃ n', Has g acc m n' ∧ f m acc = (.ok n', acc))
    (hf : ∀ m acc, Uk g acc m → lookV acc t0 = none → Runs g t0 acc (p ++ [l] ++ [m]) (p ++ [l]) m (f m acc)) :
    ∀ (ms done : List Int) (acc : Acc σ), all = done ++ ms → (∀ m ∈ done, ∃ n, Has g acc m n) → lookV acc t0 = none → RunsAll g t0 acc (p ++ [l]) ms (goAll f ms acc)
  | [], done, acc, _, _, _ => ⟨.nil, ⟨[], by simp⟩, fun n r h => ⟨n, h⟩⟩
  | m :: ms, done, acc, he, hd, h0 => by
    simp only [goAll]
    by_cases hm : ∃ n, Has g acc m n
    · obtain ⟨n, hn⟩ := hm
      obtain ⟨n', hn', e1⟩ := hk m acc n hn
      rw [e1]
      simp only
      have ih := goAll_runs hl hR hp hS0 kp hk hf ms (done ++ [m]) acc (by rw [he]; simp) (fun x hx => by
        rcases List.mem_append.mp hx with q | q
        · exact hd x q
        · rw [List.mem_singleton.mp q]; exact ⟨n', hn'⟩) h0
      cases e2 : goAll f ms acc with
      | mk r2 a2 =>
        rw [e2] at ih
        cases r2 with
        | error e => exact ih
        | ok ns =>
          obtain ⟨i1, ⟨nw, i2⟩, i3⟩ := ih
          exact ⟨.cons (by rw [i2]; exact hn'.mono) i1, ⟨nw, i2⟩, i3⟩
    · have uk : Uk g acc m := unk_iff.mp (by
        unfold Yd.unk
        cases e : hasB g acc m with
        | false => rfl
        | true => exact absurd (hasB_iff.mp e) hm)
      have hfu : all.find? (Yd.unk g acc) = some m := by
        rw [he, List.find?_append]
        have : done.find? (Yd.unk g acc) = none := List.find?_eq_none.mpr fun x hx => by
          have := hasB_iff.mpr (hd x hx)
          unfold Yd.unk
          rw [this]; simp
        rw [this]
        simp [uk.unk]
      have r1 := hf m acc uk h0
      have k1 := kp m acc h0
      cases e1 : f m acc with
      | mk q a1 =>
        rw [e1] at r1 k1
        cases q with
        | error e =>
          obtain ⟨n, hn⟩ := r1
          exact ⟨n + 1, .push ⟨hS0, h0⟩ hl hR hfu hp hn⟩
        | ok v =>
          obtain ⟨i1, ⟨nw, i2⟩, i3⟩ := r1
          simp only
          have ih := goAll_runs hl hR hp hS0 kp hk hf ms (done ++ [m]) a1 (by rw [he]; simp) (fun x hx => by
            rcases List.mem_append.mp hx with q | q
            · obtain ⟨y, hy⟩ := hd x q
              exact ⟨y, by rw [i2]; exact hy.mono⟩
            · rw [List.mem_singleton.mp q]; exact ⟨v, i1⟩) k1
          cases e2 : goAll f ms a1 with
          | mk r2 a2 =>
            rw [e2] at ih
            cases r2 with
            | error e =>
              obtain ⟨n, hn⟩ := ih
              obtain ⟨m', hm'⟩ := i3 n _ hn
              exact ⟨m' + 1, .push ⟨hS0, h0⟩ hl hR hfu hp hm'⟩
            | ok ns =>
              obtain ⟨j1, ⟨nw2, j2⟩, j3⟩ := ih
              refine ⟨.cons (by rw [j2]; exact i1.mono) j1, ⟨nw ++ nw2, by rw [j2, i2]; simp⟩, fun n r hr => ?_⟩
              obtain ⟨m1, h1⟩ := j3 n r hr
              obtain ⟨m2, h2⟩ := i3 m1 r h1
              exact ⟨m2 + 1, .push ⟨hS0, h0⟩ hl hR hfu hp h2⟩
theorem visit_known {f : Nat} {path : List Int} {m n : Int} {acc : Acc σ} (h : Has g acc m n) : ∃ n', Has g acc m n' ∧ visit g (f + 1) path m acc = (.ok n', acc) := by
  simp only [visit]
  cases es : g.S m with
  | some k => exact ⟨k, .inl es, rfl⟩
  | none =>
    cases el : lookV acc m with
    | some v => exact ⟨v, .inr el, rfl⟩
    | none =>
      rcases h with h | h
      · rw [es] at h; cases h
      · rw [el] at h; cases h
theorem visit_runs {keys : List Int} (hk : ∀ t p, g.R t = some p → t ∈ keys) (h300 : keys.length < 300) {t0 : Int} (hS0 : g.S t0 = none) : ∀ (f : Nat) (path : List Int) (t : Int) (acc : Acc σ),
    keys.length + 1 < f + path.length → f + path.length ≤ 301 → path.Nodup → (∀ x ∈ path, ∃ p, g.R x = some p) → Uk g acc t → lookV acc t0 = none → ((path = [] ∧ t = t0) ∨ t0 ∈ path) → Runs g t0 acc (path ++ [t]) path t (visit g f path t acc)
  | 0, path, t, acc, hf, _, nd, hp, _, _, _ => by
    have := len_le_of_nodup nd fun x hx => let ⟨p, h⟩ := hp x hx; hk x p h
    omega
  | f + 1, path, t, acc, hf, hf2, nd, hp, uk, h0, hrt => by
    simp only [visit]
    rw [uk.1, uk.2]
    simp only
    cases er : g.R t with
    | none =>
      have hnp : t ∉ path := fun h => by
        obtain ⟨p, hp'⟩ := hp t h
        rw [er] at hp'; cases hp'
      exact ⟨1, .miss ⟨hS0, h0⟩ hnp er⟩
    | some p =>
      obtain ⟨s, ms⟩ := p
      simp only
      by_cases hin : t ∈ path
      · rw [if_pos hin]
        exact ⟨1, .ring ⟨hS0, h0⟩ hin⟩
      · rw [if_neg hin]
        have nd2 : (path ++ [t]).Nodup := List.nodup_append.mpr ⟨nd, by simp, fun a ha b hb => by
          rw [List.mem_singleton] at hb; subst hb; exact fun e => hin (e ▸ ha)⟩
        have ht0 : t0 ∈ path ++ [t] := by
          rcases hrt with ⟨_, rfl⟩ | h
          · simp
          · exact List.mem_append_left _ h
        have hp2 : ∀ x ∈ path ++ [t], ∃ p, g.R x = some p := fun x hx => (List.mem_append.mp hx).elim (hp x) fun h => by rw [List.mem_singleton] at h; exact ⟨(s, ms), h ▸ er⟩
        have lp := len_le_of_nodup nd2 fun x hx => let ⟨p, h⟩ := hp2 x hx; hk x p h
        have hl2 : (path ++ [t]).length = path.length + 1 := by simp
        have f1 : ∃ f', f = f' + 1 := ⟨f - 1, by omega⟩
        have hr := goAll_runs (g := g) (f := visit g f (path ++ [t])) (t0 := t0) hin er (by omega) hS0 (fun m a ha => visit_keep f (path ++ [t]) m a ht0 ha)
          (fun m a n hn => by obtain ⟨f', rfl⟩ := f1; exact visit_known hn)
          (fun m a um ha => visit_runs hk h300 hS0 f (path ++ [t]) m a (by rw [hl2]; omega) (by rw [hl2]; omega) nd2 hp2 um ha (.inr ht0)) ms [] acc rfl (by simp) h0
        have kt := goAll_keep (x := t) (f := visit g f (path ++ [t])) (fun m a ha => visit_keep f (path ++ [t]) m a (by simp) ha) ms acc uk.2
        have k0 := goAll_keep (x := t0) (f := visit g f (path ++ [t])) (fun m a ha => visit_keep f (path ++ [t]) m a ht0 ha) ms acc h0
        cases e1 : goAll (visit g f (path ++ [t])) ms acc with
        | mk r1 a1 =>
          rw [e1] at hr kt k0
          cases r1 with
          | error e => exact hr
          | ok ns =>
            obtain ⟨i1, ⟨nw, i2⟩, i3⟩ := hr
            simp only
            cases ew : g.W s ns with
            | none =>
              simp only
              exact i3 1 _ (.noway ⟨hS0, k0⟩ hin er i1 ew)
            | some v =>
              simp only
              refine ⟨.inr ?_, ⟨nw ++ [⟨t, s, ms, ns, v⟩], by rw [i2]; simp⟩, fun n r hr' => i3 _ _ (.make ⟨hS0, k0⟩ hin er i1 ew hr')⟩
              have kt' : lookV a1 t = none := kt
              rw [lookV_app, kt']
              simp [lookV]
theorem Mch.start {keys : List Int} (hk : ∀ t p, g.R t = some p → t ∈ keys) (h : keys.length < 298) (t : Int) : ∃ n, Mch g t n [] [t] (visit g 300 [] t []) := by
  cases es : g.S t with
  | some v =>
    refine ⟨0, ?_⟩
    have : visit g 300 [] t [] = (.ok v, []) := by
      show visit g (299 + 1) [] t [] = (.ok v, [])
      unfold visit
      rw [es]
    rw [this]
    exact .done (.inl es)
  | none =>
    have r := visit_runs hk (by omega) es 300 [] t [] (by simp; omega) (by simp) (by simp) (by simp) ⟨es, rfl⟩ rfl (.inl ⟨rfl, rfl⟩)
    cases e : visit g 300 [] t [] with
    | mk q a1 =>
      rw [e] at r
      cases q with
      | error er => exact r
      | ok v =>
        obtain ⟨i1, _, i3⟩ := r
        obtain ⟨m, hm⟩ := i3 0 _ (.done i1)
        exact ⟨m, hm⟩
end Yd
set_option Elab.async false
set_option linter.all false
set_option maxRecDepth 100000
namespace L2
open PySem PySem.Spec PyProof.Rows
section
open PySem.W
variable {prog : Program} {w : World} {A : Around} {E : Value → Shared → Prop} {s : Shared} {T : String} {r d : Addr} {n : Nat} {P : Nat → Value → Prop} {OK : Heap → Prop}
end
section
variable {X : Cx}
end
section
variable {X : Cx} {pins : List (Addr × Obj)} {σ : St} {H : Hp} {s : Shared} {a : Addr} {kvs : List (Key × V)} {k : Key} {u r : Value} {d : V} {A : Around} {E : Value → Shared → Prop}
end
section
variable {X : Cx} {o e f : Expr} {apos cpos : Pos} {td ty tx : TE}
end
def tFmtI (te : TE) : TE := fun σ H Q => te σ H fun x H1 => ∃ i : Int, x = .int i ∧ i.natAbs.log2 < 1920 ∧ Q (.str (toString i)) H1
theorem pe_fmtI {X : Cx} {e : Expr} {te : TE} {pos : Pos} (he : PE X e te) : PE X (.FormattedValue e (-1) none pos) (tFmtI te) := by
  intro pins s σ H Q I h
  refine wpAny_FormattedValue_plain (thn (he pins s σ H _ I h) fun u s1 ⟨v, H1, I1, r, i, ei, hi, q⟩ => ?_)
  subst ei
  obtain ⟨t, rfl⟩ := r
  exact wpAny_formatField_int hi ⟨.str _, H1, I1.tok _, ⟨_, rfl⟩, q⟩
theorem Same.seqT {K : PySem.W.Frag} {H H' : Hp} {a : Addr} {xs : List V} (s : Same H H') (h : SqT K H a xs) : SqT K H' a xs := by
  rcases h with (h | ⟨o, h⟩) | h
  · exact .inl (.inl (s _ _ h))
  · exact .inl (.inr ⟨o, s _ _ h⟩)
  · exact .inr h
theorem cmp_mapT {K : PySem.W.Frag} {a D : Addr} {xs : List V} {places : List Nat} {te : TE} {σ : St} {H : Hp} {Q : VK} (g : V → V) (hS : SqT K H a xs) (hD : H D = none) (hz : xs.length ≤ sizeLine)
    (hte : ∀ (i : Nat) (x : V), xs[i]? = some x → ∀ (H1 : Hp) (Q' : VK), Same H H1 → Q' (g x) H1 → te (blkσ places (some x) σ) H1 Q') (hq : Q (.ref D) (upd H D (.lst (xs.map g)))) :
    compBody (Itt K a) places tYes te σ Q H D := by
  refine ⟨fun i m H' => m = xs.length - i ∧ i ≤ xs.length ∧ H' = upd H D (.lst ((xs.take i).map g)), ⟨xs.length, by omega, Nat.zero_le _, rfl⟩, ?_⟩
  rintro i m H' ⟨rfl, hi, rfl⟩
  have sq : SqT K (upd H D (.lst ((xs.take i).map g))) a xs := Same.seqT (Same.upd hD) hS
  by_cases hlt : i < xs.length
  · right
    have hx : xs[i]? = some xs[i] := List.getElem?_eq_getElem hlt
    refine ⟨⟨xs, xs[i], sq, hx⟩, fun H' => H' = upd H D (.lst ((xs.take (i + 1)).map g)), fun H' e => ⟨xs.length - (i + 1), by omega, rfl, hlt, e⟩, ?_⟩
    rintro x H2 ⟨rfl, hy⟩
    have := hy xs sq
    unfold tYes
    dsimp only
    rw [if_pos rfl]
    refine hte i x this _ _ (Same.upd hD) ⟨_, upd_same, ?_, ?_⟩
    · simp only [List.length_map, List.length_take]
      omega
    · rw [upd_upd, List.take_add_one, this, List.map_append]
      rfl
  · left
    have e : i = xs.length := by omega
    subst e
    refine ⟨⟨xs, sq, Nat.le_refl _⟩, ?_⟩
    rw [List.take_of_length_le (Nat.le_refl _)]
    exact hq
def MethC (CX : CXT) (P : Program) (w : World) (K : PySem.W.Frag) (mg : Str → Option Value) (base : Heap) (C : Addr) (m : Str) (k : Nat) (ps : List Str) (sp : Sp) : Prop :=
  Cls K C ∧ ∃ f fd, FnOk P w K mg base CX k f fd ps sp ∧ Meth K C m f ∧ Binds K fd ps []
abbrev MOwn := MethC CX0
abbrev MOwnX (P : Program) (w : World) := MethC (CX1 P w) P w
def MkC (P : Program) (w : World) (K : PySem.W.Frag) (mg : Str → Option Value) (base : Heap) (C : Addr) (x : Str) (k : Nat) (ps : List Str) (sp : Sp) : Prop :=
  ∃ f fd, FnOk P w K mg base CX0 k f fd ps sp ∧ Mk K C f ∧ Binds K fd ps [] ∧ mg x = some (.ref C)
section
variable {X : Cx} {CX : CXT} {C : Addr} {k : Nat} {x m : Str} {ps : List Str} {sp : Sp} {o e : Expr} {es : List Expr} {ta : TE} {t : TA} {p pos apos : Pos} {E : XK}
theorem pe_mth {pl : Sem Bool} (D : MethC CX X.prog X.w X.K X.mg X.base C m k ps sp) (he : PE X o ta) (hr : Room k X.A) (hx : Passes CX X E) (ha : PA X (e :: es) t)
    (hst : starEach (e :: es) X.env = (false, eval e X.env) :: starEach es X.env := by rfl) (hpl : (backTo pos (starEach es X.env)).any (·.1) = false := by rfl)
    (ht : eval (.Call (.Attribute o m apos) (e :: es) [] pos) X.env = (do
      let ov ← eval o X.env
      standAt apos.atName
      let (f, first) ← holding [ov] (getMethod ov m pl)
      callWith pos f first (backTo pos (starEach (e :: es) X.env)) (backToKw pos (keywordEach [] X.env))) := by rfl) :
    PE X (.Call (.Attribute o m apos) (e :: es) [] pos) (tMeth C m sp [] E ta t) := by
  obtain ⟨c, f, fd, F, hm, hb⟩ := D
  exact pe_meth he c hm F hr hb .nil hx ha hst hpl ht
theorem pe_mk (D : MkC X.prog X.w X.K X.mg X.base C x k ps sp) (hr : Room (k + 1) X.A) (hg : Gl X x) (ha : PA X (e :: es) t) (hdb : (x == ("__debug__" : Str)) = false := by decide) (he : starEach (e :: es) X.env = (false, eval e X.env) :: starEach es X.env := by rfl) (hpl : (backTo pos (starEach es X.env)).any (·.1) = false := by rfl) :
    PE X (.Call (.Name x p) (e :: es) [] pos) (tMake C sp [] E0 t) := by
  obtain ⟨f, fd, F, M, hb, hm⟩ := D
  exact pe_make M F hr hg hm hb .nil pass0 ha hdb he hpl
theorem pe_mk0 (D : MkC X.prog X.w X.K X.mg X.base C x k ps sp) (hr : Room (k + 1) X.A) (hg : Gl X x) (hdb : (x == ("__debug__" : Str)) = false := by decide) : PE X (.Call (.Name x p) [] [] pos) (tMake C sp [] E0 tNil) := by
  obtain ⟨f, fd, F, M, hb, hm⟩ := D
  exact pe_make0 M F hr hg hm hb .nil pass0 hdb
theorem passNo : PassT (CX1 X.prog X.w) X (fun _ _ _ _ => False) := fun _ _ _ _ _ _ _ ⟨_, _, _, _, _, z⟩ => z.elim
end
theorem OwnC.mono {CX : CXT} {P : Program} {w : World} {K : PySem.W.Frag} {mg : Str → Option Value} {base : Heap} {x : Str} {j k : Nat} {ps : List Str} {sp : Sp} (D : OwnC CX P w K mg base x j ps sp) (h : j ≤ k) : OwnC CX P w K mg base x k ps sp := by
  obtain ⟨f, fd, F, r⟩ := D
  exact ⟨f, fd, F.mono h, r⟩
theorem passE_cx {P : Program} {w : World} {K : PySem.W.Frag} {mg : Str → Option Value} {base : Heap} {N : List Str} {qual : Str} {scope : Scope} {f : Addr} {cd : Value} {A : Around} {outer : List Env} {s : Shared} {H : Hp} {E : XK} :
    Passes (CX1 P w) (cxOf (CX1 P w) P w K mg base N qual scope f cd A outer s H E) E := fun pins σ H1 s1 e s' I hc => pass_cx pins σ H1 s1 e s' I hc
structure AtM (K : PySem.W.Frag) (C : Addr) (m qual : Str) (st : Stmt) (f : Addr) (fd : FuncData) : Prop where
  cl : Cls K C
  fn : Fun K m qual st f fd
  me : Meth K C m f
abbrev BindM (x qual : Str) (st : Stmt) (ps : List Str) : Prop := ∀ (kV doc pm : Value) (an : Option Addr) (cdv ct : Value) (us : List Value), us.length = ps.length → bindArgs (PySem.W.fnOf x qual (defArgs st) (defBody st) (defScope st) .none kV doc pm an cdv ct) ⟨us, []⟩ = pure (ps.zip us)
section
variable {P : Program} {w : World} {K : PySem.W.Frag} {mg : Str → Option Value} {base : Heap} {m qual x : Str} {st : Stmt} {C f : Addr} {fd : FuncData} {N ps : List Str} {k : Nat} {sp : Sp}
theorem AtM.own (F : AtM K C m qual st f fd) (S : FnScope N ps (defScope st)) (hb : BindM m qual st ps) (len : ∀ vs H Q E, sp vs H Q E → vs.length = ps.length)
    (hbody : ∀ (cdv : Value) (A : Around) (outer : List Env) (s : Shared) (H : Hp) (vs : List V) (Q : VK) (E : XK), Room k (A.deeper (envOfC qual (defScope st) s.heap.objs.size f cdv)) → sp vs H Q E →
      ∃ t, PSs (cxOf CX0 P w K mg base N qual (defScope st) f cdv A outer s H E).nox (defBody st) t ∧ t { nx := fun _ H' => Q .non H', rt := Q } (start N vs) H) : MOwn P w K mg base C m (k + 1) ps sp :=
  ⟨F.cl, f, fd, F.fn.ok S len hbody, F.me, F.fn.binds hb⟩
theorem AtM.ownX (F : AtM K C m qual st f fd) (S : FnScope N ps (defScope st)) (hb : BindM m qual st ps) (len : ∀ vs H Q E, sp vs H Q E → vs.length = ps.length)
    (hbody : ∀ (cdv : Value) (A : Around) (outer : List Env) (s : Shared) (H : Hp) (vs : List V) (Q : VK) (E : XK), Room k (A.deeper (envOfC qual (defScope st) s.heap.objs.size f cdv)) → sp vs H Q E →
      ∃ t, PSs (cxOf (CX1 P w) P w K mg base N qual (defScope st) f cdv A outer s H E) (defBody st) t ∧ t { nx := fun _ H' => Q .non H', rt := Q } (start N vs) H) : MOwnX P w K mg base C m (k + 1) ps sp :=
  ⟨F.cl, f, fd, F.fn.okX S len hbody, F.me, F.fn.binds hb⟩
structure AtI (K : PySem.W.Frag) (mg : Str → Option Value) (C : Addr) (x qual : Str) (st : Stmt) (f : Addr) (fd : FuncData) : Prop where
  cl : Cls K C
  fn : Fun K "__init__" qual st f fd
  mak : Mk K C f
  mg : mg x = some (.ref C)
theorem AtI.own (F : AtI K mg C x qual st f fd) (S : FnScope N ps (defScope st)) (hb : BindM "__init__" qual st ps) (len : ∀ vs H Q E, sp vs H Q E → vs.length = ps.length)
    (hbody : ∀ (cdv : Value) (A : Around) (outer : List Env) (s : Shared) (H : Hp) (vs : List V) (Q : VK) (E : XK), Room k (A.deeper (envOfC qual (defScope st) s.heap.objs.size f cdv)) → sp vs H Q E →
      ∃ t, PSs (cxOf CX0 P w K mg base N qual (defScope st) f cdv A outer s H E).nox (defBody st) t ∧ t { nx := fun _ H' => Q .non H', rt := Q } (start N vs) H) : MkC P w K mg base C x (k + 1) ps sp :=
  ⟨f, fd, F.fn.ok S len hbody, F.mak, F.fn.binds hb, F.mg⟩
end
end L2
set_option Elab.async false
set_option linter.all false
set_option maxRecDepth 100000
namespace Lw
open PySem L2 PyProof.Rows Yd
structure Pc where
  R : Addr
  L : Addr
  Y : Addr
  HR : Addr
  NS : Addr
  SO : Addr
  IS : Addr
  NR : Addr
  NT : Addr
structure PgK (K : PySem.W.Frag) (mg : Str → Option Value) (c : Pc) : Prop where
  clR : Cls K c.R
  pair : NoAttr K c.R "pair"
  steps : NoAttr K c.R "steps"
  clL : Cls K c.L
  number : NoAttr K c.L "number"
  recipe : NoAttr K c.L "recipe"
  numbers : NoAttr K c.L "numbers"
  clY : Cls K c.Y
  sources : NoAttr K c.Y "sources"
  recipes : NoAttr K c.Y "recipes"
  shelf : NoAttr K c.Y "shelf"
  sorts : ∃ a, mg "SORTS" = some (.ref a) ∧ ∀ H, SqT K H a [.str "sum", .str "most", .str "take"]
  mHR : mg "HasRecipe" = some (.ref c.HR)
  mNS : mg "NoSource" = some (.ref c.NS)
  mSO : mg "NoSort" = some (.ref c.SO)
  mIS : mg "IsSource" = some (.ref c.IS)
  mNR : mg "NoRecipe" = some (.ref c.NR)
  mNT : mg "NotThere" = some (.ref c.NT)
  xHR : ExcC K c.HR
  xNS : ExcC K c.NS
  xSO : ExcC K c.SO
  xIS : ExcC K c.IS
  xNR : ExcC K c.NR
  xNT : ExcC K c.NT
structure PgX (K : PySem.W.Frag) (c : Pc) : Prop where
  e00 : PySem.W.exmOne K (.ref c.HR) (.ref c.HR) = some true
  e10 : PySem.W.exmOne K (.ref c.NS) (.ref c.HR) = some false
  e11 : PySem.W.exmOne K (.ref c.NS) (.ref c.NS) = some true
  e20 : PySem.W.exmOne K (.ref c.SO) (.ref c.HR) = some false
  e21 : PySem.W.exmOne K (.ref c.SO) (.ref c.NS) = some false
  e22 : PySem.W.exmOne K (.ref c.SO) (.ref c.SO) = some true
  e30 : PySem.W.exmOne K (.ref c.IS) (.ref c.HR) = some false
  e31 : PySem.W.exmOne K (.ref c.IS) (.ref c.NS) = some false
  e32 : PySem.W.exmOne K (.ref c.IS) (.ref c.SO) = some false
  e33 : PySem.W.exmOne K (.ref c.IS) (.ref c.IS) = some true
  e40 : PySem.W.exmOne K (.ref c.NR) (.ref c.HR) = some false
  e41 : PySem.W.exmOne K (.ref c.NR) (.ref c.NS) = some false
  e42 : PySem.W.exmOne K (.ref c.NR) (.ref c.SO) = some false
  e43 : PySem.W.exmOne K (.ref c.NR) (.ref c.IS) = some false
  e44 : PySem.W.exmOne K (.ref c.NR) (.ref c.NR) = some true
  e50 : PySem.W.exmOne K (.ref c.NT) (.ref c.HR) = some false
  e51 : PySem.W.exmOne K (.ref c.NT) (.ref c.NS) = some false
  e52 : PySem.W.exmOne K (.ref c.NT) (.ref c.SO) = some false
  e53 : PySem.W.exmOne K (.ref c.NT) (.ref c.IS) = some false
  e54 : PySem.W.exmOne K (.ref c.NT) (.ref c.NR) = some false
  e55 : PySem.W.exmOne K (.ref c.NT) (.ref c.NT) = some true
abbrev fsR (tp l : Addr) : List (Str × V) := [("pair", .ref tp), ("steps", .ref l)]
abbrev fsL (n : Int) (rv : V) (l : Addr) : List (Str × V) := [("number", .int n), ("recipe", rv), ("numbers", .ref l)]
abbrev fsY (a b z : Addr) : List (Str × V) := [("sources", .ref a), ("recipes", .ref b), ("shelf", .ref z)]
def RecAt (c : Pc) (B : List Addr) (H : Hp) (v : V) (x : Rcp) : Prop := ∃ r dx tp tm l, v = .ref r ∧ H r = some (.ins c.R dx (fsR tp l)) ∧ H tp = some (.tup [.str x.1, .ref tm]) ∧ H tm = some (.tup (x.2.map V.int)) ∧ H l = some (.lst ((dd x.2).map V.int)) ∧ l ∉ B
def LotAt (c : Pc) (B : List Addr) (H : Hp) (v : V) (e : Ent Str) : Prop := ∃ q dx n rv l kf, v = .ref q ∧ H q = some (.ins c.L dx (fsL n rv l)) ∧ wk e.1 e.2.2 = some n ∧ RecAt c B H rv (e.1, e.2.1) ∧ H l = some (.lst (((dd e.2.1).map kf).map V.int)) ∧ l ∉ B ∧ e.2.2 = e.2.1.map kf ∧ e.1 ∈ good3 ∧ e.2.1.length ≤ 20
def KpB (B : List Addr) (H H' : Hp) : Prop := ∀ b o, (∀ kvs, o ≠ HO.dK kvs) → (b ∈ B → ∀ xs, o ≠ HO.lst xs) → H b = some o → H' b = some o
theorem KpB.of {B : List Addr} {H H' : Hp} (s : Same H H') : KpB B H H' := fun b o _ _ e => s b o e
theorem KpB.trans {B : List Addr} {H H' H'' : Hp} (a : KpB B H H') (b : KpB B H' H'') : KpB B H H'' := fun x o n m e => b x o n m (a x o n m e)
theorem KpB.dict {B : List Addr} {H : Hp} {a : Addr} {k : List (Key × V)} {o' : HO} (h : H a = some (.dK k)) : KpB B H (upd H a o') := fun b o n _ e => by
  rw [upd_ne (fun z => by rw [z, h] at e; exact n k (Option.some.inj e).symm)]
  exact e
theorem KpB.lst {B : List Addr} {H : Hp} {a : Addr} {xs : List V} {o' : HO} (h : H a = some (.lst xs)) (hb : a ∈ B) : KpB B H (upd H a o') := fun b o _ m e => by
  rw [upd_ne (fun z => by rw [z, h] at e; exact m (z ▸ hb) xs (Option.some.inj e).symm)]
  exact e
theorem KpB.kp {H H' : Hp} (k : KpB [] H H') : Kp H H' := fun b o n e => k b o n (fun z => nomatch z) e
theorem Kp.kpB {B : List Addr} {H H' : Hp} (k : Kp H H') : KpB B H H' := fun b o n _ e => k b o n e
section
variable {c : Pc} {B B' : List Addr} {H H' : Hp} {v : V}
theorem RecAt.kp {x : Rcp} (h : RecAt c B H v x) (k : KpB B H H') : RecAt c B H' v x := by
  obtain ⟨r, dx, tp, tm, l, e, h1, h2, h3, h4, h5⟩ := h
  exact ⟨r, dx, tp, tm, l, e, k _ _ (fun _ z => nomatch z) (fun _ _ z => nomatch z) h1, k _ _ (fun _ z => nomatch z) (fun _ _ z => nomatch z) h2, k _ _ (fun _ z => nomatch z) (fun _ _ z => nomatch z) h3, k _ _ (fun _ z => nomatch z) (fun z => absurd z h5) h4, h5⟩
theorem LotAt.kp {e : Ent Str} (h : LotAt c B H v e) (k : KpB B H H') : LotAt c B H' v e := by
  obtain ⟨q, dx, n, rv, l, kf, e, h1, h2, h3, h4, h5, h6⟩ := h
  exact ⟨q, dx, n, rv, l, kf, e, k _ _ (fun _ z => nomatch z) (fun _ _ z => nomatch z) h1, h2, h3.kp k, k _ _ (fun _ z => nomatch z) (fun z => absurd z h5) h4, h5, h6⟩
theorem RecAt.off {x : Rcp} (h : RecAt c B H v x) (k : ∀ l xs, l ∉ B → H l = some (.lst xs) → l ∉ B') : RecAt c B' H v x := by
  obtain ⟨r, dx, tp, tm, l, e, h1, h2, h3, h4, h5⟩ := h
  exact ⟨r, dx, tp, tm, l, e, h1, h2, h3, h4, k _ _ h5 h4⟩
theorem LotAt.off {e : Ent Str} (h : LotAt c B H v e) (k : ∀ l xs, l ∉ B → H l = some (.lst xs) → l ∉ B') : LotAt c B' H v e := by
  obtain ⟨q, dx, n, rv, l, kf, e, h1, h2, h3, h4, h5, h6⟩ := h
  exact ⟨q, dx, n, rv, l, kf, e, h1, h2, h3.off k, h4, k _ _ h5 h4, h6⟩
end
structure YdAt (c : Pc) (B : List Addr) (H : Hp) (p a b z : Addr) (y : Ys) (n m : Nat) : Prop where
  ob : ∃ dx, H p = some (.ins c.Y dx (fsY a b z))
  s : ∃ S, NumAt H a S ∧ (∀ t, fnd S t = y.S t) ∧ S.length ≤ n
  r : ∃ k R, H b = some (.dK k) ∧ RowsR (RecAt c B H) k R ∧ (∀ t, fnd R t = y.R t) ∧ R.length ≤ n
  shf : ∃ k Z, H z = some (.dK k) ∧ RowsR (LotAt c B H) k Z ∧ (∀ t, fnd Z t = y.sh t) ∧ (keysA Z).Nodup ∧ Z.length ≤ m
  ab : a ≠ b
  az : a ≠ z
  bz : b ≠ z
section
variable {c : Pc} {B B' : List Addr} {H H' : Hp} {p a b z : Addr} {y : Ys} {n m n' m' : Nat}
theorem YdAt.le (h : YdAt c B H p a b z y n m) (hn : n ≤ n') (hm : m ≤ m') : YdAt c B H p a b z y n' m' := by
  obtain ⟨o, ⟨S, s1, s2, s3⟩, ⟨k, R, r1, r2, r3, r4⟩, ⟨kz, Z, z1, z2, z3, z4, z5⟩, ab, az, bz⟩ := h
  exact ⟨o, ⟨S, s1, s2, by omega⟩, ⟨k, R, r1, r2, r3, by omega⟩, ⟨kz, Z, z1, z2, z3, z4, by omega⟩, ab, az, bz⟩
theorem YdAt.kp (h : YdAt c B H p a b z y n m) (k : KpB B H H') (fr : ∀ x o, x = a ∨ x = b ∨ x = z → H x = some o → H' x = some o) : YdAt c B H' p a b z y n m := by
  obtain ⟨⟨dx, o⟩, ⟨S, ⟨ks, s0, s1⟩, s2⟩, ⟨kr, R, r1, r2, r3⟩, ⟨kz, Z, z1, z2, z3⟩, ab, az, bz⟩ := h
  exact ⟨⟨dx, k _ _ (fun _ q => nomatch q) (fun _ _ q => nomatch q) o⟩, ⟨S, ⟨ks, fr _ _ (.inl rfl) s0, s1⟩, s2⟩, ⟨kr, R, fr _ _ (.inr (.inl rfl)) r1, r2.imp fun _ _ q => q.kp k, r3⟩, ⟨kz, Z, fr _ _ (.inr (.inr rfl)) z1, z2.imp fun _ _ q => q.kp k, z3⟩, ab, az, bz⟩
theorem YdAt.same (h : YdAt c B H p a b z y n m) (s : Same H H') : YdAt c B H' p a b z y n m := h.kp (KpB.of s) fun x o _ e => s x o e
theorem YdAt.off (h : YdAt c B H p a b z y n m) (k : ∀ l xs, l ∉ B → H l = some (.lst xs) → l ∉ B') : YdAt c B' H p a b z y n m := by
  obtain ⟨o, s, ⟨kr, R, r1, r2, r3⟩, ⟨kz, Z, z1, z2, z3⟩, ab, az, bz⟩ := h
  exact ⟨o, s, ⟨kr, R, r1, r2.imp fun _ _ q => q.off k, r3⟩, ⟨kz, Z, z1, z2.imp fun _ _ q => q.off k, z3⟩, ab, az, bz⟩
theorem YdAt.setS {ks : List (Key × V)} {S : List (Int × Int)} {f : Int → Option Int} (h : YdAt c B H p a b z y n m) (hk : RowsR (fun v n => v = .int n) ks S) (hf : ∀ t, fnd S t = f t) (hl : S.length ≤ n') (hn : n ≤ n') :
    YdAt c B (upd H a (.dK ks)) p a b z { y with S := f } n' m := by
  obtain ⟨⟨dx, o⟩, ⟨S0, ⟨ks0, s0, s1⟩, s2⟩, ⟨kr, R, r1, r2, r3, r4⟩, ⟨kz, Z, z1, z2, z3⟩, ab, az, bz⟩ := h
  have k : KpB B H (upd H a (.dK ks)) := KpB.dict s0
  exact ⟨⟨dx, k _ _ (fun _ q => nomatch q) (fun _ _ q => nomatch q) o⟩, ⟨S, ⟨ks, upd_same, hk⟩, hf, hl⟩, ⟨kr, R, by rw [upd_ne ab.symm]; exact r1, r2.imp fun _ _ q => q.kp k, r3, by omega⟩, ⟨kz, Z, by rw [upd_ne az.symm]; exact z1, z2.imp fun _ _ q => q.kp k, z3⟩, ab, az, bz⟩
theorem YdAt.setR {kr : List (Key × V)} {R : List (Int × Rcp)} {f : Int → Option Rcp} (h : YdAt c B H p a b z y n m) (hk : RowsR (RecAt c B H) kr R) (hf : ∀ t, fnd R t = f t) (hl : R.length ≤ n') (hn : n ≤ n') :
    YdAt c B (upd H b (.dK kr)) p a b z { y with R := f } n' m := by
  obtain ⟨⟨dx, o⟩, ⟨S, ⟨ks, s0, s1⟩, s2, s3⟩, ⟨kr0, R0, r1, r2, r3⟩, ⟨kz, Z, z1, z2, z3⟩, ab, az, bz⟩ := h
  have k : KpB B H (upd H b (.dK kr)) := KpB.dict r1
  exact ⟨⟨dx, k _ _ (fun _ q => nomatch q) (fun _ _ q => nomatch q) o⟩, ⟨S, ⟨ks, by rw [upd_ne ab]; exact s0, s1⟩, s2, by omega⟩, ⟨kr, R, upd_same, hk.imp fun _ _ q => q.kp k, hf, hl⟩, ⟨kz, Z, by rw [upd_ne bz.symm]; exact z1, z2.imp fun _ _ q => q.kp k, z3⟩, ab, az, bz⟩
theorem YdAt.setZ {kz : List (Key × V)} {Z : List (Int × Ent Str)} {f : Shf Str} (h : YdAt c B H p a b z y n m) (hk : RowsR (LotAt c B H) kz Z) (hf : ∀ t, fnd Z t = f t) (nd : (keysA Z).Nodup) (hl : Z.length ≤ m') :
    YdAt c B (upd H z (.dK kz)) p a b z { y with sh := f } n m' := by
  obtain ⟨⟨dx, o⟩, ⟨S, ⟨ks, s0, s1⟩, s2⟩, ⟨kr, R, r1, r2, r3⟩, ⟨kz0, Z0, z1, z2, z3⟩, ab, az, bz⟩ := h
  have k : KpB B H (upd H z (.dK kz)) := KpB.dict z1
  exact ⟨⟨dx, k _ _ (fun _ q => nomatch q) (fun _ _ q => nomatch q) o⟩, ⟨S, ⟨ks, by rw [upd_ne az]; exact s0, s1⟩, s2⟩, ⟨kr, R, by rw [upd_ne bz]; exact r1, r2.imp fun _ _ q => q.kp k, r3⟩, ⟨kz, Z, upd_same, hk.imp fun _ _ q => q.kp k, hf, nd, hl⟩, ab, az, bz⟩
theorem YdAt.eq {y' : Ys} (h : YdAt c B H p a b z y n m) (e : y' = y) : YdAt c B H p a b z y' n m := e ▸ h
end
def But (x : Addr) (H H' : Hp) : Prop := ∀ b o, b ≠ x → H b = some o → H' b = some o
def But3 (a b z : Addr) (H H' : Hp) : Prop := ∀ x o, x ≠ a → x ≠ b → x ≠ z → H x = some o → H' x = some o
theorem But3.trans {a b z : Addr} {H H' H'' : Hp} (h : But3 a b z H H') (g : But3 a b z H' H'') : But3 a b z H H'' := fun x o n1 n2 n3 e => g x o n1 n2 n3 (h x o n1 n2 n3 e)
theorem But3.of {a b z : Addr} {H H' : Hp} (h : Same H H') : But3 a b z H H' := fun x o _ _ _ e => h x o e
theorem But3.kp {c : Pc} {B : List Addr} {a b z p : Addr} {H H' : Hp} {y : Ys} {n m : Nat} (h : But3 a b z H H') (Y : YdAt c B H p a b z y n m) : Kp H H' := fun x o nk e => by
  obtain ⟨_, ⟨S, ⟨ks, s0, _⟩, _⟩, ⟨kr, R, r1, _⟩, ⟨kz, Z, z1, _⟩, _⟩ := Y
  refine h x o (fun q => ?_) (fun q => ?_) (fun q => ?_) e
  · rw [q, s0] at e; exact nk ks (Option.some.inj e).symm
  · rw [q, r1] at e; exact nk kr (Option.some.inj e).symm
  · rw [q, z1] at e; exact nk kz (Option.some.inj e).symm
def spCheck (c : Pc) : Sp := fun vs H Q E => ∃ sort : Str, vs = [.str sort] ∧ (sort ∈ good3 → Q .non H) ∧ (sort ∉ good3 → (reprText sort).length ≤ 1000 ∧ E (.ref c.SO) none H)
def spTaken (K : PySem.W.Frag) : Sp := fun vs H Q _ => ∃ (p : Addr) (ns : List Int), vs = [.ref p] ∧ SqL K H p (ns.map V.int) ∧ ∀ H', Same H H' → Q (optV (takeOf ns)) H'
def spWorked (K : PySem.W.Frag) : Sp := fun vs H Q E => ∃ (p : Addr) (ns : List Int) (sort : Str), vs = [.str sort, .ref p] ∧ SqL K H p (ns.map V.int) ∧ sort ∈ good3 ∧ ∀ H', Same H H' → Q (optV (wk sort ns)) H'
def spOnce (K : PySem.W.Frag) : Sp := fun vs H Q _ => ∃ (p : Addr) (ns : List Int), vs = [.ref p] ∧ SqL K H p (ns.map V.int) ∧ ns.length ≤ 1000 ∧ ∀ (q : Addr) (H' : Hp), H q = none → Same H H' → H' q = some (.lst ((dd ns).map V.int)) → Q (.ref q) H'
def spFirst (K : PySem.W.Frag) : Sp := fun vs H Q _ => ∃ (p d : Addr) (ns : List Int) (N : List (Int × Int)), vs = [.ref p, .ref d] ∧ SqL K H p (ns.map V.int) ∧ NumAt H d N ∧ Q (optV (ns.find? fun m => (fnd N m).isNone)) H
def spRecInit (c : Pc) (K : PySem.W.Frag) : Sp := fun vs H Q _ => ∃ (r dx l : Addr) (s : Str) (ms : List Int), vs = [.ref r, .str s, .ref l] ∧ H r = some (.ins c.R dx []) ∧ SqL K H l (ms.map V.int) ∧ ms.length ≤ 1000 ∧
  ∀ H', But r H H' → (∀ B, (∀ x ∈ B, H x ≠ none) → RecAt c B H' (.ref r) (s, ms)) → Q .non H'
def spMade (c : Pc) : Sp := fun vs H Q _ => ∃ (v : V) (d : Addr) (B : List Addr) (s : Str) (ms ns : List Int) (N : List (Int × Int)), vs = [v, .ref d] ∧ RecAt c B H v (s, ms) ∧ s ∈ good3 ∧ ms.length ≤ 1000 ∧ NumAt H d N ∧ All2 (fun m n => fnd N m = some n) ms ns ∧ ∀ H', Same H H' → Q (optV (wk s ns)) H'
def spLotInit (c : Pc) : Sp := fun vs H Q _ => ∃ (q dx l : Addr) (n : Int) (rv : V), vs = [.ref q, .int n, rv, .ref l] ∧ H q = some (.ins c.L dx []) ∧ Q .non (upd H q (.ins c.L dx (fsL n rv l)))
def spFits (c : Pc) : Sp := fun vs H Q _ => ∃ (v rv : V) (nl : Addr) (B : List Addr) (e : Ent Str) (s : Str) (ms : List Int) (kf : Int → Int), vs = [v, rv, .ref nl] ∧ LotAt c B H v e ∧ RecAt c B H rv (s, ms) ∧ s ∈ good3 ∧ ms.length ≤ 1000 ∧ H nl = some (.lst (((dd ms).map kf).map V.int)) ∧ Q (.bl (decide (e = (s, ms, ms.map kf)))) H
def spYdInit (c : Pc) : Sp := fun vs H Q _ => ∃ (p dx : Addr), vs = [.ref p] ∧ H p = some (.ins c.Y dx []) ∧ ∀ (a b z : Addr) (H' : Hp), H a = none → H b = none → H z = none → But p H H' → (∀ B, YdAt c B H' p a b z Ys.e0 0 0) → Q .non H'
def errW (c : Pc) (s : Str) : Option Addr := if s = "done" then none else if s = "has recipe" then some c.HR else if s = "no source" then some c.NS else if s = "no sort" then some c.SO else if s = "is source" then some c.IS else if s = "no recipe" then some c.NR else some c.NT
def ChgQ (c : Pc) (B : List Addr) (p a b z : Addr) (y : Ys) (d : Deed) (n m : Nat) (H : Hp) (Q : VK) (E : XK) : Prop := match errW c (chg y d).2 with
  | none => ∀ H', But3 a b z H H' → YdAt c B H' p a b z (chg y d).1 (n + 1) m → Q .non H'
  | some e => E (.ref e) none H
def spSetS (c : Pc) : Sp := fun vs H Q E => ∃ (B : List Addr) (p a b z : Addr) (y : Ys) (n m : Nat) (t v : Int), vs = [.ref p, .int t, .int v] ∧ YdAt c B H p a b z y n m ∧ (∀ x ∈ B, H x ≠ none) ∧ n ≤ 1000 ∧ Lim t ∧ ChgQ c B p a b z y (.set t v) n m H Q E
def spDropS (c : Pc) : Sp := fun vs H Q E => ∃ (B : List Addr) (p a b z : Addr) (y : Ys) (n m : Nat) (t : Int), vs = [.ref p, .int t] ∧ YdAt c B H p a b z y n m ∧ (∀ x ∈ B, H x ≠ none) ∧ n ≤ 1000 ∧ Lim t ∧ ChgQ c B p a b z y (.drop t) n m H Q E
def spSetR (c : Pc) : Sp := fun vs H Q E => ∃ (B : List Addr) (p a b z l : Addr) (y : Ys) (n m : Nat) (t : Int) (s : Str) (ms : List Int), vs = [.ref p, .int t, .str s, .ref l] ∧ YdAt c B H p a b z y n m ∧ (∀ x ∈ B, H x ≠ none) ∧ n ≤ 1000 ∧ Lim t ∧ H l = some (.lst (ms.map V.int)) ∧ ms.length ≤ 1000 ∧ (reprText s).length ≤ 1000 ∧ ChgQ c B p a b z y (.rcp t s ms) n m H Q E
def spDropR (c : Pc) : Sp := fun vs H Q E => ∃ (B : List Addr) (p a b z : Addr) (y : Ys) (n m : Nat) (t : Int), vs = [.ref p, .int t] ∧ YdAt c B H p a b z y n m ∧ (∀ x ∈ B, H x ≠ none) ∧ n ≤ 1000 ∧ Lim t ∧ ChgQ c B p a b z y (.strike t) n m H Q E
def spLose (c : Pc) : Sp := fun vs H Q E => ∃ (B : List Addr) (p a b z : Addr) (y : Ys) (n m : Nat) (t : Int), vs = [.ref p, .int t] ∧ YdAt c B H p a b z y n m ∧ (∀ x ∈ B, H x ≠ none) ∧ n ≤ 1000 ∧ Lim t ∧ ChgQ c B p a b z y (.lose t) n m H Q E
def spChange (c : Pc) : Sp := fun vs H Q E => ∃ (B : List Addr) (p a b z : Addr) (y : Ys) (n m : Nat) (v : V) (d : Deed), vs = [.ref p, v] ∧ YdAt c B H p a b z y n m ∧ (∀ x ∈ B, H x ≠ none) ∧ n ≤ 1000 ∧ DeedAt H v d ∧ d.ok ∧ (∀ t, d ≠ .make t) ∧ ChgQ c B p a b z y d n m H Q E
def spChgAns (c : Pc) : Sp := fun vs H Q _ => ∃ (B : List Addr) (p a b z : Addr) (y : Ys) (n m : Nat) (v : V) (d : Deed), vs = [.ref p, v] ∧ YdAt c B H p a b z y n m ∧ (∀ x ∈ B, H x ≠ none) ∧ n ≤ 1000 ∧ DeedAt H v d ∧ d.ok ∧ (∀ t, d ≠ .make t) ∧
  ∀ H', But3 a b z H H' → YdAt c B H' p a b z (chg y d).1 (n + 1) m → Q (.str (chg y d).2) H'
def shUp (y : Ys) (t : Int) (x : Rcp) (ns : List Int) : Ys := { y with sh := upF y.sh t (some (x.1, x.2, ns)) }
def spFinish (c : Pc) : Sp := fun vs H Q _ => ∃ (p a b z kn td : Addr) (B : List Addr) (y : Ys) (n m : Nat) (t : Int) (x : Rcp) (ns ts : List Int) (N : List (Int × Int)), vs = [.ref p, .int t, .ref kn, .ref td] ∧ YdAt c B H p a b z y n m ∧ m ≤ 1000000 ∧
  y.R t = some x ∧ x.1 ∈ good3 ∧ x.2.length ≤ 20 ∧ NumAt H kn N ∧ kn ≠ z ∧ All2 (fun m n => fnd N m = some n) x.2 ns ∧ H td = some (.lst (ts.map V.int)) ∧ td ∈ B ∧ (∀ l ∈ B, H l ≠ none) ∧ ts.length ≤ 1000 ∧
  match wk x.1 ns with
  | none => ∀ H', Same H H' → Q .non H'
  | some v => ∀ H', (∀ b o, b ≠ z → b ≠ td → H b = some o → H' b = some o) → YdAt c B H' p a b z (shUp y t x ns) n (m + 1) → H' td = some (.lst ((ts ++ (if y.sh t = some (x.1, x.2, ns) then [] else [t])).map V.int)) → Q (.int v) H'
def AnsNew (H0 H : Hp) (v : V) : Ans → Prop
  | .word s => v = .str s
  | .made n told => ∃ a l, v = .ref a ∧ H a = some (.tup [.str "made", .int n, .ref l]) ∧ H l = some (.lst (told.map V.int)) ∧ H0 l = none
  | .fails w tr told => ∃ a l m, v = .ref a ∧ H a = some (.tup [.str "fails", .str w, .ref l, .ref m]) ∧ H l = some (.lst (tr.map V.int)) ∧ H m = some (.lst (told.map V.int)) ∧ H0 l = none ∧ H0 m = none
def spAsk (c : Pc) : Sp := fun vs H Q _ => ∃ (B : List Addr) (p a b z : Addr) (y : Ys) (n m : Nat) (t : Int), vs = [.ref p, .int t] ∧ YdAt c B H p a b z y n m ∧ (∀ x ∈ B, H x ≠ none) ∧ Wf n y ∧ n ≤ 290 ∧ m ≤ 500000 ∧
  ∀ (v : V) (H' : Hp), But3 a b z H H' → YdAt c B H' p a b z (ask y t).1 n (m + 300) → AnsNew H H' v (ask y t).2 → Q v H'
def spAnsTo (c : Pc) : Sp := fun vs H Q _ => ∃ (B : List Addr) (p a b z : Addr) (y : Ys) (n m : Nat) (v : V) (d : Deed), vs = [.ref p, v] ∧ YdAt c B H p a b z y n m ∧ (∀ x ∈ B, H x ≠ none) ∧ Wf n y ∧ n ≤ 290 ∧ m ≤ 500000 ∧ DeedAt H v d ∧ d.ok ∧
  ∀ (u : V) (H' : Hp), But3 a b z H H' → YdAt c B H' p a b z (step y d).1 (n + 1) (m + 300) → AnsNew H H' u (step y d).2 → Q u H'
theorem lk1 {f : Str} {v : V} {r : List (Str × V)} : List.lookup f ((f, v) :: r) = some v := by
  rw [List.lookup_cons, beq_self_eq_true]
theorem lk2 {f g : Str} {v : V} {r : List (Str × V)} (h : ¬ f = g) : List.lookup f ((g, v) :: r) = List.lookup f r := by
  rw [List.lookup_cons, beq_eq_false_iff_ne.mpr h]
theorem put1 {f g : Str} (h : ¬ f = g) (u v : V) : putF g v [(f, u)] = [(f, u), (g, v)] := by
  show (if f = g then _ else (f, u) :: putF g v []) = _
  rw [if_neg h]
  rfl
theorem put2 {f g k : Str} (h1 : ¬ f = k) (h2 : ¬ g = k) (u v x : V) : putF k x [(f, u), (g, v)] = [(f, u), (g, v), (k, x)] := by
  show (if f = k then _ else (f, u) :: putF k x [(g, v)]) = _
  rw [if_neg h1, put1 h2]
section
variable {tp l a b z : Addr} {n : Int} {rv : V} {m : Str}
theorem fsR_pair : (fsR tp l).lookup ("pair" : Str) = some (.ref tp) := lk1
theorem fsR_steps : (fsR tp l).lookup ("steps" : Str) = some (.ref l) := (lk2 (by decide +kernel)).trans lk1
theorem fsR_no (h1 : ¬ m = "pair") (h2 : ¬ m = "steps") : (fsR tp l).lookup m = none := (lk2 h1).trans ((lk2 h2).trans rfl)
theorem fsL_number : (fsL n rv l).lookup ("number" : Str) = some (.int n) := lk1
theorem fsL_recipe : (fsL n rv l).lookup ("recipe" : Str) = some rv := (lk2 (by decide +kernel)).trans lk1
theorem fsL_numbers : (fsL n rv l).lookup ("numbers" : Str) = some (.ref l) := (lk2 (by decide +kernel)).trans ((lk2 (by decide +kernel)).trans lk1)
theorem fsL_no (h1 : ¬ m = "number") (h2 : ¬ m = "recipe") (h3 : ¬ m = "numbers") : (fsL n rv l).lookup m = none := (lk2 h1).trans ((lk2 h2).trans ((lk2 h3).trans rfl))
theorem fsY_sources : (fsY a b z).lookup ("sources" : Str) = some (.ref a) := lk1
theorem fsY_recipes : (fsY a b z).lookup ("recipes" : Str) = some (.ref b) := (lk2 (by decide +kernel)).trans lk1
theorem fsY_shelf : (fsY a b z).lookup ("shelf" : Str) = some (.ref z) := (lk2 (by decide +kernel)).trans ((lk2 (by decide +kernel)).trans lk1)
theorem fsY_no (h1 : ¬ m = "sources") (h2 : ¬ m = "recipes") (h3 : ¬ m = "shelf") : (fsY a b z).lookup m = none := (lk2 h1).trans ((lk2 h2).trans ((lk2 h3).trans rfl))
end
def valP (N : List (Int × Int)) : V → V
  | .int m => .int ((fnd N m).getD 0)
  | v => v
theorem valP_map (N : List (Int × Int)) (ms : List Int) : (ms.map V.int).map (valP N) = (ms.map fun m => (fnd N m).getD 0).map V.int := by
  rw [List.map_map, List.map_map]
  rfl
def kno (y : Ys) (acc : Acc Str) (u : Int) : Option Int := match y.S u with
  | some v => some v
  | none => lookV acc u
theorem kno_has {y : Ys} {acc : Acc Str} (G : Good y.g acc) {u v : Int} (h : Has y.g acc u v) : kno y acc u = some v := by
  unfold kno
  rcases h with h | h
  · rw [show y.S u = some v from h]
  · have := G.src h
    rw [show y.S u = none from this]
    exact h
theorem kno_uk {y : Ys} {acc : Acc Str} {u : Int} (h : Uk y.g acc u) : kno y acc u = none := by
  unfold kno
  rw [show y.S u = none from h.1]
  exact h.2
theorem kno_unk {y : Ys} {acc : Acc Str} {u : Int} : (kno y acc u).isNone = Yd.unk y.g acc u := by
  unfold kno Yd.unk hasB
  show _ = !((y.S u).isSome || (lookV acc u).isSome)
  cases y.S u with
  | some v => rfl
  | none => cases lookV acc u <;> rfl
theorem kno_snoc {y : Ys} {acc : Acc Str} {e : Vs Str} (hs : y.S e.t = none) (hl : lookV acc e.t = none) (u : Int) : kno y (acc ++ [e]) u = if u = e.t then some e.v else kno y acc u := by
  unfold kno
  by_cases h : u = e.t
  · rw [if_pos h, h, hs]
    show lookV (acc ++ [e]) e.t = some e.v
    rw [lookV_app, hl]
    simp [lookV]
  · rw [if_neg h]
    cases y.S u with
    | some v => rfl
    | none =>
      show lookV (acc ++ [e]) u = lookV acc u
      rw [lookV_app]
      cases lookV acc u with
      | some v => rfl
      | none => simp [lookV, Ne.symm h]
theorem good_len {n : Nat} {y : Ys} (W : Wf n y) {acc : Acc Str} (G : Good y.g acc) : acc.length ≤ n := by
  obtain ⟨ks, k1, k2, _⟩ := W.key
  have := len_le_of_nodup G.nodup (k := ks) fun x hx => by
    obtain ⟨e, he, rfl⟩ := List.mem_map.mp hx
    obtain ⟨_, _, h3, _⟩ := G.find_known (find_of_mem G.nodup he)
    exact k2 _ _ h3
  rw [List.length_map] at this
  omega
theorem in_ints (l : Int) : ∀ ps : List Int, inV (.int l) (ps.map V.int) = decide (l ∈ ps)
  | [] => rfl
  | q :: ps => by
    have ih := in_ints l ps
    unfold inV at ih ⊢
    rw [List.map_cons, List.any_cons, ih]
    show ((q == l) || _) = _
    by_cases h : q = l
    · simp [h]
    · have h2 : (q == l) = false := by rw [beq_eq_false_iff_ne]; exact h
      rw [h2, Bool.false_or, decide_eq_decide]
      constructor
      · intro z; exact List.mem_cons_of_mem _ z
      · intro z
        rcases List.mem_cons.mp z with z | z
        · exact absurd z.symm h
        · exact z
theorem cut_last (ps : List Int) (l : Int) : cutV ((ps ++ [l]).map V.int) none (some (-1)) = ps.map V.int := by
  unfold cutV
  have e : HT.sIx ((ps ++ [l]).map V.int).length ((ps ++ [l]).map V.int).length (some (-1)) = ps.length := by
    show (if (-1 : Int) < 0 then ((-1 : Int) + (((ps ++ [l]).map V.int).length : Int)).toNat else min (-1 : Int).toNat ((ps ++ [l]).map V.int).length) = _
    rw [if_pos (by decide), List.length_map, List.length_append, List.length_singleton]
    omega
  rw [e, HT.sIx_none, List.drop_zero, Nat.sub_zero, List.map_append]
  exact List.take_left' (by rw [List.length_map])
theorem But.of {x : Addr} {H H' : Hp} (h : Same H H') : But x H H' := fun b o _ e => h b o e
theorem But.trans {x : Addr} {H H' H'' : Hp} (h : But x H H') (g : But x H' H'') : But x H H'' := fun b o n e => g b o n (h b o n e)
theorem But.upd {x : Addr} {H : Hp} {o' : HO} : But x H (L2.upd H x o') := fun b o n e => by rw [upd_ne n]; exact e
theorem But.seq {K : PySem.W.Frag} {x C dx : Addr} {fs : List (Str × V)} {H H' : Hp} {l : Addr} {xs : List V} (h : But x H H') (hx : H x = some (.ins C dx fs)) (q : SqL K H l xs) : SqL K H' l xs := by
  rcases q with (q | ⟨o, q⟩) | q
  · exact .inl (.inl (h _ _ (ne_of q hx (by intro z; cases z)) q))
  · exact .inl (.inr ⟨o, h _ _ (ne_of q hx (by intro z; cases z)) q⟩)
  · exact .inr q
theorem lim_len0 {t : Int} (h : t.natAbs.log2 < 1920) : (Str.ofString (toString t)).length ≤ 1921 := int_text_len_1921 h
theorem lim_log {t : Int} (h : Lim t) : t.natAbs.log2 < 1920 := by
  obtain ⟨h1, h2⟩ := h
  by_cases z : t.natAbs = 0
  · rw [z]; decide
  · rw [Nat.log2_lt z]
    have : t.natAbs < 2 ^ 200 := by
      have e : ((2 ^ 200 : Nat) : Int) = (2 : Int) ^ 200 := by decide
      omega
    exact Nat.lt_of_lt_of_le this (Nat.pow_le_pow_right (by decide) (by decide))
theorem eqv_pair (s s' : Str) (ms ms' : List Int) : PyData.eqv (.tuple [.str s, .tuple (ms.map .int)]) (.tuple [.str s', .tuple (ms'.map .int)]) = decide (s = s' ∧ ms = ms') := by
  simp only [PyData.eqv, PyData.eqvAll, eqv_intsAll, Bool.and_true]
  have e := eqv_str s s'
  simp only [PyData.eqv] at e
  rw [e]
  by_cases h1 : s = s' <;> by_cases h2 : ms = ms' <;> simp [h1, h2]
theorem shaped_pair {s : Str} (h : s ∈ good3) (ms : List Int) : SeqAt.shaped (.tuple [.str s, .tuple (ms.map .int)]) = true := by
  have hd := depth_ints ms
  have h2 : PyData.depth (.tuple [.str s, .tuple (ms.map PyData.int)]) ≤ 64 := by
    simp only [PyData.depth, PyData.depthAll]
    omega
  show (PyData.canLayAll0 [.str s, .tuple (ms.map PyData.int)] && decide (PyData.depth (.tuple [.str s, .tuple (ms.map PyData.int)]) ≤ 64)) = true
  have h3 : PyData.canLayAll0 [.str s, .tuple (ms.map PyData.int)] = true := by
    simp only [PyData.canLayAll0, PyData.canLay0, canLay_ints, good_can h, Bool.and_true, Bool.true_and]
    try exact good_can h
  rw [h3, decide_eq_true h2]
  rfl
theorem all2_fun {N : List (Int × Int)} : ∀ {ms ns : List Int}, All2 (fun m n => fnd N m = some n) ms ns → ns = ms.map fun m => (fnd N m).getD 0
  | _, _, .nil => rfl
  | _, _, .cons p r => by rw [List.map_cons, ← all2_fun r, p]; rfl
theorem all2_has {N : List (Int × Int)} {ms ns : List Int} (h : All2 (fun m n => fnd N m = some n) ms ns) {m : Int} (hm : m ∈ ms) : fnd N m = some ((fnd N m).getD 0) := by
  obtain ⟨n, hn⟩ := h.mem m hm
  rw [hn]; rfl
end Lw
set_option Elab.async false
set_option linter.all false
set_option maxRecDepth 100000
namespace L2
open PySem PySem.Spec PyProof.Rows
end L2
namespace Lw
open PySem L2 PyProof.Rows Yd
structure ShRows (y : Ys) (ns : List Int) (g : Int → Int) : Prop where
  srt : ns.Pairwise (· < ·)
  mem : ∀ t, t ∈ ns ↔ ∃ e, y.sh t = some e
  val : ∀ t e, y.sh t = some e → wk e.1 e.2.2 = some (g t)
def RowAt (H : Hp) (v : V) (q : Int × Int) : Prop := ∃ a, v = .ref a ∧ H a = some (.tup [.int q.1, .int q.2])
theorem RowAt.same {H H' : Hp} {v : V} {q : Int × Int} (h : RowAt H v q) (s : Same H H') : RowAt H' v q := let ⟨a, e, h1⟩ := h; ⟨a, e, s _ _ h1⟩
theorem RowAt.kp {H H' : Hp} {v : V} {q : Int × Int} (h : RowAt H v q) (s : Kp H H') : RowAt H' v q := let ⟨a, e, h1⟩ := h; ⟨a, e, s.tup h1⟩
theorem RowAt.upd {H : Hp} {D : Addr} {v : V} {q : Int × Int} {us us' : List V} (h : RowAt H v q) (hD : H D = some (.lst us)) : RowAt (L2.upd H D (.lst us')) v q := by
  obtain ⟨a, e, h1⟩ := h
  exact ⟨a, e, by rw [upd_ne (ne_of h1 hD (by intro z; cases z))]; exact h1⟩
end Lw
set_option Elab.async false
set_option linter.all false
set_option maxRecDepth 100000
namespace L2
open PySem PySem.Spec PySem.Calls PyProof.Rows
section
open PySem.W Builtin Builtin.ObjectAttr Builtin.Getset_descriptor
variable {prog : Program} {w : World} {A : Around} {E : Value → Shared → Prop} {s : Shared} {K : Frag} {ea C : Addr}
theorem exc_get {tp : Value} {R : Result → Shared → Prop} (ty : ∀ M, Looks M s.heap (typeOf (.ref ea)) (.ref C)) (kin : K.In s.heap) (hm : mroIn K C (.type "object") = some true) (fin : R (.ok (.ret (.ref C))) s) :
    codeAny (model prog w) A (.call (.builtin "getset_descriptor.__get__") ⟨[.builtin "object.__class__", .ref ea, tp], []⟩) R s := by
  obtain ⟨h0, g0, d0, t0, o0⟩ := s
  have lt := ty (model prog w)
  have lm := looks_mroIn (M := model prog w) kin hm
  refine codeAny_call_builtin KF.slot_gs.plain KF.entry_gs (KF.slot_gs.check _ _ _ _ _ _ _ _ (KF.type_class) (KF.args_gs _ _ _) ?_)
  unfold Builtin.«getset_descriptor.__get__» descrGet; rw [dga_obj]; refine wpAny_bind (wpAny_pure ?_)
  unfold descrGetter; unfold descrCheckInstance; unfold descrNameAndClass isInstance; simp only [KF.owner_class]
  repeat lk
  refine ⟨Code.quiet_builtin _ (by decide +kernel), codeAny_builtin (KF.entry_class) ?_⟩
  unfold Builtin.«object.__class__»; unfold shownTypeOf
  repeat lk
  exact fin
theorem chk_ga {nameV : Value} {Q : Unit → Shared → Prop} (ty : ∀ M, Looks M s.heap (typeOf (.ref ea)) (.ref C)) (kin : K.In s.heap) (hb : mroIn K C (.type "BaseException") = some true) (hq : Q () s) :
    wpAny (model prog w) A (checkBuiltinCall "BaseException.__getattribute__" ⟨[.ref ea, nameV], []⟩) Q E s := by
  obtain ⟨h0, g0, d0, t0, o0⟩ := s
  have lt := ty (model prog w)
  have lm := looks_mroIn (M := model prog w) kin hb
  have hk : builtinKind "BaseException.__getattribute__" = some .slot := by decide +kernel
  have hsplit : splitId "BaseException.__getattribute__" = some ("BaseException", "__getattribute__") := by decide +kernel
  have ha := F.args_bexc_ga (.ref ea) nameV
  simp only [checkBuiltinCall, hk, hsplit]
  refine wpAny_bind ?_
  unfold isInstance
  repeat lk
  exact hq
structure ExcK (K : Frag) (C : Addr) : Prop where
  ga : findIn K (.ref C) "__getattribute__" = some (some (.builtin "BaseException.__getattribute__"))
  gh : findIn K (.ref C) "__getattr__" = some none
  cl : findIn K (.ref C) "__class__" = some (some (.builtin "object.__class__"))
  gt : specialIn K (.builtin "object.__class__") "__get__" = some (some (.builtin "getset_descriptor.__get__"))
  tk : takesIn K (.builtin "object.__class__") = some true
  mo : mroIn K C (.type "object") = some true
  mb : mroIn K C (.type "BaseException") = some true
  cd : ∃ c d k s, K.lookup C = some ⟨c, d, .cls k, s⟩
theorem exc_ga {tk : Tok} {R : Result → Shared → Prop} (ty : ∀ M, Looks M s.heap (typeOf (.ref ea)) (.ref C)) (kin : K.In s.heap) (x : ExcK K C) (fin : R (.ok (.ret (.ref C))) s) :
    codeAny (model prog w) A (.call (.builtin "BaseException.__getattribute__") ⟨[.ref ea, .str "__class__" tk], []⟩) R s := by
  have lt := ty (model prog w)
  have lf : Looks (model prog w) s.heap (find (.ref ea) (.ref C) "__class__") (.bind (.builtin "getset_descriptor.__get__") (.builtin "object.__class__")) :=
    (looks_findIn kin x.cl).andThen ((looks_specialIn kin x.gt).andThen ((show Looks (model prog w) s.heap (dataDescriptor? (some (.builtin "object.__class__")) (some (.builtin "getset_descriptor.__get__"))) (some (.builtin "getset_descriptor.__get__", .builtin "object.__class__")) from (looks_takesIn kin x.tk).andThen .now).andThen (Looks.tag .now)))
  refine codeAny_call_builtin F.excAttr_ValueError.ga.plain F.entry_bexc_ga (chk_ga ty kin x.mb ?_)
  refine wpAny_bind (wpAny_pure ?_)
  refine wpAny_bind (wpAny_pure ?_)
  refine wpAny_bind (lt.at (wpAny_bind (lf.at ?_)))
  show wpAny _ _ (holding [Value.builtin "object.__class__"] (call (.builtin "getset_descriptor.__get__") [.builtin "object.__class__", .ref ea, .ref C]) >>= ret) _ _ _
  refine wpAny_bind (wpAny_holding (wpAny_call (exc_get ty kin x.mo ?_)))
  exact wpAny_pure fin
theorem exc_class {Q : Option Value → Shared → Prop} (ty : ∀ M, Looks M s.heap (typeOf (.ref ea)) (.ref C)) (kin : K.In s.heap) (x : ExcK K C) (fin : Q (some (.ref C)) { s with toks := s.toks + 1 }) :
    wpAny (model prog w) A (getAttr? (.ref ea) "__class__") Q E s := by
  obtain ⟨h0, g0, d0, t0, o0⟩ := s
  have lt := ty (model prog w)
  have l1 := looks_findIn (M := model prog w) kin x.ga
  have l2 := looks_findIn (M := model prog w) kin x.gh
  have hx2 : (Value.builtin "BaseException.__getattribute__" == Value.builtin "object.__getattribute__") = false := by decide +kernel
  have hx1 : (onTheHeap (Value.ref C) && Value.builtin "BaseException.__getattribute__" == Value.builtin "object.__getattribute__") = false := by rw [hx2]; rfl
  unfold getAttr? getAttrBy? getAttrBy
  refine wpAny_bind (wpAny_mkText (wpAny_bind (wpAny_attempt (wpAny_holding (wpAny_bind (lt.at (wpAny_bind (l1.at ?_))))))))
  dsimp only
  rw [if_neg (by rw [hx1]; exact Bool.false_ne_true)]
  unfold getAttrByItsOwn
  refine wpAny_bind (l2.at (wpAny_bind (wpAny_attempt (wpAny_holding ?_))))
  show wpAny _ _ (boundAndCalled (.builtin "BaseException.__getattribute__") (.ref ea) _) _ _ _
  unfold boundAndCalled
  rw [F.excAttr_ValueError.ga.bind (.ref ea)]
  refine wpAny_bind (wpAny_pure (wpAny_call (exc_ga ty kin x ?_)))
  exact wpAny_pure (wpAny_pure fin)
theorem kitx_exc (x : ExcK K C) : KitX K (.ref ea) (.ref C) (ExcIs ea (.ref C)) where
  ty := fun M h _ p => by
    obtain ⟨ob, h1, h2⟩ := p
    exact h2 ▸ (Looks.ld h1).andThen .now
  it := fun M h kin _ => by
    obtain ⟨c, d, k, sl, ho⟩ := x.cd
    intro A' Q' E' s' st q
    unfold isType loadHead
    exact wpAny_bind (wpAny_loadPart (st _ _ (kin _ _ ho)) (wpAny_pure q))
  ne := fun h tp dd its n sl kin htp => by
    obtain ⟨c, d, k, sl', ho⟩ := x.cd
    refine Bool.eq_false_iff.mpr fun q => ?_
    have e : C = tp := Value.ref.inj (beq_iff_eq.mp q)
    subst e
    have z := (kin _ _ ho).symm.trans htp
    cases z
  ca := fun kin p k => exc_class (fun M => by
    obtain ⟨ob, h1, h2⟩ := p
    exact h2 ▸ (Looks.ld h1).andThen .now) kin x k
end
def rIsiX (K : PySem.W.Frag) : List V → Hp → VK → Prop := fun xs H Q => ∃ a c cv C b, xs = [.ref a, c] ∧ clsV c = some cv ∧ H a = some (.ext (ExcIs a (.ref C))) ∧ ExcK K C ∧ PySem.W.kitOne K (.ref C) cv = some b ∧ Q (.bl b) H
theorem call_isiX {X : Cx} {K : PySem.W.Frag} (hK : X.K = K) : CallR X (.builtin "isinstance") (rIsiX K) := by
  subst hK
  intro pins s σ H xs us Q I r h
  obtain ⟨a, c, cv, C, b, rfl, hc, ha, hx, e, q⟩ := h
  obtain ⟨u, w', rfl, rx, rc⟩ := vals2 r
  have := clsV_rel hc rc
  subst this
  cases (show u = Value.ref a from rx)
  obtain ⟨p, _⟩ := (show ObjOk X.prog X.w H s.heap a (.ext (ExcIs a (.ref C))) from I.hok a _ ha)
  exact PySem.W.kia_one (kitx_exc hx) I.kIn p e (fun z => nomatch z) fun tk => ⟨.bl b, H, I.tok tk, rfl, q⟩
def rInsert0 : V → List V → Hp → VK → Prop := fun x vs H Q => ∃ l xs y, x = .ref l ∧ vs = [.int 0, y] ∧ H l = some (.lst xs) ∧ xs.length < sizeLine ∧ Q .non (upd H l (.lst (y :: xs)))
theorem mt_insert0 {X : Cx} : MtM X "list.insert" rInsert0 := by
  intro pins s σ H x vs v us Q I rx rv h
  obtain ⟨l, xs, y, rfl, rfl, hH, hz, q⟩ := h
  cases rx
  obtain ⟨u1, u2, rfl, r1, ru⟩ := vals2 rv
  obtain ⟨t, rfl⟩ := (show ∃ t, u1 = Value.int 0 t from r1)
  obtain ⟨z, its, n, r, hl, e⟩ := I.lstM hH
  have hsz : its.toArray.size ≤ sizeLine := by rw [List.size_toArray]; omega
  refine call_meets F.slot_list_insert ⟨_, e, rfl⟩ F.entry_list_insert (F.args_list_insert_3 _ _ _) (PySem.AutoListH.list_insert_list_int_val_1 l its.toArray n 0 t u2 (by decide) hsz) ⟨e, ?_⟩
  refine ⟨.non, _, I.lset (its' := u2 :: its) hH e (by simp) (.cons ru r) (by rw [List.length_cons]; omega), rfl, q⟩
def tFmtS (te : TE) : TE := fun σ H Q => te σ H fun x H1 => ∃ z : Str, x = .str z ∧ z.length ≤ sizeLine ∧ Q (.str z) H1
theorem pe_fmtS {X : Cx} {e : Expr} {te : TE} {pos : Pos} (he : PE X e te) : PE X (.FormattedValue e (-1) none pos) (tFmtS te) := by
  intro pins s σ H Q I h
  refine wpAny_FormattedValue_plain (thn (he pins s σ H _ I h) fun u s1 ⟨v, H1, I1, r, z, ez, hz, q⟩ => ?_)
  subst ez
  obtain ⟨t, rfl⟩ := r
  exact wpAny_formatField_str ⟨.str _, H1, I1, ⟨_, rfl⟩, q⟩ ⟨.str _, H1, I1.tok _, ⟨_, rfl⟩, q⟩ hz
def tFmtL (K : PySem.W.Frag) (te : TE) : TE := fun σ H Q => te σ H fun x H1 => ∃ (a : Addr) (ns : List Int), x = .ref a ∧ SqL K H1 a (ns.map V.int) ∧ ns.length ≤ 400 ∧ (∀ n ∈ ns, n.natAbs.log2 < 1920) ∧ ∀ y : Str, y.length ≤ 1000000 → Q (.str y) H1
theorem shows_ints : ∀ {ns : List Int}, (∀ n ∈ ns, n.natAbs.log2 < 1920) → PyData.showableAll (ns.map .int) = true ∧ PyData.hasDictAll (ns.map .int) = false ∧ ((PyData.shownAll (ns.map .int)).map (·.length)).sum ≤ 1921 * ns.length ∧ (PyData.shownAll (ns.map .int)).length = ns.length
  | [], _ => by simp [PyData.showableAll, PyData.hasDictAll, PyData.shownAll]
  | n :: ns, h => by
    obtain ⟨h1, h2, h3, h4⟩ := shows_ints (ns := ns) fun m hm => h m (List.mem_cons_of_mem _ hm)
    have hn := h n (List.mem_cons_self ..)
    have hl : (Str.ofString (toString n)).length ≤ 1921 := int_text_len_1921 hn
    refine ⟨?_, ?_, ?_, ?_⟩
    · simp only [List.map_cons, PyData.showableAll, PyData.showable, h1, decide_eq_true hn, Bool.and_self]
    · simp only [List.map_cons, PyData.hasDictAll, PyData.hasDict, h2, Bool.or_self]
    · simp only [List.map_cons, PyData.shownAll, PyData.shown, List.sum_cons, List.length_cons]
      omega
    · simp only [List.map_cons, PyData.shownAll, List.length_cons, h4]
theorem pe_fmtL {X : Cx} {e : Expr} {te : TE} {pos : Pos} (hg : X.A.guards = some []) (hu : X.A.units + 64 < cLine) (he : PE X e te) : PE X (.FormattedValue e (-1) none pos) (tFmtL X.K te) := by
  intro pins s σ H Q I h
  refine wpAny_FormattedValue_plain (thn (he pins s σ H _ I h) fun u s1 ⟨v, H1, I1, r, a, ns, ez, hq, hl, hn, q⟩ => ?_)
  subst ez
  cases (show u = Value.ref a from r)
  obtain ⟨as, ra⟩ := DRep.reads I1 (DRep.lst hq (DReps.ints ns)) (show RelV (.ref a) (.ref a) from rfl)
  obtain ⟨h1, h2, h3, h4⟩ := shows_ints hn
  have hlen : (PyData.shown (.list (ns.map .int))).length ≤ 1000000 := by
    have := listText_len_le (PyData.shownAll (ns.map .int))
    simp only [PyData.shown]
    omega
  have big : (1000000 : Nat) ≤ sizeLine := by decide
  have hd := depth_ints ns
  refine formatField_of_reads (h₀ := s1.heap) ra (by simp only [PyData.showable]; exact h1) (fun z => by simp only [PyData.hasDict] at z; rw [h2] at z; cases z) hg (by simp only [PyData.depth]; omega) (fun _ _ e => e) (fun h' u tk hk => ?_) (by omega)
  exact ⟨.str _, H1, I1.kept hk, ⟨_, rfl⟩, q _ hlen⟩
def tJoin3 (ta tb tc : TE) : TE := fun σ H Q => ta σ H fun x H1 => ∃ a, x = .str a ∧ a.length ≤ sizeLine ∧ tb σ H1 fun y H2 => ∃ b, y = .str b ∧ a.length + b.length ≤ sizeLine ∧ tc σ H2 fun z H3 => ∃ c, z = .str c ∧ a.length + b.length + c.length ≤ sizeLine ∧ Q (.str (Str.empty ++ a ++ b ++ c)) H3
theorem pe_join3 {X : Cx} {a b c : Expr} {ta tb tc : TE} {pos : Pos} (ha : PE X a ta) (hb : PE X b tb) (hc : PE X c tc) (he : evalEach [a, b, c] X.env = [eval a X.env, eval b X.env, eval c X.env] := by rfl) : PE X (.JoinedStr [a, b, c] pos) (tJoin3 ta tb tc) := by
  intro pins s σ H Q I h
  refine wpAny_JoinedStr ?_
  rw [he]
  refine thn (ha pins s σ H _ I h) fun u s1 ⟨v, H1, I1, r, z, ez, hz0, q⟩ => ?_
  subst ez
  obtain ⟨t, rfl⟩ := r
  refine ⟨z, t, rfl, by rw [strLen_empty]; exact hz0, ?_⟩
  refine thn (hb pins s1 σ H1 _ I1 q) fun u2 s2 ⟨v2, H2, I2, r2, z2, ez2, hz, q2⟩ => ?_
  subst ez2
  obtain ⟨t2, rfl⟩ := r2
  refine ⟨z2, t2, rfl, by rw [strLen_append, strLen_empty]; exact hz, ?_⟩
  refine thn (hc pins s2 σ H2 _ I2 q2) fun u3 s3 ⟨v3, H3, I3, r3, z3, ez3, hz3, q3⟩ => ?_
  subst ez3
  obtain ⟨t3, rfl⟩ := r3
  refine ⟨z3, t3, rfl, ?_, ?_, ⟨.str _, H3, I3.tok _, ⟨_, rfl⟩, q3⟩⟩
  · rw [strLen_append, strLen_append, strLen_empty]; exact hz3
  · rw [strLen_append, strLen_append, strLen_empty]; exact hz3
end L2
set_option Elab.async false
set_option linter.all false
set_option maxRecDepth 100000
namespace Lw
open PySem L2 PyProof.Rows Yd
def WfL (y : Ys) : Prop := ∀ t x, y.R t = some x → ∀ m ∈ x.2, Lim m
theorem WfL.e0 : WfL Ys.e0 := fun _ _ h => nomatch h
theorem WfL.chg {y : Ys} (h : WfL y) {d : Deed} (hd : d.ok) : WfL (chg y d).1 := by
  cases d with
  | set t n => unfold Lw.chg; dsimp only; by_cases e : (y.R t).isSome = true <;> simp only [e] <;> exact h
  | drop t => unfold Lw.chg; dsimp only; by_cases e : (y.S t).isSome = true <;> simp only [e] <;> exact h
  | rcp t s ms =>
    unfold Lw.chg
    dsimp only
    by_cases e : s ∈ good3
    · by_cases e2 : (y.S t).isSome = true
      · simp only [if_pos e, if_pos e2]; exact h
      · simp only [if_pos e, if_neg e2]
        intro u x hx
        have hx' : upF y.R t (some (s, ms)) u = some x := hx
        unfold upF at hx'
        by_cases q : u = t
        · rw [if_pos q] at hx'; cases hx'; exact hd.2.2
        · rw [if_neg q] at hx'; exact h u x hx'
    · simp only [if_neg e]; exact h
  | strike t =>
    unfold Lw.chg
    dsimp only
    by_cases e : (y.R t).isSome = true
    · simp only [e]
      intro u x hx
      have hx' : upF y.R t none u = some x := hx
      unfold upF at hx'
      by_cases q : u = t
      · rw [if_pos q] at hx'; cases hx'
      · rw [if_neg q] at hx'; exact h u x hx'
    · simp only [e]; exact h
  | lose t => unfold Lw.chg; dsimp only; by_cases e : (y.sh t).isSome = true <;> simp only [e] <;> exact h
  | make t => exact h
theorem WfL.step {y : Ys} (h : WfL y) {d : Deed} (hd : d.ok) : WfL (step y d).1 := by
  rcases isMake d with ⟨t, rfl⟩ | nm
  · exact h
  · rw [step_not nm]; exact h.chg hd
theorem WfL.after {y : Ys} (h : WfL y) : ∀ (ds : List Deed), (∀ d ∈ ds, d.ok) → WfL (after y ds) := by
  intro ds
  induction ds generalizing y with
  | nil => intro _; exact h
  | cons d ds ih => intro hd; exact ih (h.step (hd d (by simp))) fun e he => hd e (by simp [he])
theorem led_mk {g : Pg Str} : ∀ {l : List Int}, Led g l → (∀ x ∈ l.dropLast, ∃ p, g.R x = some p) ∧ ∀ x ∈ l.tail, ∃ y p, g.R y = some p ∧ x ∈ p.2
  | [], _ => ⟨fun _ h => by simp at h, fun _ h => by simp at h⟩
  | [a], _ => ⟨fun _ h => by simp at h, fun _ h => by simp at h⟩
  | a :: b :: r, ⟨⟨_, s, pre, post, e, _⟩, h⟩ => by
    obtain ⟨i1, i2⟩ := led_mk h
    refine ⟨fun x hx => ?_, fun x hx => ?_⟩
    · rw [List.dropLast_cons_cons] at hx
      rcases List.mem_cons.mp hx with rfl | hx
      · exact ⟨_, e⟩
      · exact i1 x hx
    · rcases List.mem_cons.mp hx with rfl | hx
      · exact ⟨a, _, e, by simp⟩
      · exact i2 x hx
theorem trail_lim {n : Nat} {y : Ys} (W : Wf n y) (hn : n ≤ 290) (L : WfL y) {t : Int} (ht : Lim t) {w : Str} {tr told : List Int} (e : (ask y t).2 = .fails w tr told) : (∀ x ∈ tr, Lim x) ∧ tr.length ≤ 400 := by
  obtain ⟨acc, AB⟩ := W.askedBy (by omega) t
  rcases AB.ans with ⟨v, e2, _⟩ | ⟨wy, tr', e2, fl⟩
  · rw [e2] at e; cases e
  rw [e2] at e
  cases e
  obtain ⟨_, mid, last, h1, h2, h3, h4⟩ := fl
  have h1' : tr = t :: mid := h1
  obtain ⟨i1, i2⟩ := led_mk h4
  refine ⟨fun x hx => ?_, ?_⟩
  · rw [h1'] at hx
    rcases List.mem_cons.mp hx with rfl | hx
    · exact ht
    · obtain ⟨u, p, e1, e2⟩ := i2 x hx
      exact L u p e1 x e2
  · obtain ⟨ks, k1, k2, _⟩ := W.key
    have nd : (t :: mid).dropLast.Nodup := by
      have h3' : Cause y.g wy (t :: mid).dropLast last := h3
      cases wy with
      | missing => exact (List.nodup_append.mp h3'.1).1
      | ring => exact h3'.1
      | noway => exact (List.nodup_append.mp h3'.1).1
    have := len_le_of_nodup nd fun x hx => let ⟨p, hp⟩ := i1 x hx; k2 x p hp
    rw [List.length_dropLast] at this
    rw [h1']
    omega
def MakeQ (c : Pc) (CF : Addr) (B : List Addr) (p a b z : Addr) (y : Ys) (t : Int) (n m : Nat) (H : Hp) (Q : VK) (E : XK) : Prop := match (ask y t).2 with
  | .made v _ => ∀ H', But3 a b z H H' → YdAt c B H' p a b z (ask y t).1 n (m + 300) → Q (.int v) H'
  | .fails _ _ _ => ∀ H', But3 a b z H H' → YdAt c B H' p a b z (ask y t).1 n (m + 300) → E (.ref CF) none H'
  | .word _ => False
def spMake (c : Pc) (CF : Addr) : Sp := fun vs H Q E => ∃ (B : List Addr) (p a b z : Addr) (y : Ys) (n m : Nat) (t : Int), vs = [.ref p, .int t] ∧ YdAt c B H p a b z y n m ∧ (∀ x ∈ B, H x ≠ none) ∧ Wf n y ∧ WfL y ∧ n ≤ 290 ∧ m ≤ 500000 ∧ Lim t ∧ MakeQ c CF B p a b z y t n m H Q E
end Lw
set_option Elab.async false
set_option linter.all false
set_option maxRecDepth 100000
namespace L2
open PySem PySem.Spec PyProof.Rows
theorem ix_listK {X : Cx} {K : PySem.W.Frag} (h : X.K = K) : IxR X (rIxL K) := by
  subst h
  exact ix_list
end L2
namespace Lw
open PySem L2 PyProof.Rows Yd
def DoneQ (c : Pc) (CF : Addr) (p a b z : Addr) (y : Ys) (d : Deed) (n m : Nat) (H : Hp) (Q : VK) (E : XK) : Prop :=
  (∀ t, d = .make t → MakeQ c CF [] p a b z y t n m H Q E) ∧ ((∀ t, d ≠ .make t) → match errW c (chg y d).2 with
    | none => ∀ H', But3 a b z H H' → YdAt c [] H' p a b z (chg y d).1 (n + 1) m → Q (.str "done") H'
    | some e => ∀ H', Same H H' → E (.ref e) none H')
def spDone (c : Pc) (CF : Addr) : Sp := fun vs H Q E => ∃ (p a b z : Addr) (y : Ys) (n m : Nat) (v : V) (d : Deed), vs = [.ref p, v] ∧ YdAt c [] H p a b z y n m ∧ Wf n y ∧ WfL y ∧ n ≤ 290 ∧ m ≤ 500000 ∧ DeedAt H v d ∧ d.ok ∧ DoneQ c CF p a b z y d n m H Q E
def AnsdAt (H : Hp) (u : V) : Ans → Prop
  | .word s => (s = "done" ∧ u = .str "done") ∨ (s ≠ "done" ∧ ∃ tp, u = .ref tp ∧ H tp = some (.tup [.str "refused", .str s]))
  | .made v _ => u = .int v
  | .fails _ _ _ => ∃ tp, u = .ref tp ∧ H tp = some (.tup [.str "refused", .str "fails"])
theorem AnsdAt.kp {H H' : Hp} {u : V} {x : Ans} (h : AnsdAt H u x) (k : Kp H H') : AnsdAt H' u x := by
  cases x with
  | word s =>
    rcases h with h | ⟨h1, tp, h2, h3⟩
    · exact .inl h
    · exact .inr ⟨h1, tp, h2, k.tup h3⟩
  | made n told => exact h
  | fails w tr told => obtain ⟨tp, h2, h3⟩ := h; exact ⟨tp, h2, k.tup h3⟩
def spAnsd (c : Pc) : Sp := fun vs H Q _ => ∃ (p a b z : Addr) (y : Ys) (n m : Nat) (v : V) (d : Deed), vs = [.ref p, v] ∧ YdAt c [] H p a b z y n m ∧ Wf n y ∧ WfL y ∧ n ≤ 290 ∧ m ≤ 500000 ∧ DeedAt H v d ∧ d.ok ∧
  ∀ (u : V) (H' : Hp), But3 a b z H H' → YdAt c [] H' p a b z (step y d).1 (n + 1) (m + 300) → AnsdAt H' u (step y d).2 → Q u H'
def refW : List Str := ["has recipe", "no source", "no sort", "is source", "no recipe", "not there", "fails"]
theorem refW_lay {s : Str} (h : s ∈ refW) : PyData.canLay0 (.str s) = true ∧ ¬ s = "done" := by
  have : ∀ s ∈ refW, PyData.canLay0 (.str s) = true ∧ ¬ s = "done" := by decide +kernel
  exact this s h
def spToldIs : Sp := fun vs H Q _ => ∃ (u : V) (due : Str), vs = [u, .str due] ∧ ((due = "done" ∧ u = .str "done") ∨ (due ∈ refW ∧ ∃ tp, u = .ref tp ∧ H tp = some (.tup [.str "refused", .str due]))) ∧ ∀ H', Same H H' → Q (.bl true) H'
structure PgY (K : PySem.W.Frag) (mg : Str → Option Value) (c : Pc) (CY CF : Addr) : Prop where
  mY : mg "YardError" = some (.ref CY)
  mF : mg "Fails" = some (.ref CF)
  xF : ExcC K CF
  under : ∀ C ∈ [c.SO, c.HR, c.IS, c.NS, c.NR, c.NT, CF], PySem.W.exmOne K (.ref C) (.ref CY) = some true ∧ PySem.W.kitOne K (.ref C) (.type "ValueError") = some true ∧ ExcK K C
  kit : ∀ (i j : Nat) (C D : Addr), [c.SO, c.HR, c.IS, c.NS, c.NR, c.NT, CF][i]? = some C → [c.SO, c.HR, c.IS, c.NS, c.NR, c.NT, CF][j]? = some D → PySem.W.kitOne K (.ref C) (.ref D) = some (decide (i = j))
def lookW (w : Str) (b : Bool) (x : Str) : Str := if b = true then (if w = "other" then x else "other") else w
def look7 (i : Nat) : Str := lookW (lookW (lookW (lookW (lookW (lookW (if decide (i = 0) = true then "no sort" else "other") (decide (i = 1)) "has recipe") (decide (i = 2)) "is source") (decide (i = 3)) "no source") (decide (i = 4)) "no recipe") (decide (i = 5)) "not there") (decide (i = 6)) "fails"
theorem look7_is : (∀ i < 7, look7 i = (["no sort", "has recipe", "is source", "no source", "no recipe", "not there", "fails"] : List Str).getD i "other") := by decide +kernel
theorem ix_look (w x : Str) : atI [V.str "other", V.str x] (if decide (V.str w = V.str "other") then 1 else 0) = some (.str (if w = "other" then x else "other")) := by
  by_cases h : w = "other"
  · rw [decide_eq_true (congrArg V.str h), if_pos h]; exact atI1 _ _ _
  · rw [decide_eq_false (fun z => h (V.str.inj z)), if_neg h]; exact atI0 _ _
end Lw
set_option Elab.async false
set_option linter.all false
set_option maxRecDepth 100000
namespace Lw
open PySem L2 PyProof.Rows Yd
theorem YAt.kpf {H H' : Hp} {a b c : Addr} {y : Ys} {n : Nat} (h : YAt H a b c y n) (k : Kp H H') (fr : ∀ x o, x = a ∨ x = b ∨ x = c → H x = some o → H' x = some o) : YAt H' a b c y n := by
  obtain ⟨⟨S, ⟨kS, s0, s1⟩, s2⟩, ⟨R, ⟨kR, r0, r1⟩, r2⟩, ⟨Z, ⟨kvs, z0, z1⟩, z2⟩, ab, ac, bc⟩ := h
  exact ⟨⟨S, ⟨kS, fr _ _ (.inl rfl) s0, s1⟩, s2⟩, ⟨R, ⟨kR, fr _ _ (.inr (.inl rfl)) r0, r1.imp fun _ _ q => q.kp k⟩, r2⟩, ⟨Z, ⟨kvs, fr _ _ (.inr (.inr rfl)) z0, z1.imp fun _ _ q => q.kp k⟩, z2⟩, ab, ac, bc⟩
def spChangedB : Sp := fun vs H Q _ => ∃ (a b c : Addr) (v : V) (y : Ys) (d : Deed) (n : Nat), vs = [.ref a, .ref b, .ref c, v] ∧ YAt H a b c y n ∧ n ≤ 1000 ∧ DeedAt H v d ∧ d.ok ∧ (∀ t, d ≠ .make t) ∧
  ∀ H', Kp H H' → But3 a b c H H' → YAt H' a b c (chg y d).1 (n + 1) → Q (.str (chg y d).2) H'
theorem chg_sh_not (y : Ys) {d : Deed} (h : ∀ t, d ≠ .lose t) : (chg y d).1.sh = y.sh := by
  cases d with
  | set t n => unfold chg; dsimp only; by_cases e : (y.R t).isSome = true <;> simp only [e] <;> rfl
  | drop t => unfold chg; dsimp only; by_cases e : (y.S t).isSome = true <;> simp only [e] <;> rfl
  | rcp t s ms =>
    unfold chg
    dsimp only
    by_cases e : s ∈ good3
    · by_cases e2 : (y.S t).isSome = true
      · simp only [if_pos e, if_pos e2]
      · simp only [if_pos e, if_neg e2]
    · simp only [if_neg e]
  | strike t => unfold chg; dsimp only; by_cases e : (y.R t).isSome = true <;> simp only [e] <;> rfl
  | lose t => exact absurd rfl (h t)
  | make t => rfl
theorem chg_word2 (y : Ys) {d : Deed} (h : ∀ t, d ≠ .lose t) : (chg { y with sh := fun _ => none } d).2 = (chg y d).2 := by
  cases d with
  | set t n => unfold chg; dsimp only; by_cases e : (y.R t).isSome = true <;> simp only [e] <;> rfl
  | drop t => unfold chg; dsimp only; by_cases e : (y.S t).isSome = true <;> simp only [e] <;> rfl
  | rcp t s ms =>
    unfold chg
    dsimp only
    by_cases e : s ∈ good3
    · by_cases e2 : (y.S t).isSome = true
      · simp only [if_pos e, if_pos e2]
      · simp only [if_pos e, if_neg e2]
    · simp only [if_neg e]
  | strike t => unfold chg; dsimp only; by_cases e : (y.R t).isSome = true <;> simp only [e] <;> rfl
  | lose t => exact absurd rfl (h t)
  | make t => rfl
theorem chg_ref (y : Ys) (d : Deed) : (chg y d).2 = "done" ∨ (chg y d).2 ∈ refW := by
  have : (chg y d).2 = "done" ∨ ((chg y d).2 = "has recipe" ∨ (chg y d).2 = "no source" ∨ (chg y d).2 = "no sort" ∨ (chg y d).2 = "is source" ∨ (chg y d).2 = "no recipe" ∨ (chg y d).2 = "not there") := by
    cases d with
    | set t n => unfold chg; dsimp only; by_cases e : (y.R t).isSome = true <;> simp only [e] <;> simp
    | drop t => unfold chg; dsimp only; by_cases e : (y.S t).isSome = true <;> simp only [e] <;> simp
    | rcp t s ms =>
      unfold chg
      dsimp only
      by_cases e : s ∈ good3
      · by_cases e2 : (y.S t).isSome = true
        · simp only [if_pos e, if_pos e2]; simp
        · simp only [if_pos e, if_neg e2]; simp
      · simp only [if_neg e]; simp
    | strike t => unfold chg; dsimp only; by_cases e : (y.R t).isSome = true <;> simp only [e] <;> simp
    | lose t => unfold chg; dsimp only; by_cases e : (y.sh t).isSome = true <;> simp only [e] <;> simp
    | make t => exact .inl rfl
  rcases this with h | h | h | h | h | h | h
  · exact .inl h
  all_goals (right; rw [h]; decide +kernel)
def y5 : Ys := { Ys.e0 with S := upF Ys.e0.S 5 (some 7) }
theorem y5_step : step Ys.e0 (.set 5 7) = (y5, .word "done") := rfl
theorem y5_wf : Wf 1 y5 := by
  have := Wf.e0.step (by decide) (.set 5 7) ⟨trivial, ⟨by decide, by decide⟩, fun m q => nomatch q⟩
  exact this
theorem y5_ask : (step y5 (.make 5)).2 = .made 7 [] := by
  have hv : visit y5.g 300 [] 5 [] = (.ok 7, []) := by
    show visit y5.g (299 + 1) [] 5 [] = (.ok 7, [])
    unfold visit
    rfl
  show (ask y5 5).2 = _
  unfold ask fuel
  dsimp only
  rw [hv]
  rfl
end Lw
set_option Elab.async false
set_option linter.all false
set_option maxRecDepth 100000
set_option maxHeartbeats 4000000
namespace Lw
open PySem L2 PyProof.Rows Yd
section
variable {P : Program} {w : World} {K : PySem.W.Frag} {mg : Str → Option Value} {base : Heap} {f : Addr} {fd : FuncData} {c : Pc}
theorem scLaw : FnScope ["_law_script", "_law_asked", "_law_found", "_law_yard", "_law_second", "_law_sources", "_law_recipes", "_law_shelf", "_law_k", "_law_deed", "_law_told", "_law_known", "_law_due"] ["_law_script"] (defScope sLaw) := ⟨rfl, rfl, rfl, by decide +kernel, rfl, by decide +kernel, by decide +kernel⟩
structure N9 (c : Pc) (H : Hp) (p a b z p2 a2 b2 z2 sa ra za : Addr) (y : Ys) (i : Nat) : Prop where
  one : YdAt c [] H p a b z y i (300 * i)
  two : YdAt c [] H p2 a2 b2 z2 y5 1 300
  law : YAt H sa ra za y i
  d1 : ∀ x, x = a ∨ x = b ∨ x = z → x ≠ a2 ∧ x ≠ b2 ∧ x ≠ z2 ∧ x ≠ sa ∧ x ≠ ra ∧ x ≠ za
  d2 : ∀ x, x = a2 ∨ x = b2 ∨ x = z2 → x ≠ sa ∧ x ≠ ra ∧ x ≠ za
theorem YdAt.dicts {B : List Addr} {H : Hp} {p a b z : Addr} {y : Ys} {n m : Nat} (h : YdAt c B H p a b z y n m) : ∀ x, x = a ∨ x = b ∨ x = z → ∃ k, H x = some (.dK k) := fun x hx => by
  obtain ⟨_, ⟨S', ⟨ks', s0', _⟩, _⟩, ⟨kr', R', r1', _⟩, ⟨kz', Z', z1', _⟩, _⟩ := h
  rcases hx with rfl | rfl | rfl
  · exact ⟨_, s0'⟩
  · exact ⟨_, r1'⟩
  · exact ⟨_, z1'⟩
theorem ok_law (F : At K mg "law" sLaw f fd) (B : Blt mg) (G : PgK K mg c) (Dat : Own P w K mg base "_law_at" 1 ["_law_script", "_law_k"] (spAt K)) (Dup : Own P w K mg base "_law_upto" 1 ["_law_script", "_law_small", "_law_great"] (spUpto K)) (Dyd : Own P w K mg base "_law_yard_deeds" 3 ["_law_cells", "_law_first"] (spDeeds2 K))
    (Dcp : Own P w K mg base "_law_copy" 1 ["_law_asked"] spCopy) (Dch : Own P w K mg base "_law_changed" 1 ["_law_sources", "_law_recipes", "_law_shelf", "_law_deed"] spChangedB) (Dkn : Own P w K mg base "_law_knowable" 2 ["_law_sources", "_law_recipes"] spKnowable) (Dia : Own P w K mg base "_law_is_answer" 3 ["_law_found"] spIsAns)
    (Dto : Own P w K mg base "_law_told_right" 1 ["_law_told", "_law_shelf", "_law_known", "_law_recipes"] spTold) (Dwh : Own P w K mg base "_law_whole" 1 ["_law_found"] spWhole) (Dti : Own P w K mg base "_law_told_is" 1 ["_law_told", "_law_due"] spToldIs) (Dad : Own P w K mg base "_law_answered" 8 ["_law_yard", "_law_deed"] (spAnsd c)) (Dmk : MkC P w K mg base c.Y "Yard" 1 ["self"] (spYdInit c))
    (Dan : Own P w K mg base "answers" 40 ["deeds"] spAnswers) : FnOk P w K mg base CX0 41 f fd ["_law_script"] (spLaw K) := by
  refine F.fn.ok scLaw (fun vs H Q E h => ?_) (fun cdv A outer s H vs Q E hr h => ?_)
  · obtain ⟨a, ns, rfl, _⟩ := h
    rfl
  · obtain ⟨a0, ns, rfl, hS, hlen, k⟩ := h
    have sc := scLaw
    have hu := units_of hr
    have hu1 := Nat.lt_of_le_of_lt (Nat.add_le_add_left (by decide : 1 ≤ 64) _) hu
    have hr1 : Room 1 _ := hr.mono (by decide)
    have hr2 : Room 2 _ := hr.mono (by decide)
    have hr3 : Room 3 _ := hr.mono (by decide)
    have hr8 : Room 8 _ := hr.mono (by decide)
    have big := lineM
    have zz2 : 2 ≤ sizeLine := by omega
    have zz3 : 3 ≤ sizeLine := by omega
    refine ⟨_, (pss_cons (ps_set (i := 0) sc.nd rfl (Or.inl rfl) (pe_slice sl_list (pv 0) po_none (po_some pe_int)))
      (pss_cons (ps_set (i := 1) sc.nd rfl (Or.inl rfl) (pe_own Dyd hr3 rfl (pa_cons (pe_slice sl_list (pv 0) (po_some pe_int) (po_some (pe_own Dup hr1 rfl (pa_cons (pv 0) (pa_cons pe_int (pa_cons pe_int pa_nil)))))) (pa_cons (pe_own Dat hr1 rfl (pa_cons (pv 0) (pa_cons pe_int pa_nil))) pa_nil))))
      (pss_cons (ps_set (i := 2) sc.nd rfl (Or.inl rfl) (pe_own Dan hr rfl (pa_cons (pe_own Dcp hr1 rfl (pa_cons (pv 1) pa_nil)) pa_nil)))
      (pss_cons (ps_set (i := 3) sc.nd rfl (Or.inl rfl) (pe_mk0 Dmk hr2 rfl))
      (pss_cons (ps_set (i := 4) sc.nd rfl (Or.inl rfl) (pe_mk0 Dmk hr2 rfl))
      (pss_cons (ps_if (pt_cmpR op_ne (pe_own Dad hr8 rfl (pa_cons (pv 4) (pa_cons (pe_tup (pa_cons pe_str (pa_cons pe_int (pa_cons pe_int pa_nil)))) pa_nil))) pe_str (nomark _)) (pss_one (ps_ret pe_bl)) pss_nil)
      (pss_cons (ps_set (i := 5) sc.nd rfl (Or.inl rfl) pe_dnewK)
      (pss_cons (ps_set (i := 6) sc.nd rfl (Or.inl rfl) pe_dnewK)
      (pss_cons (ps_set (i := 7) sc.nd rfl (Or.inl rfl) pe_dnewK)
      (pss_cons (ps_if (PW.pt (pw_or (pt_not (pt_val (pe_callB (call_isiK (K := K) rfl) rfl B.isi boot_isinstance (pa_cons (pv 2) (pa_cons (pe_bltn (v := .ty "list") rfl B.list boot_list rfl) pa_nil))))) (pw_or1 (pt_cmpR op_ne (pe_callB call_len_seq rfl B.len boot_len (pa_cons (pv 2) pa_nil)) (pe_callB call_len_seq rfl B.len boot_len (pa_cons (pv 1) pa_nil)) (nomark _))))) (pss_one (ps_ret pe_bl)) pss_nil)
      (pss_cons (ps_for PassesOwn.never rfl (pi_range1 rfl B.range (pa_cons (pe_callB call_len_seq rfl B.len boot_len (pa_cons (pv 1) pa_nil)) pa_nil)) (pg_name (i := 8) sc.nd rfl (Or.inl rfl)) (pss_cons (ps_set (i := 9) sc.nd rfl (Or.inl rfl) (pe_ix ix_list (pv 1) (pv 8) (fun _ _ => rfl)))
      (pss_cons (ps_set (i := 10) sc.nd rfl (Or.inl rfl) (pe_own Dad hr8 rfl (pa_cons (pv 3) (pa_cons (pv 9) pa_nil))))
      (pss_one (ps_if (pt_cmpR op_eq (pe_ix ix_tup (pv 9) pe_int (fun _ _ => rfl)) pe_str (nomark _)) (pss_cons (ps_if (pt_not (pt_val (pe_own Dia hr3 rfl (pa_cons (pe_ix ix_list (pv 2) (pv 8) (fun _ _ => rfl)) pa_nil)))) (pss_one (ps_ret pe_bl)) pss_nil)
      (pss_cons (ps_set (i := 11) sc.nd rfl (Or.inl rfl) (pe_own Dkn hr2 rfl (pa_cons (pv 5) (pa_cons (pv 6) pa_nil))))
      (pss_cons (ps_if (pt_not (pt_val (pe_own Dto hr1 rfl (pa_cons (pe_ix ix_tup (pe_ix ix_list (pv 2) (pv 8) (fun _ _ => rfl)) (pe_un un_neg pe_int) (fun _ _ => rfl)) (pa_cons (pv 7) (pa_cons (pv 11) (pa_cons (pv 6) pa_nil))))))) (pss_one (ps_ret pe_bl)) pss_nil)
      (pss_cons (ps_set (i := 12) sc.nd rfl (Or.inl rfl) (pe_dget2 hu1 (pv 11) (pe_ix ix_tup (pv 9) pe_int (fun _ _ => rfl)) pe_non ⟨rfl, rfl, rfl, rfl⟩))
      (pss_cons (ps_if (PW.pt (pw_and (pt_cmp (pc_isN (pv 12))) (pw_and1 (pt_not (pt_val (pe_own Dti hr1 rfl (pa_cons (pv 10) (pa_cons pe_str pa_nil)))))))) (pss_one (ps_ret pe_bl)) pss_nil)
      (pss_one (ps_if (PW.pt (pw_and (pt_cmp (pc_notN (pv 12))) (pw_and1 (PW.pt (pw_or (pt_not (pt_val (pe_own Dwh hr1 rfl (pa_cons (pv 10) pa_nil)))) (pw_or1 (pt_cmpR op_ne (pv 10) (pv 12) (nomark _)))))))) (pss_one (ps_ret pe_bl)) pss_nil))))))) (pss_one (ps_if (pt_cmpR op_ne (pe_ix ix_tup (pv 9) pe_int (fun _ _ => rfl)) pe_str (nomark _)) (pss_cons (ps_set (i := 12) sc.nd rfl (Or.inl rfl) (pe_own Dch hr1 rfl (pa_cons (pv 5) (pa_cons (pv 6) (pa_cons pe_dnewK (pa_cons (pv 9) pa_nil))))))
      (pss_one (ps_if (pt_not (pt_val (pe_own Dti hr1 rfl (pa_cons (pv 10) (pa_cons (pv 12) pa_nil))))) (pss_one (ps_ret pe_bl)) pss_nil))) (pss_cons (ps_set (i := 12) sc.nd rfl (Or.inl rfl) (pe_ix ix_list (pe_lst (pa_cons pe_str (pa_cons pe_str pa_nil))) (pe_callTy call_int1 rfl B.int boot_int (pa_cons (pe_cmp (pc_din hu1 (pe_ix ix_tup (pv 9) pe_int (fun _ _ => rfl)) (pv 7))) pa_nil)) (fun _ _ => rfl)))
      (pss_cons (ps_if (pt_not (pt_val (pe_own Dti hr1 rfl (pa_cons (pv 10) (pa_cons (pv 12) pa_nil))))) (pss_one (ps_ret pe_bl)) pss_nil)
      (pss_one (ps_if (pt_cmp (pc_din hu1 (pe_ix ix_tup (pv 9) pe_int (fun _ _ => rfl)) (pv 7))) (pss_one (ps_expr (pe_dpop1 (pv 7) (pe_ix ix_tup (pv 9) pe_int (fun _ _ => rfl)) ⟨rfl, rfl, rfl, rfl⟩))) pss_nil)))))))))))
      (pss_cons (ps_set (i := 10) sc.nd rfl (Or.inl rfl) (pe_own Dad hr8 rfl (pa_cons (pv 4) (pa_cons (pe_tup (pa_cons pe_str (pa_cons pe_int pa_nil))) pa_nil))))
      (pss_one (ps_ret (pe_and (pe_own Dwh hr1 rfl (pa_cons (pv 10) pa_nil)) (pe_one (pe_cmpR op_eq (pv 10) pe_int (nomark _)))))))))))))))))), ?_⟩
    refine ⟨_, rfl, 1000, rfl, a0, _, rfl, hS, fun sp hsp => ?_⟩
    rw [show (1000 : Int) = ((1000 : Nat) : Int) from rfl, cutAll ns 1000 (by omega)]
    have hsp1 : (upd H sp (.lst (ns.map V.int))) sp = some (.lst (ns.map V.int)) := upd_same
    refine ⟨_, rfl, 1, rfl, _, rfl, sp, ns, _, _, rfl, SqL.of hsp1, hlen, 41, rfl, sp, _, rfl, SqL.of hsp1, fun ce hce => ?_⟩
    rw [show (1 : Int) = ((1 : Nat) : Int) from rfl, show (41 : Int) = ((41 : Nat) : Int) from rfl, cutBoth ns 1 41]
    have s1 := Same.upd hce (o := .lst (((ns.drop 1).take (41 - 1)).map V.int))
    have hcl : ((ns.drop 1).take (41 - 1)).length ≤ 40 := by simp; omega
    generalize (ns.drop 1).take (41 - 1) = cs at s1 hcl
    refine ⟨_, rfl, sp, ns, 0, rfl, SqL.of (s1 _ _ hsp1), ?_⟩
    refine ⟨ce, cs, _, rfl, SqL.of upd_same, by omega, fun aq ds H1 sm1 hds hok hdl _ => ?_⟩
    have hdl2 : ds.length ≤ 200 := by omega
    refine ⟨_, rfl, aq, ds, rfl, hds, ⟨hdl2, hok⟩, fun hq H2 sm2 hds2 => ?_⟩
    refine ⟨hq, ds, rfl, hds2, hok, hdl2, fun fq as H3 sm3 hfq3 has3 => ?_⟩
    have hds3 : DeedsAt H3 aq ds := (hds.same sm2).same sm3
    refine fun p dp hp hdp hne => ?_
    have t0 : Same H3 (upd (upd H3 dp (.own p)) p (.ins c.Y dp [])) := fun b' o' e' => by rw [upd_ne (ne_of_none e' hp), upd_ne (ne_of_none e' hdp)]; exact e'
    refine ⟨p, dp, rfl, upd_same, fun a b z H3a ha hb hz bt Y0 => ⟨rfl, ?_⟩⟩
    have t1 : Same H3 H3a := fun b' o' e' => bt b' o' (ne_of_none e' hp) (t0 _ _ e')
    refine fun p2 dp2 hp2 hdp2 hne2 => ?_
    have t2 : Same H3a (upd (upd H3a dp2 (.own p2)) p2 (.ins c.Y dp2 [])) := fun b' o' e' => by rw [upd_ne (ne_of_none e' hp2), upd_ne (ne_of_none e' hdp2)]; exact e'
    refine ⟨p2, dp2, rfl, upd_same, fun a2 b2 z2 H3b ha2 hb2 hz2 bt2 Y02 => ⟨rfl, ?_⟩⟩
    have t3 : Same H3a H3b := fun b' o' e' => bt2 b' o' (ne_of_none e' hp2) (t2 _ _ e')
    have ha2' : H3a a2 = none := t2.free ha2
    have hb2' : H3a b2 = none := t2.free hb2
    have hz2' : H3a z2 = none := t2.free hz2
    have Y1 := (Y0 []).same t3
    have dd1 : ∀ x, x = a ∨ x = b ∨ x = z → x ≠ a2 ∧ x ≠ b2 ∧ x ≠ z2 := fun x hx => by
      obtain ⟨kx, hkx⟩ := (Y0 []).dicts x hx
      exact ⟨ne_of_none hkx ha2', ne_of_none hkx hb2', ne_of_none hkx hz2'⟩
    refine ⟨_, rfl, zz3, fun tq htq => ?_⟩
    have t4 := Same.upd htq (o := .tup [.str "set", .int 5, .int 7])
    refine ⟨p2, a2, b2, z2, Ys.e0, 0, 0, .ref tq, .set 5 7, rfl, (Y02 []).same t4, Wf.e0, WfL.e0, by decide, by decide, ⟨tq, 0, rfl, upd_same, trivial⟩, ⟨trivial, ⟨by decide, by decide⟩, fun m q => nomatch q⟩, fun u H4 b3 Y2 an => ?_⟩
    rw [y5_step] at Y2 an
    have eu : u = .str "done" := by
      rcases an with ⟨_, h⟩ | ⟨h, _⟩
      · exact h
      · exact absurd rfl h
    subst eu
    refine ⟨rfl, _, rfl, ?_⟩
    refine ite2 (fun e => absurd e (by decide +kernel)) (fun _ => ?_)
    have kp4 : Kp H3b H4 := (Kp.of t4).trans (b3.kp ((Y02 []).same t4))
    have Y1b : YdAt c [] H4 p a b z Ys.e0 0 0 := by
      have Y1' := Y1.same t4
      refine Y1'.kp (Kp.kpB (b3.kp ((Y02 []).same t4))) fun x o' hx e' => b3 x o' (dd1 x hx).1 (dd1 x hx).2.1 (dd1 x hx).2.2 e'
    have s34 : Kp H3 H4 := (Kp.of (t1.trans t3)).trans kp4
    have hfq4 := s34.lst hfq3
    have has4 := has3.imp fun _ _ q => AnsAt.kp q s34
    have hdsA : DeedsAt H4 aq ds := hds3.kp s34
    obtain ⟨vs, haq4, hvs4⟩ := hdsA
    have hal := has4.len
    rw [run_len] at hal
    have hvl := hvs4.len
    refine fun sa hsa => ?_
    refine fun ra hra => ?_
    refine fun za hza => ?_
    have YL := YAt.start hsa hra hza
    have sL : Same H4 (upd (upd (upd H4 sa (.dK [])) ra (.dK [])) za (.dK [])) := ((Same.upd hsa).step hra).step hza
    have kp0 : Kp H4 (upd (upd (upd H4 sa (.dK [])) ra (.dK [])) za (.dK [])) := Kp.of sL
    have hra0 : H4 ra = none := (Same.upd hsa).free hra
    have hza0 : H4 za = none := ((Same.upd hsa).step hra).free hza
    have N0 : N9 c (upd (upd (upd H4 sa (.dK [])) ra (.dK [])) za (.dK [])) p a b z p2 a2 b2 z2 sa ra za Ys.e0 0 := by
      refine ⟨Y1b.same sL, Y2.same sL, YL, fun x hx => ?_, fun x hx => ?_⟩
      · obtain ⟨kx, hkx⟩ := Y1b.dicts x hx
        obtain ⟨q1, q2, q3⟩ := dd1 x hx
        exact ⟨q1, q2, q3, ne_of_none hkx hsa, ne_of_none hkx hra0, ne_of_none hkx hza0⟩
      · obtain ⟨kx, hkx⟩ := Y2.dicts x hx
        exact ⟨ne_of_none hkx hsa, ne_of_none hkx hra0, ne_of_none hkx hza0⟩
    have hfq0 := sL _ _ hfq4
    have haq0 := sL _ _ haq4
    refine ⟨_, rfl, _, _, _, _, _, rfl, rfl, .inl (.lst hfq0), kit_ll K, _, rfl, iteF ?_⟩
    refine ⟨_, rfl, fq, _, rfl, .inl (SqL.of hfq0), _, rfl, aq, _, rfl, .inl (SqL.of haq0), rfl, _, rfl, ?_⟩
    rw [decide_eq_true (show V.int (as.length : Int) = V.int (vs.length : Int) by rw [hal, hvl])]
    refine iteF ?_
    refine ⟨_, rfl, aq, _, rfl, .inl (SqL.of haq0), _, rfl, by omega, by omega, ?_⟩
    rw [show ((vs.length : Nat) : Int).toNat = vs.length by simp]
    refine for_range (fun i σ H5 => ∃ (v8 v9 v10 v11 v12 : Option V), σ = [some (.ref sp), some (.ref aq), some (.ref fq), some (.ref p), some (.ref p2), some (.ref sa), some (.ref ra), some (.ref za), v8, v9, v10, v11, v12] ∧ Kp H4 H5 ∧ N9 c H5 p a b z p2 a2 b2 z2 sa ra za (after Ys.e0 (ds.take i)) i) ⟨none, none, none, none, none, rfl, kp0, N0⟩ ?_ ?_
    · rintro i σ H5 hi ⟨v8, v9, v10, v11, v12, rfl, kp, N⟩
      have hvi : vs[i]? = some vs[i] := List.getElem?_eq_getElem hi
      obtain ⟨d, hd, hat⟩ := all2_get hvs4 i _ hvi
      have Wy := wf_take hok hdl2 (show i ≤ ds.length by omega)
      have Wi : Wf i (after Ys.e0 (ds.take i)) := by
        have hlt : (ds.take i).length = i := by rw [List.length_take]; omega
        have := Wf.e0.after (ds.take i) (by rw [hlt]; omega) fun d hd => hok d (List.mem_of_mem_take hd)
        rw [hlt, Nat.zero_add] at this
        exact this
      have WL : WfL (after Ys.e0 (ds.take i)) := WfL.e0.after _ fun d hd => hok d (List.mem_of_mem_take hd)
      have hok' := hok d (List.mem_of_getElem? hd)
      obtain ⟨av, hav, hans⟩ := all2_get' has4 i _ (run_ix d ds Ys.e0 i hd)
      have hat5 := hat.kp kp
      have hans5 := hans.kp kp
      have haq5 := kp.lst haq4
      rw [after_take hd]
      clear hans
      revert N Wy Wi WL hans5
      generalize after Ys.e0 (ds.take i) = y
      intro N Wy Wi WL hans5
      have hat5' := hat5
      obtain ⟨ad, l, ead, had, hmk⟩ := hat5'
      obtain ⟨x0, r0, e0, iff0⟩ := row0m d l
      have ixA : atI vs (0 + (i : Int)) = some (.ref ad) := by rw [Int.zero_add, ← ead]; exact atI_nat hvi
      have ixF : atI as (0 + (i : Int)) = some av := by rw [Int.zero_add]; exact atI_nat hav
      refine ⟨_, rfl, _, rfl, aq, _, _, _, rfl, rfl, SqL.of haq5, ixA, ?_⟩
      refine ⟨_, rfl, _, rfl, p, a, b, z, y, i, 300 * i, .ref ad, d, rfl, N.one, Wi, WL, by omega, by omega, by rw [← ead]; exact hat5, hok', fun u H6 b3 Y1' an => ?_⟩
      have kp6 : Kp H5 H6 := b3.kp N.one
      have Y2' : YdAt c [] H6 p2 a2 b2 z2 y5 1 300 := N.two.kp kp6.kpB fun x o' hx e' => by
        have q : ∀ w, w = a ∨ w = b ∨ w = z → x ≠ w := fun w hw e => by
          obtain ⟨q1, q2, q3, _⟩ := N.d1 w hw
          rcases hx with h | h | h
          · exact q1 (e ▸ h)
          · exact q2 (e ▸ h)
          · exact q3 (e ▸ h)
        exact b3 x o' (q a (.inl rfl)) (q b (.inr (.inl rfl))) (q z (.inr (.inr rfl))) e'
      have YL' : YAt H6 sa ra za y i := N.law.kpf kp6 fun x o' hx e' => by
        have q : ∀ w, w = a ∨ w = b ∨ w = z → x ≠ w := fun w hw e => by
          obtain ⟨_, _, _, q1, q2, q3⟩ := N.d1 w hw
          rcases hx with h | h | h
          · exact q1 (e ▸ h)
          · exact q2 (e ▸ h)
          · exact q3 (e ▸ h)
        exact b3 x o' (q a (.inl rfl)) (q b (.inr (.inl rfl))) (q z (.inr (.inr rfl))) e'
      have Y1'' : YdAt c [] H6 p a b z (step y d).1 (i + 1) (300 * (i + 1)) := Y1'.le (Nat.le_refl _) (by omega)
      have kp46 := kp.trans kp6
      have had6 := kp6.tup had
      have hfq6 := kp46.lst hfq4
      have hans6 := hans5.kp kp6
      have fin : ∀ (H9 : Hp) (σ' : L2.St) (v9 v10 v11 v12 : Option V), Kp H6 H9 → (∀ x o', x ≠ sa → x ≠ ra → x ≠ za → H6 x = some o' → H9 x = some o') → YAt H9 sa ra za (step y d).1 (i + 1) → σ' = [some (.ref sp), some (.ref aq), some (.ref fq), some (.ref p), some (.ref p2), some (.ref sa), some (.ref ra), some (.ref za), some (.int (0 + (i : Int))), v9, v10, v11, v12] →
          ∃ (v8 v9 v10 v11 v12 : Option V), σ' = [some (.ref sp), some (.ref aq), some (.ref fq), some (.ref p), some (.ref p2), some (.ref sa), some (.ref ra), some (.ref za), v8, v9, v10, v11, v12] ∧ Kp H4 H9 ∧ N9 c H9 p a b z p2 a2 b2 z2 sa ra za (step y d).1 (i + 1) := fun H9 σ' v9 v10 v11 v12 k69 fr9 YL9 e => by
        refine ⟨_, _, _, _, _, e, kp46.trans k69, ⟨?_, ?_, YL9, N.d1, N.d2⟩⟩
        · exact Y1''.kp k69.kpB fun x o' hx e' => fr9 x o' (N.d1 x hx).2.2.2.1 (N.d1 x hx).2.2.2.2.1 (N.d1 x hx).2.2.2.2.2 e'
        · exact Y2'.kp k69.kpB fun x o' hx e' => fr9 x o' (N.d2 x hx).1 (N.d2 x hx).2.1 (N.d2 x hx).2.2 e'
      refine ⟨_, rfl, ad, _, _, _, rfl, rfl, SqT.of had6, by rw [e0]; exact atI0 _ _, rfl, _, rfl, ?_⟩
      rcases isMake d with ⟨t, rfl⟩ | nm
      · cases e0
        refine ite2 (fun _ => ?_) (fun e => absurd (by decide +kernel) e)
        obtain ⟨acc, AB⟩ := Wy.askedBy (by decide) t
        refine ⟨_, rfl, _, rfl, fq, _, _, _, rfl, rfl, SqL.of hfq6, ixF, av, _, rfl, hans6, AB.notword, _, rfl, iteF ?_⟩
        have Y' := YL'
        obtain ⟨⟨S, hS5, fS, lS⟩, ⟨R, hR5, fR, nR, lR⟩, ⟨Z, hZ5, fZ, nZ, lZ⟩, ab, ac, bc⟩ := Y'
        refine ⟨_, rfl, _, rfl, sa, ra, S, R, y.g, rfl, hS5, hR5, fS, fR, rfl, nR, by omega, by omega, fun t x e => Wy.srt t x (by rw [← fR, e]), fun kq Nn H7 hkq sm7 hN iffN => ?_⟩
        have hans7 : AnsAt H7 av (ask y t).2 := hans6.kp (Kp.of sm7)
        obtain ⟨aa, tl, s0, r1, rfl, haa, htl, hmf⟩ := AB.at hans7
        have hfq7 := sm7 _ _ hfq6
        have hR6 := hR5.same sm7
        have hZ6 := hZ5.same sm7
        have TK := Wy.tok fR fZ nZ
        have eR : fnd R = y.R := funext fR
        have eRg : fnd R = y.g.R := eR
        have eZ : fnd Z = y.sh := funext fZ
        have eN : ∀ t v, fnd Nn t = some v ↔ Known y.g t v := iffN
        have YY := YL'.same sm7
        have nkz : kq ≠ za := by
          obtain ⟨kz, hkz, _⟩ := hZ5
          exact (ne_of_none hkz hkq).symm
        obtain ⟨kZ6, hkZ6, _⟩ := id hZ6
        have hTl := AB.len
        obtain ⟨hto, htf⟩ := told_all (N := fnd Nn) eN y.sh AB.good
        rw [← eRg, ← eZ] at hto htf
        rw [eZ] at hto htf
        refine ⟨_, rfl, _, rfl, fq, _, _, _, rfl, rfl, SqL.of hfq7, ixF, _, rfl, aa, _, _, _, rfl, rfl, SqT.of haa, at_last _ _ _, _, rfl, _, rfl, _, rfl, tl, za, kq, ra, toldOf y.sh acc, Z, Nn, R, rfl, htl, hZ6, hN, hR6, nkz, bc, TK, by omega, by rw [eZ]; exact hto, fun Z8 H8 sb hZ8 fZ8 T8 l8 => ⟨_, rfl, iteF ?_⟩⟩
        have hsh : fnd Z8 = shOf y.sh acc := by
          funext u
          rw [fZ8 u, eZ, htf]
        have kp8 := sb.kp hkZ6
        have k68 : Kp H6 H8 := (Kp.of sm7).trans kp8
        have had8 := k68.tup had6
        have YL8 : YAt H8 sa ra za (step y (.make t)).1 (i + 1) := by
          rw [show (step y (.make t)).1 = { y with sh := shOf y.sh acc } from AB.st]
          exact YY.told sb hZ8 (fun u => by rw [hsh]) T8.nd (by omega) (Nat.le_succ _) rfl rfl
        have fr8 : ∀ x o', x ≠ sa → x ≠ ra → x ≠ za → H6 x = some o' → H8 x = some o' := fun x o' _ _ n3 e' => sb x o' n3 (sm7 _ _ e')
        obtain ⟨kN, hkN, rN⟩ := hN
        have hkN8 := sb _ _ nkz hkN
        refine ⟨_, rfl, kq, rfl, .inl ⟨kN, .inl hkN8⟩, _, rfl, ad, _, _, _, rfl, rfl, SqT.of had8, atI1 _ _ _, _, DGet.k (k := .inl t) hkN8, ?_⟩
        have an' : AnsdAt H8 u (ask y t).2 := AnsdAt.kp an k68
        rcases Wi.asked (by omega) t with ⟨v, told, e, hk⟩ | ⟨wd, tr, told, e, hk⟩
        · rw [e] at an'
          have eu : u = .int v := an'
          subst eu
          rcases rN.val t with ⟨g1, g2⟩ | ⟨n', v', g1, g2, g3⟩
          · rw [(iffN t v).mpr hk] at g1; cases g1
          have en : v' = .int v := by rw [(iffN t v).mpr hk] at g1; cases g1; exact g3
          subst en
          rw [g2]
          refine ⟨_, rfl, _, rfl, iteF (iteF ?_)⟩
          refine ⟨_, rfl, _, rfl, iteT ?_⟩
          refine ⟨_, rfl, v, rfl, _, rfl, iteF ?_⟩
          refine ⟨_, rfl, _, rfl, rfl, _, rfl, ?_⟩
          rw [show decide (V.int v = (some (V.int v)).getD V.non) = true from decide_eq_true rfl]
          exact iteF (fin H8 _ _ _ _ _ k68 fr8 YL8 rfl)
        · rw [e] at an'
          obtain ⟨tp, rfl, htp⟩ := an'
          have g2 : valV kN (.inl t) = none := by
            rcases rN.val t with ⟨_, g2⟩ | ⟨n', v', g1, _, _⟩
            · exact g2
            · exact absurd ⟨n', (iffN t n').mp g1⟩ hk
          rw [g2]
          refine ⟨_, rfl, _, rfl, iteT ?_⟩
          refine ⟨_, rfl, .ref tp, "fails", rfl, .inr ⟨by decide +kernel, tp, rfl, htp⟩, fun H9 s9 => ⟨_, rfl, iteF ?_⟩⟩
          refine ⟨_, rfl, _, rfl, iteF (iteF ?_)⟩
          exact fin H9 _ _ _ _ _ (k68.trans (Kp.of s9)) (fun x o' n1 n2 n3 e' => s9 _ _ (fr8 x o' n1 n2 n3 e')) (YL8.same s9) rfl
      · have hne : ¬ x0 = "make" := fun z => let ⟨t, e⟩ := iff0.mp z; nm t e
        refine ite2 (fun e => absurd (V.str.inj (of_decide_eq_true e)) hne) (fun _ => ?_)
        have estep : step y d = ((chg y d).1, .word (chg y d).2) := step_not nm
        have an0 : AnsdAt H6 u (.word (chg y d).2) := by rw [estep] at an; exact an
        refine ⟨_, rfl, ad, _, _, _, rfl, rfl, SqT.of had6, by rw [e0]; exact atI0 _ _, rfl, _, rfl, ?_⟩
        have told : ∀ H9, Kp H6 H9 → ((chg y d).2 = "done" ∧ u = .str "done") ∨ ((chg y d).2 ∈ refW ∧ ∃ tp, u = .ref tp ∧ H9 tp = some (.tup [.str "refused", .str (chg y d).2])) := fun H9 k9 => by
          rcases an0 with ⟨h1, h2⟩ | ⟨h1, tp, h2, h3⟩
          · exact .inl ⟨h1, h2⟩
          · exact .inr ⟨(chg_ref y d).resolve_left h1, tp, h2, k9.tup h3⟩
        by_cases hlo : ∃ t, d = .lose t
        · obtain ⟨t, rfl⟩ := hlo
          cases e0
          refine ite2 (fun e => absurd e (by decide +kernel)) (fun _ => ?_)
          obtain ⟨⟨S, hS5, fS, lS⟩, ⟨R, hR5, fR, nR, lR⟩, ⟨Z, ⟨kZ, hkZ, rZ⟩, fZ, nZ, lZ⟩, ab, ac, bc⟩ := id YL'
          refine ⟨zz2, fun lq hlq => ?_⟩
          have s7 := Same.upd hlq (o := .lst [.str "not there", .str "done"])
          have hkZ7 := s7 _ _ hkZ
          refine ⟨_, rfl, ad, _, _, _, rfl, rfl, SqT.of (s7 _ _ had6), atI1 _ _ _, _, rfl, za, _, rfl, DGet.k (k := .inl t) hkZ7, .inr ⟨_, rfl, ?_⟩⟩
          have hz := rZ.has t
          rw [fZ] at hz
          rw [hz]
          have tl7 := told _ (Kp.of s7)
          cases hsh : (y.sh t).isSome with
          | true =>
            have ec := chg_lose1 hsh
            rw [ec] at tl7
            refine ⟨lq, _, _, .str "done", rfl, rfl, SqL.of upd_same, atI1 _ _ _, ?_⟩
            refine ⟨_, rfl, _, rfl, u, "done", rfl, tl7, fun H8 s8 => ⟨_, rfl, iteF ?_⟩⟩
            have s78 := s7.trans s8
            have hkZ8 := s78 _ _ hkZ
            refine ⟨_, rfl, ad, _, _, _, rfl, rfl, SqT.of (s78 _ _ had6), atI1 _ _ _, _, rfl, za, _, rfl, DGet.k (k := .inl t) hkZ8, _, rfl, ?_⟩
            rw [hz, hsh]
            refine iteT ?_
            rw [hsh] at hz
            obtain ⟨v, hv⟩ := Option.isSome_iff_exists.mp hz
            refine ⟨_, rfl, za, rfl, .inl ⟨kZ, .inl hkZ8⟩, _, rfl, ad, _, _, _, rfl, rfl, SqT.of (s78 _ _ had6), atI1 _ _ _, kZ, .inl t, v, hkZ8, rfl, hv, ?_⟩
            have kpd := Kp.dict hkZ8 (k' := dropK kZ (.inl t))
            refine fin _ _ _ _ _ _ ((Kp.of s78).trans kpd) (fun x o' _ _ n3 e' => by rw [upd_ne n3]; exact s78 _ _ e') ?_ rfl
            rw [estep, ec]
            obtain ⟨⟨S8, ⟨kS8, hkS8, rS8⟩, fS8, lS8⟩, ⟨R8, ⟨kR8, hkR8, rR8⟩, fR8, nR8, lR8⟩, _, _, _, _⟩ := YL'.same s78
            exact ⟨⟨S8, ⟨kS8, by rw [upd_ne ac]; exact hkS8, rS8⟩, fS8, by omega⟩, ⟨R8, ⟨kR8, by rw [upd_ne bc]; exact hkR8, rR8.imp fun _ _ q => q.kp kpd⟩, fR8, nR8, by omega⟩, ⟨dropA Z t, ⟨_, upd_same, (rZ.imp fun _ _ q => (q.kp (Kp.of s78)).kp kpd).drop t⟩, upF_drop fZ t, nd_drop Z t nZ, by have := len_drop Z t; omega⟩, ab, ac, bc⟩
          | false =>
            have ec := chg_lose2 (y := y) (t := t) (by rw [hsh]; exact Bool.false_ne_true)
            rw [ec] at tl7
            refine ⟨lq, _, _, .str "not there", rfl, rfl, SqL.of upd_same, atI0 _ _, ?_⟩
            refine ⟨_, rfl, _, rfl, u, "not there", rfl, tl7, fun H8 s8 => ⟨_, rfl, iteF ?_⟩⟩
            have s78 := s7.trans s8
            have hkZ8 := s78 _ _ hkZ
            refine ⟨_, rfl, ad, _, _, _, rfl, rfl, SqT.of (s78 _ _ had6), atI1 _ _ _, _, rfl, za, _, rfl, DGet.k (k := .inl t) hkZ8, _, rfl, ?_⟩
            rw [hz, hsh]
            refine iteF ?_
            exact fin _ _ _ _ _ _ (Kp.of s78) (fun x o' _ _ _ e' => s78 _ _ e') (by rw [estep, ec]; exact (YL'.same s78).le (Nat.le_succ _)) rfl
        · have nl : ∀ t, d ≠ .lose t := fun t e => hlo ⟨t, e⟩
          have hnl : ¬ x0 = "lose" := fun e => by
            cases d with
            | lose t => exact nl t rfl
            | make t => exact nm t rfl
            | set t n => cases e0; exact absurd e (by decide +kernel)
            | drop t => cases e0; exact absurd e (by decide +kernel)
            | rcp t s ms => cases e0; exact absurd e (by decide +kernel)
            | strike t => cases e0; exact absurd e (by decide +kernel)
          refine ite2 (fun _ => ?_) (fun e => absurd (by rw [decide_eq_false (fun z => hnl (V.str.inj z))]; rfl) e)
          refine ⟨_, rfl, _, rfl, fun ca hca => ?_⟩
          have s7 := Same.upd hca (o := .dK [])
          have Y3 := YL'.two.three hca
          have hat7 : DeedAt (upd H6 ca (.dK [])) (.ref ad) d := by rw [← ead]; exact (hat5.kp kp6).same s7
          refine ⟨_, rfl, sa, ra, ca, _, _, d, i, rfl, Y3, by omega, hat7, hok', nm, fun H8 k8 b8 Y8 => ?_⟩
          rw [chg_word2 y nl]
          have k68 : Kp H6 H8 := (Kp.of s7).trans k8
          have tl8 := told H8 k68
          refine ⟨_, rfl, _, rfl, u, (chg y d).2, rfl, tl8, fun H9 s9 => ⟨_, rfl, iteF ?_⟩⟩
          have fr8 : ∀ x o', x ≠ sa → x ≠ ra → x ≠ za → H6 x = some o' → H8 x = some o' := fun x o' n1 n2 _ e' => b8 x o' n1 n2 (ne_of_none e' hca) (s7 _ _ e')
          refine fin H9 _ _ _ _ _ (k68.trans (Kp.of s9)) (fun x o' n1 n2 n3 e' => s9 _ _ (fr8 x o' n1 n2 n3 e')) ?_ rfl
          refine YAt.same ?_ s9
          rw [estep]
          rw [chg_sh] at Y8
          obtain ⟨⟨S8, hS8, fS8, lS8⟩, ⟨R8, hR8, fR8, nR8, lR8⟩, _, ab8, _, _⟩ := Y8
          obtain ⟨_, _, ⟨Z, ⟨kZ, hkZ, rZ⟩, fZ, nZ, lZ⟩, ab, ac, bc⟩ := id YL'
          have hkZ8 : H8 za = some (.dK kZ) := b8 za _ ac.symm bc.symm (ne_of_none hkZ hca) (s7 _ _ hkZ)
          exact ⟨⟨S8, hS8, fS8, lS8⟩, ⟨R8, hR8, fR8, nR8, lR8⟩, ⟨Z, ⟨kZ, hkZ8, rZ.imp fun _ _ q => q.kp k68⟩, fun t => by rw [fZ]; show y.sh t = (chg y d).1.sh t; rw [chg_sh_not y nl], nZ, by omega⟩, ab, ac, bc⟩
    · rintro σ H5 ⟨v8, v9, v10, v11, v12, rfl, kp, N⟩
      refine ⟨_, rfl, zz2, fun tq htq => ?_⟩
      have s6 := Same.upd htq (o := .tup [.str "make", .int 5])
      refine ⟨p2, a2, b2, z2, y5, 1, 300, .ref tq, .make 5, rfl, N.two.same s6, y5_wf, (WfL.e0.step (d := .set 5 7) ⟨trivial, ⟨by decide, by decide⟩, fun m q => nomatch q⟩), by decide, by decide, ⟨tq, 0, rfl, upd_same, trivial⟩, ⟨trivial, ⟨by decide, by decide⟩, fun m q => nomatch q⟩, fun u H6 _ _ an => ?_⟩
      rw [y5_ask] at an
      have eu : u = .int 7 := an
      subst eu
      refine ⟨_, rfl, 7, rfl, _, rfl, iteT ?_⟩
      refine ⟨_, rfl, rfl, ?_⟩
      rw [decide_eq_true (rfl : V.int 7 = V.int 7)]
      exact k _
end
end Lw
set_option Elab.async false
set_option linter.all false
set_option maxRecDepth 100000
set_option maxHeartbeats 4000000
namespace Lw
open PySem L2 PyProof.Rows Yd
section
variable {P : Program} {w : World} {K : PySem.W.Frag} {mg : Str → Option Value} {base : Heap} {f : Addr} {fd : FuncData} {c : Pc} {CY CF : Addr}
theorem scDone : FnScope ["_law_yard", "_law_deed", "_law_given"] ["_law_yard", "_law_deed"] (defScope sDone) := ⟨rfl, rfl, rfl, by decide +kernel, rfl, by decide +kernel, by decide +kernel⟩
theorem own_done (F : At K mg "_law_done" sDone f fd) (B : Blt mg) (Dm : MOwnX P w K mg base c.Y "make" 6 ["self", "thing"] (spMake c CF)) (D1 : MOwnX P w K mg base c.Y "set_source" 1 ["self", "thing", "number"] (spSetS c)) (D2 : MOwnX P w K mg base c.Y "drop_source" 1 ["self", "thing"] (spDropS c))
    (D3 : MOwnX P w K mg base c.Y "set_recipe" 4 ["self", "thing", "sort", "makings"] (spSetR c)) (D4 : MOwnX P w K mg base c.Y "drop_recipe" 1 ["self", "thing"] (spDropR c)) (D5 : MOwnX P w K mg base c.Y "lose" 1 ["self", "thing"] (spLose c)) :
    OwnX P w K mg base "_law_done" 7 ["_law_yard", "_law_deed"] (spDone c CF) := by
  refine F.ownX scDone (fun _ _ _ _ _ _ us hl => match us, hl with | [_, _], _ => rfl) (fun vs H Q E h => ?_) (fun cdv A outer s H vs Q E hr h => ?_)
  · obtain ⟨p, a, b, z, y, n, m, v, d, rfl, _⟩ := h
    rfl
  · obtain ⟨p, a, b, z, y, n, m, v, d, rfl, Y, W, L, hn, hm, ⟨ad, l, rfl, had, hmk⟩, hok, kM, kC⟩ := h
    have sc := scDone
    have hr1 : Room 1 _ := hr.mono (by decide)
    have hr4 : Room 4 _ := hr.mono (by decide)
    have big := lineM
    obtain ⟨dx, o⟩ := Y.ob
    have hT : SqT K H ad (d.row l) := SqT.of had
    have noB : ∀ x ∈ ([] : List Addr), H x ≠ none := fun _ q => nomatch q
    refine ⟨_, (pss_cons (ps_if (pt_cmpR op_eq (pe_ix ix_tup (pv 1) pe_int (fun _ _ => rfl)) pe_str (nomark _)) (pss_one (ps_ret (pe_mth Dm (pv 0) hr passE_cx (pa_cons (pe_ix ix_tup (pv 1) pe_int (fun _ _ => rfl)) pa_nil)))) pss_nil)
      (pss_cons (ps_if (pt_cmpR op_eq (pe_ix ix_tup (pv 1) pe_int (fun _ _ => rfl)) pe_str (nomark _)) (pss_one (ps_expr (pe_mth D1 (pv 0) hr1 passE_cx (pa_cons (pe_ix ix_tup (pv 1) pe_int (fun _ _ => rfl)) (pa_cons (pe_ix ix_tup (pv 1) pe_int (fun _ _ => rfl)) pa_nil))))) (pss_one (ps_if (pt_cmpR op_eq (pe_ix ix_tup (pv 1) pe_int (fun _ _ => rfl)) pe_str (nomark _)) (pss_one (ps_expr (pe_mth D2 (pv 0) hr1 passE_cx (pa_cons (pe_ix ix_tup (pv 1) pe_int (fun _ _ => rfl)) pa_nil)))) (pss_one (ps_if (pt_cmpR op_eq (pe_ix ix_tup (pv 1) pe_int (fun _ _ => rfl)) pe_str (nomark _)) (pss_cons (ps_set (i := 2) sc.nd rfl (Or.inl rfl) (pe_callTy call_list_of rfl B.list boot_list (pa_cons (pe_ix ix_tup (pv 1) pe_int (fun _ _ => rfl)) pa_nil)))
      (pss_cons (ps_expr (pe_mth D3 (pv 0) hr4 passE_cx (pa_cons (pe_ix ix_tup (pv 1) pe_int (fun _ _ => rfl)) (pa_cons (pe_ix ix_tup (pv 1) pe_int (fun _ _ => rfl)) (pa_cons (pv 2) pa_nil)))))
      (pss_one (ps_expr (pe_bm PySem.F.plainAttrs_list PySem.F.slot_list_insert PySem.F.type_list_insert mt_insert0 (pv 2) (pa_cons pe_int (pa_cons pe_int pa_nil))))))) (pss_one (ps_if (pt_cmpR op_eq (pe_ix ix_tup (pv 1) pe_int (fun _ _ => rfl)) pe_str (nomark _)) (pss_one (ps_expr (pe_mth D4 (pv 0) hr1 passE_cx (pa_cons (pe_ix ix_tup (pv 1) pe_int (fun _ _ => rfl)) pa_nil)))) (pss_one (ps_expr (pe_mth D5 (pv 0) hr1 passE_cx (pa_cons (pe_ix ix_tup (pv 1) pe_int (fun _ _ => rfl)) pa_nil)))))))))))
      (pss_one (ps_ret pe_str)))), ?_⟩
    have isN : ∀ (q : VK), (∀ H', But3 a b z H H' → YdAt c [] H' p a b z (chg y d).1 (n + 1) m → q (.str "done") H') → True := fun _ _ => trivial
    cases d with
    | make t =>
      refine ⟨_, rfl, ad, _, _, _, rfl, rfl, hT, atI0 _ _, rfl, _, rfl, ?_⟩
      refine ite2 (fun _ => ?_) (fun e => absurd (by decide +kernel) e)
      exact ⟨_, rfl, p, dx, _, rfl, o, fsY_no (by decide +kernel) (by decide +kernel) (by decide +kernel), _, rfl, ad, _, _, _, rfl, rfl, hT, atI1 _ _ _, [], p, a, b, z, y, n, m, t, rfl, Y, noB, W, L, hn, hm, hok.2.1, kM t rfl⟩
    | set t x =>
      have k := kC fun _ q => nomatch q
      refine ⟨_, rfl, ad, _, _, _, rfl, rfl, hT, atI0 _ _, rfl, _, rfl, ?_⟩
      refine ite2 (fun e => absurd e (by decide +kernel)) (fun _ => ?_)
      refine ⟨_, rfl, ad, _, _, _, rfl, rfl, hT, atI0 _ _, rfl, _, rfl, ?_⟩
      refine ite2 (fun _ => ?_) (fun e => absurd (by decide +kernel) e)
      refine ⟨_, rfl, p, dx, _, rfl, o, fsY_no (by decide +kernel) (by decide +kernel) (by decide +kernel), _, rfl, ad, _, _, _, rfl, rfl, hT, atI1 _ _ _, _, rfl, ad, _, _, _, rfl, rfl, hT, atI2 _ _ _ _, [], p, a, b, z, y, n, m, t, x, rfl, Y, noB, by omega, hok.2.1, ?_⟩
      unfold ChgQ
      cases e : errW c (chg y (.set t x)).2 with
      | none => rw [e] at k; exact fun H' b3 Y' => k H' b3 Y'
      | some q => rw [e] at k; exact k H (Same.refl H)
    | drop t =>
      have k := kC fun _ q => nomatch q
      refine ⟨_, rfl, ad, _, _, _, rfl, rfl, hT, atI0 _ _, rfl, _, rfl, ?_⟩
      refine ite2 (fun e => absurd e (by decide +kernel)) (fun _ => ?_)
      refine ⟨_, rfl, ad, _, _, _, rfl, rfl, hT, atI0 _ _, rfl, _, rfl, ?_⟩
      refine ite2 (fun e => absurd e (by decide +kernel)) (fun _ => ?_)
      refine ⟨_, rfl, ad, _, _, _, rfl, rfl, hT, atI0 _ _, rfl, _, rfl, ?_⟩
      refine ite2 (fun _ => ?_) (fun e => absurd (by decide +kernel) e)
      refine ⟨_, rfl, p, dx, _, rfl, o, fsY_no (by decide +kernel) (by decide +kernel) (by decide +kernel), _, rfl, ad, _, _, _, rfl, rfl, hT, atI1 _ _ _, [], p, a, b, z, y, n, m, t, rfl, Y, noB, by omega, hok.2.1, ?_⟩
      unfold ChgQ
      cases e : errW c (chg y (.drop t)).2 with
      | none => rw [e] at k; exact fun H' b3 Y' => k H' b3 Y'
      | some q => rw [e] at k; exact k H (Same.refl H)
    | rcp t x ms =>
      have k := kC fun _ q => nomatch q
      refine ⟨_, rfl, ad, _, _, _, rfl, rfl, hT, atI0 _ _, rfl, _, rfl, ?_⟩
      refine ite2 (fun e => absurd e (by decide +kernel)) (fun _ => ?_)
      refine ⟨_, rfl, ad, _, _, _, rfl, rfl, hT, atI0 _ _, rfl, _, rfl, ?_⟩
      refine ite2 (fun e => absurd e (by decide +kernel)) (fun _ => ?_)
      refine ⟨_, rfl, ad, _, _, _, rfl, rfl, hT, atI0 _ _, rfl, _, rfl, ?_⟩
      refine ite2 (fun e => absurd e (by decide +kernel)) (fun _ => ?_)
      refine ⟨_, rfl, ad, _, _, _, rfl, rfl, hT, atI0 _ _, rfl, _, rfl, ?_⟩
      refine ite2 (fun _ => ?_) (fun e => absurd (by decide +kernel) e)
      have hm3 : H l = some (.lst (ms.map V.int)) := hmk
      have hml : ms.length ≤ 20 := hok.1.2.2
      refine ⟨_, rfl, ad, _, _, _, rfl, rfl, hT, atI3 _ _ _ _ _, l, _, rfl, .inl (SqL.of hm3), fun gl hgl => ?_⟩
      have s1 := Same.upd hgl (o := .lst (ms.map V.int))
      have hgl1 : (upd H gl (.lst (ms.map V.int))) gl = some (.lst (ms.map V.int)) := upd_same
      revert s1 hgl1
      generalize upd H gl (.lst (ms.map V.int)) = H1
      intro s1 hgl1
      have Y1 : YdAt c [gl] H1 p a b z y n m := (Y.off (B' := [gl]) fun l' xs _ hl' q => by rw [List.mem_singleton.mp q, hgl] at hl'; cases hl').same s1
      have hT1 : SqT K H1 ad ((Deed.rcp t x ms).row l) := SqT.of (s1 _ _ had)
      refine ⟨_, rfl, p, dx, _, rfl, s1 _ _ o, fsY_no (by decide +kernel) (by decide +kernel) (by decide +kernel), _, rfl, ad, _, _, _, rfl, rfl, hT1, atI1 _ _ _, _, rfl, ad, _, _, _, rfl, rfl, hT1, atI2 _ _ _ _, _, rfl, [gl], p, a, b, z, gl, y, n, m, t, x, ms, rfl, Y1, (fun u hu => by rw [List.mem_singleton.mp hu, hgl1]; exact Option.some_ne_none _), by omega, hok.2.1, hgl1, by omega, hok.1.1.1, ?_⟩
      unfold ChgQ
      cases e : errW c (chg y (.rcp t x ms)).2 with
      | some q => rw [e] at k; exact k H1 s1
      | none =>
        rw [e] at k
        intro H2 b3 Y2
        obtain ⟨_, ⟨S', ⟨ks', s0', _⟩, _⟩, ⟨kr', R', r1', _⟩, ⟨kz', Z', z1', _⟩, _⟩ := id Y1
        have hgl2 := b3 gl _ (ne_of hgl1 s0' (by intro q; cases q)) (ne_of hgl1 r1' (by intro q; cases q)) (ne_of hgl1 z1' (by intro q; cases q)) hgl1
        refine ⟨_, rfl, .inl ⟨rfl, _, SqL.of hgl2⟩, gl, _, _, rfl, rfl, hgl2, by rw [List.length_map]; omega, ?_⟩
        refine k _ (fun u o' n1 n2 n3 e' => ?_) ?_
        · rw [upd_ne (ne_of_none e' hgl)]
          exact b3 u o' n1 n2 n3 (s1 _ _ e')
        · refine (Y2.kp (KpB.lst hgl2 (by simp)) fun u o' hu e' => ?_).off (B' := []) fun _ _ _ _ q => nomatch q
          obtain ⟨_, ⟨S2, ⟨ks2, s02, _⟩, _⟩, ⟨kr2, R2, r12, _⟩, ⟨kz2, Z2, z12, _⟩, _⟩ := id Y2
          have : u ≠ gl := by
            rcases hu with rfl | rfl | rfl
            · exact ne_of s02 hgl2 (by intro q; cases q)
            · exact ne_of r12 hgl2 (by intro q; cases q)
            · exact ne_of z12 hgl2 (by intro q; cases q)
          rw [upd_ne this]
          exact e'
    | strike t =>
      have k := kC fun _ q => nomatch q
      refine ⟨_, rfl, ad, _, _, _, rfl, rfl, hT, atI0 _ _, rfl, _, rfl, ?_⟩
      refine ite2 (fun e => absurd e (by decide +kernel)) (fun _ => ?_)
      refine ⟨_, rfl, ad, _, _, _, rfl, rfl, hT, atI0 _ _, rfl, _, rfl, ?_⟩
      refine ite2 (fun e => absurd e (by decide +kernel)) (fun _ => ?_)
      refine ⟨_, rfl, ad, _, _, _, rfl, rfl, hT, atI0 _ _, rfl, _, rfl, ?_⟩
      refine ite2 (fun e => absurd e (by decide +kernel)) (fun _ => ?_)
      refine ⟨_, rfl, ad, _, _, _, rfl, rfl, hT, atI0 _ _, rfl, _, rfl, ?_⟩
      refine ite2 (fun e => absurd e (by decide +kernel)) (fun _ => ?_)
      refine ⟨_, rfl, ad, _, _, _, rfl, rfl, hT, atI0 _ _, rfl, _, rfl, ?_⟩
      refine ite2 (fun _ => ?_) (fun e => absurd (by decide +kernel) e)
      refine ⟨_, rfl, p, dx, _, rfl, o, fsY_no (by decide +kernel) (by decide +kernel) (by decide +kernel), _, rfl, ad, _, _, _, rfl, rfl, hT, atI1 _ _ _, [], p, a, b, z, y, n, m, t, rfl, Y, noB, by omega, hok.2.1, ?_⟩
      unfold ChgQ
      cases e : errW c (chg y (.strike t)).2 with
      | none => rw [e] at k; exact fun H' b3 Y' => k H' b3 Y'
      | some q => rw [e] at k; exact k H (Same.refl H)
    | lose t =>
      have k := kC fun _ q => nomatch q
      refine ⟨_, rfl, ad, _, _, _, rfl, rfl, hT, atI0 _ _, rfl, _, rfl, ?_⟩
      refine ite2 (fun e => absurd e (by decide +kernel)) (fun _ => ?_)
      refine ⟨_, rfl, ad, _, _, _, rfl, rfl, hT, atI0 _ _, rfl, _, rfl, ?_⟩
      refine ite2 (fun e => absurd e (by decide +kernel)) (fun _ => ?_)
      refine ⟨_, rfl, ad, _, _, _, rfl, rfl, hT, atI0 _ _, rfl, _, rfl, ?_⟩
      refine ite2 (fun e => absurd e (by decide +kernel)) (fun _ => ?_)
      refine ⟨_, rfl, ad, _, _, _, rfl, rfl, hT, atI0 _ _, rfl, _, rfl, ?_⟩
      refine ite2 (fun e => absurd e (by decide +kernel)) (fun _ => ?_)
      refine ⟨_, rfl, ad, _, _, _, rfl, rfl, hT, atI0 _ _, rfl, _, rfl, ?_⟩
      refine ite2 (fun e => absurd e (by decide +kernel)) (fun _ => ?_)
      refine ⟨_, rfl, p, dx, _, rfl, o, fsY_no (by decide +kernel) (by decide +kernel) (by decide +kernel), _, rfl, ad, _, _, _, rfl, rfl, hT, atI1 _ _ _, [], p, a, b, z, y, n, m, t, rfl, Y, noB, by omega, hok.2.1, ?_⟩
      unfold ChgQ
      cases e : errW c (chg y (.lose t)).2 with
      | none => rw [e] at k; exact fun H' b3 Y' => k H' b3 Y'
      | some q => rw [e] at k; exact k H (Same.refl H)
theorem scToldIs : FnScope ["_law_told", "_law_due"] ["_law_told", "_law_due"] (defScope sToldIs) := ⟨rfl, rfl, rfl, by decide +kernel, rfl, by decide +kernel, by decide +kernel⟩
theorem own_toldIs (F : At K mg "_law_told_is" sToldIs f fd) (B : Blt mg) : Own P w K mg base "_law_told_is" 1 ["_law_told", "_law_due"] spToldIs := by
  refine F.own scToldIs (fun _ _ _ _ _ _ us hl => match us, hl with | [_, _], _ => rfl) (fun vs H Q E h => ?_) (fun cdv A outer s H vs Q E hr h => ?_)
  · obtain ⟨u, due, rfl, _⟩ := h
    rfl
  · obtain ⟨u, due, rfl, hu', k⟩ := h
    have sc := scToldIs
    have hu := units_of hr
    have z2 : 2 ≤ sizeLine := by decide
    refine ⟨_, (pss_cons (ps_if (pt_cmpR op_eq (pv 1) pe_str (nomark _)) (pss_one (ps_ret (pe_and (pe_callB (call_isiK (K := K) rfl) rfl B.isi boot_isinstance (pa_cons (pv 0) (pa_cons (pe_bltn (v := .ty "str") rfl B.str boot_str rfl) pa_nil))) (pe_one (pe_cmpR op_eq (pv 0) pe_str (nomark _)))))) pss_nil)
      (pss_one (ps_ret (pe_and (pe_callB (call_isiK (K := K) rfl) rfl B.isi boot_isinstance (pa_cons (pv 0) (pa_cons (pe_bltn (v := .ty "tuple") rfl B.tuple boot_tuple rfl) pa_nil))) (pe_one (pe_cmpR (op_eqD hu) (pv 0) (pe_tup (pa_cons pe_str (pa_cons (pv 1) pa_nil))) (nomark _))))))), ?_⟩
    refine ⟨_, rfl, rfl, _, rfl, ?_⟩
    rcases hu' with ⟨rfl, rfl⟩ | ⟨hd, tp, rfl, htp⟩
    · refine ite2 (fun _ => ?_) (fun e => absurd (decide_eq_true rfl) e)
      refine ⟨_, rfl, _, _, _, _, _, rfl, rfl, .inl (.str _), kit_ss K, _, rfl, iteT ?_⟩
      refine ⟨_, rfl, rfl, ?_⟩
      rw [decide_eq_true (rfl : V.str "done" = V.str "done")]
      exact k H (Same.refl H)
    · obtain ⟨hl, hne⟩ := refW_lay hd
      refine ite2 (fun e => absurd (V.str.inj (of_decide_eq_true e)) hne) (fun _ => ?_)
      refine ⟨_, rfl, _, _, _, _, _, rfl, rfl, .inl (.tup htp), kit_tt K, _, rfl, iteT ?_⟩
      refine ⟨_, rfl, _, rfl, z2, fun q hq => ?_⟩
      have s1 := Same.upd hq (o := .tup [.str "refused", .str due])
      have hsh : SeqAt.shaped (.tuple [.str "refused", .str due]) = true := by
        have h0 : PyData.canLay0 (.str "refused") = true := by decide +kernel
        show (PyData.canLayAll0 [.str "refused", .str due] && decide (PyData.depth (.tuple [.str "refused", .str due]) ≤ 64)) = true
        simp only [PyData.canLayAll0, h0, hl, Bool.and_true, Bool.true_and]
        simp [PyData.depth, PyData.depthAll]
      refine ⟨.tuple [.str "refused", .str due], .tuple [.str "refused", .str due], .tup (SqT.of (s1 _ _ htp)) (.cons (.str _) (.cons (.str _) .nil)), .tup (SqT.of upd_same) (.cons (.str _) (.cons (.str _) .nil)), hsh, hsh, ?_⟩
      rw [if_neg (by decide : ¬ (false = true))]
      have : PyData.eqv (.tuple [.str "refused", .str due]) (.tuple [.str "refused", .str due]) = true := by
        simp only [PyData.eqv, PyData.eqvAll, beq_self_eq_true, Bool.and_self]
      rw [this]
      exact k _ s1
end
end Lw
set_option Elab.async false
set_option linter.all false
set_option maxRecDepth 100000
set_option maxHeartbeats 4000000
namespace Lw
open PySem L2 PyProof.Rows Yd
section
variable {P : Program} {w : World} {K : PySem.W.Frag} {mg : Str → Option Value} {base : Heap} {f : Addr} {fd : FuncData} {c : Pc}
theorem isS_of {α : Type} {o : Option α} (h : (!o.isSome) = true) : ¬ o.isSome = true := fun z => by rw [z] at h; cases h
theorem isS_of' {α : Type} {o : Option α} (h : ¬ (!o.isSome) = true) : o.isSome = true := by
  cases q : o.isSome with
  | true => rfl
  | false => rw [q] at h; exact absurd rfl h
theorem ew_has : errW c "has recipe" = some c.HR := (if_neg (by decide +kernel)).trans (if_pos rfl)
theorem ew_src : errW c "no source" = some c.NS := (if_neg (by decide +kernel)).trans ((if_neg (by decide +kernel)).trans (if_pos rfl))
theorem ew_sort : errW c "no sort" = some c.SO := (if_neg (by decide +kernel)).trans ((if_neg (by decide +kernel)).trans ((if_neg (by decide +kernel)).trans (if_pos rfl)))
theorem ew_is : errW c "is source" = some c.IS := (if_neg (by decide +kernel)).trans ((if_neg (by decide +kernel)).trans ((if_neg (by decide +kernel)).trans ((if_neg (by decide +kernel)).trans (if_pos rfl))))
theorem ew_rec : errW c "no recipe" = some c.NR := (if_neg (by decide +kernel)).trans ((if_neg (by decide +kernel)).trans ((if_neg (by decide +kernel)).trans ((if_neg (by decide +kernel)).trans ((if_neg (by decide +kernel)).trans (if_pos rfl)))))
theorem ew_not : errW c "not there" = some c.NT := (if_neg (by decide +kernel)).trans ((if_neg (by decide +kernel)).trans ((if_neg (by decide +kernel)).trans ((if_neg (by decide +kernel)).trans ((if_neg (by decide +kernel)).trans (if_neg (by decide +kernel))))))
theorem ew_done : errW c "done" = none := if_pos rfl
theorem scSetSource : FnScope ["self", "thing", "number"] ["self", "thing", "number"] (defScope sYardSetSource) := ⟨rfl, rfl, rfl, by decide +kernel, rfl, by decide +kernel, by decide +kernel⟩
theorem m_setS (F : AtM K c.Y "set_source" "Yard.set_source" sYardSetSource f fd) (G : PgK K mg c) : MOwnX P w K mg base c.Y "set_source" 1 ["self", "thing", "number"] (spSetS c) := by
  refine F.ownX scSetSource (fun _ _ _ _ _ _ us hl => match us, hl with | [_, _, _], _ => rfl) (fun vs H Q E h => ?_) (fun cdv A outer s H vs Q E hr h => ?_)
  · obtain ⟨B, p, a, b, z, y, n, m, t, v, rfl, _⟩ := h
    rfl
  · obtain ⟨B, p, a, b, z, y, n, m, t, v, rfl, Y, hB, hn, hl, k⟩ := h
    have sc := scSetSource
    have hu := units_of hr
    have hu1 := Nat.lt_of_le_of_lt (Nat.add_le_add_left (by decide : 1 ≤ 64) _) hu
    have big := line10000
    have tl := lim_len0 (lim_log hl)
    have Y' := Y
    obtain ⟨⟨dx, o⟩, ⟨S, ⟨ks, s0, s1⟩, s2, s3⟩, ⟨kr, R, r1, r2, r3, r4⟩, _, ab, az, bz⟩ := Y'
    refine ⟨_, (pss_cons (ps_if (pt_cmp (pc_din hu1 (pv 1) (pe_fld (pv 0) rfl))) (pss_one (ps_raise rais_cx rfl G.mHR G.xHR rfl (pa_cons (pe_join2 pe_str (pe_fmtI (pv 1))) pa_nil))) pss_nil)
      (pss_one (ps_dput hu1 (pe_fld (pv 0) rfl) (pv 1) (pv 2) rfl))), ?_⟩
    refine ⟨_, rfl, _, rfl, p, c.Y, dx, _, _, rfl, o, G.clY, G.recipes, fsY_recipes, b, _, rfl, DGet.k (k := .inl t) r1, _, rfl, ?_⟩
    rw [r2.has t, r3]
    refine ite2 (fun e => ?_) (fun e => ?_)
    · unfold ChgQ at k
      rw [chg_set1 e] at k
      simp only [ew_has] at k
      have l0 : ("it has a recipe: " : Str).length = 17 := by decide +kernel
      exact ⟨_, rfl, by rw [l0]; omega, _, rfl, _, rfl, lim_log hl, _, rfl, by rw [l0]; omega, by show 1 ≤ sizeLine; omega, k⟩
    · unfold ChgQ at k
      rw [chg_set2 e] at k
      simp only [ew_done] at k
      have hkl : ks.length = S.length := s1.len
      refine ⟨_, rfl, _, rfl, p, c.Y, dx, _, _, rfl, o, G.clY, G.sources, fsY_sources, _, rfl, a, _, rfl, .inl ⟨ks, .inl t, s0, rfl, by omega, rfl⟩, ?_⟩
      refine k _ (fun x q n1 _ _ e => by rw [upd_ne n1]; exact e) (Y.setS (s1.put t rfl) (upF_set s2 t v) (by have := len_set S t v; omega) (Nat.le_succ _))
theorem scDropSource : FnScope ["self", "thing"] ["self", "thing"] (defScope sYardDropSource) := ⟨rfl, rfl, rfl, by decide +kernel, rfl, by decide +kernel, by decide +kernel⟩
theorem m_dropS (F : AtM K c.Y "drop_source" "Yard.drop_source" sYardDropSource f fd) (G : PgK K mg c) : MOwnX P w K mg base c.Y "drop_source" 1 ["self", "thing"] (spDropS c) := by
  refine F.ownX scDropSource (fun _ _ _ _ _ _ us hl => match us, hl with | [_, _], _ => rfl) (fun vs H Q E h => ?_) (fun cdv A outer s H vs Q E hr h => ?_)
  · obtain ⟨B, p, a, b, z, y, n, m, t, rfl, _⟩ := h
    rfl
  · obtain ⟨B, p, a, b, z, y, n, m, t, rfl, Y, hB, hn, hl, k⟩ := h
    have sc := scDropSource
    have hu := units_of hr
    have hu1 := Nat.lt_of_le_of_lt (Nat.add_le_add_left (by decide : 1 ≤ 64) _) hu
    have big := line10000
    have tl := lim_len0 (lim_log hl)
    have Y' := Y
    obtain ⟨⟨dx, o⟩, ⟨S, ⟨ks, s0, s1⟩, s2, s3⟩, ⟨kr, R, r1, r2, r3, r4⟩, _, ab, az, bz⟩ := Y'
    refine ⟨_, (pss_cons (ps_if (pt_cmp (pc_dnotin hu1 (pv 1) (pe_fld (pv 0) rfl))) (pss_one (ps_raise rais_cx rfl G.mNS G.xNS rfl (pa_cons (pe_join2 pe_str (pe_fmtI (pv 1))) pa_nil))) pss_nil)
      (pss_one (ps_expr (pe_dpop1 (pe_fld (pv 0) rfl) (pv 1) ⟨rfl, rfl, rfl, rfl⟩)))), ?_⟩
    refine ⟨_, rfl, _, rfl, p, c.Y, dx, _, _, rfl, o, G.clY, G.sources, fsY_sources, a, _, rfl, DGet.k (k := .inl t) s0, _, rfl, ?_⟩
    have hs := s1.has t
    rw [s2] at hs
    rw [hs]
    refine ite2 (fun e => ?_) (fun e => ?_)
    · unfold ChgQ at k
      rw [chg_drop2 (isS_of e)] at k
      simp only [ew_src] at k
      have l0 : ("it is no source: " : Str).length = 17 := by decide +kernel
      exact ⟨_, rfl, by rw [l0]; omega, _, rfl, _, rfl, lim_log hl, _, rfl, by rw [l0]; omega, by show 1 ≤ sizeLine; omega, k⟩
    · have e' := isS_of' e
      unfold ChgQ at k
      rw [chg_drop1 e'] at k
      simp only [ew_done] at k
      rw [e'] at hs
      obtain ⟨v, hv⟩ := Option.isSome_iff_exists.mp hs
      refine ⟨_, rfl, p, c.Y, dx, _, _, rfl, o, G.clY, G.sources, fsY_sources, a, rfl, .inl ⟨ks, .inl s0⟩, _, rfl, ks, .inl t, v, s0, rfl, hv, ?_⟩
      exact k _ (fun x q n1 _ _ e => by rw [upd_ne n1]; exact e) (Y.setS (s1.drop t) (upF_drop s2 t) (by have := len_drop S t; omega) (Nat.le_succ _))
theorem scSetRecipe : FnScope ["self", "thing", "sort", "makings"] ["self", "thing", "sort", "makings"] (defScope sYardSetRecipe) := ⟨rfl, rfl, rfl, by decide +kernel, rfl, by decide +kernel, by decide +kernel⟩
theorem m_setR (F : AtM K c.Y "set_recipe" "Yard.set_recipe" sYardSetRecipe f fd) (G : PgK K mg c) (Dc : OwnX P w K mg base "check_sort" 1 ["sort"] (spCheck c)) (Dm : MkC P w K mg base c.R "Recipe" 2 ["self", "sort", "makings"] (spRecInit c K)) : MOwnX P w K mg base c.Y "set_recipe" 4 ["self", "thing", "sort", "makings"] (spSetR c) := by
  refine F.ownX scSetRecipe (fun _ _ _ _ _ _ us hl => match us, hl with | [_, _, _, _], _ => rfl) (fun vs H Q E h => ?_) (fun cdv A outer s H vs Q E hr h => ?_)
  · obtain ⟨B, p, a, b, z, l, y, n, m, t, x, ms, rfl, _⟩ := h
    rfl
  · obtain ⟨B, p, a, b, z, l, y, n, m, t, x, ms, rfl, Y, hB, hn, hl, hml, hm2, hx, k⟩ := h
    have sc := scSetRecipe
    have hu := units_of hr
    have hu1 := Nat.lt_of_le_of_lt (Nat.add_le_add_left (by decide : 1 ≤ 64) _) hu
    have big := line10000
    have tl := lim_len0 (lim_log hl)
    have hr1 : Room 1 _ := hr.mono (by decide)
    have Y' := Y
    obtain ⟨⟨dx, o⟩, ⟨S, ⟨ks, s0, s1⟩, s2, s3⟩, ⟨kr, R, r1, r2, r3, r4⟩, ⟨kz, Z, z1, z2, z3⟩, ab, az, bz⟩ := Y'
    refine ⟨_, (pss_cons (ps_expr (pe_ownT Dc hr1 rfl pass_cx (pa_cons (pv 2) pa_nil)))
      (pss_cons (ps_if (pt_cmp (pc_din hu1 (pv 1) (pe_fld (pv 0) rfl))) (pss_one (ps_raise rais_cx rfl G.mIS G.xIS rfl (pa_cons (pe_join2 pe_str (pe_fmtI (pv 1))) pa_nil))) pss_nil)
      (pss_one (ps_dput hu1 (pe_fld (pv 0) rfl) (pv 1) (pe_mk Dm hr rfl (pa_cons (pv 2) (pa_cons (pv 3) pa_nil))) rfl)))), ?_⟩
    unfold ChgQ at k
    refine ⟨_, rfl, x, rfl, fun hg => ?_, fun hg => ⟨hx, ?_⟩⟩
    case refine_2 =>
      rw [chg_rcp0 hg] at k
      simp only [ew_sort] at k
      exact k
    refine ⟨_, rfl, _, rfl, p, c.Y, dx, _, _, rfl, o, G.clY, G.sources, fsY_sources, a, _, rfl, DGet.k (k := .inl t) s0, _, rfl, ?_⟩
    rw [s1.has t, s2]
    refine ite2 (fun e => ?_) (fun e => ?_)
    · rw [chg_rcp1 hg e] at k
      simp only [ew_is] at k
      have l0 : ("it is a source: " : Str).length = 16 := by decide +kernel
      exact ⟨_, rfl, by rw [l0]; omega, _, rfl, _, rfl, lim_log hl, _, rfl, by rw [l0]; omega, by show 1 ≤ sizeLine; omega, k⟩
    · rw [chg_rcp2 hg e] at k
      simp only [ew_done] at k
      refine ⟨_, rfl, _, rfl, fun r dr hr0 hdr hne => ?_⟩
      have sr : Same H (upd (upd H dr (.own r)) r (.ins c.R dr [])) := fun b' o' e' => by rw [upd_ne (ne_of_none e' hr0), upd_ne (ne_of_none e' hdr)]; exact e'
      refine ⟨r, dr, l, x, ms, rfl, upd_same, SqL.of (sr _ _ hml), hm2, fun H1 bt hrec => ⟨rfl, ?_⟩⟩
      have s1' : Same H H1 := fun b' o' e' => bt b' o' (ne_of_none e' hr0) (sr _ _ e')
      have Y1 := Y.same s1'
      have hkl : kr.length = R.length := r2.len
      refine ⟨_, rfl, p, c.Y, dx, _, _, rfl, s1' _ _ o, G.clY, G.recipes, fsY_recipes, _, rfl, b, _, rfl, .inl ⟨kr, .inl t, s1' _ _ r1, rfl, by omega, rfl⟩, ?_⟩
      refine k _ (fun x' q _ n2 _ e => by rw [upd_ne n2]; exact s1' _ _ e) (Y1.setR ((r2.imp fun _ _ q => q.kp (KpB.of s1')).put t (hrec B (fun u hu' => by
        cases q : H u with
        | none => exact absurd q (hB u hu')
        | some o' => rw [sr _ _ q]; exact Option.some_ne_none _))) (upF_set r3 t _) (by have := len_set R t (x, ms); omega) (Nat.le_succ _))
theorem scDropRecipe : FnScope ["self", "thing"] ["self", "thing"] (defScope sYardDropRecipe) := ⟨rfl, rfl, rfl, by decide +kernel, rfl, by decide +kernel, by decide +kernel⟩
theorem m_dropR (F : AtM K c.Y "drop_recipe" "Yard.drop_recipe" sYardDropRecipe f fd) (G : PgK K mg c) : MOwnX P w K mg base c.Y "drop_recipe" 1 ["self", "thing"] (spDropR c) := by
  refine F.ownX scDropRecipe (fun _ _ _ _ _ _ us hl => match us, hl with | [_, _], _ => rfl) (fun vs H Q E h => ?_) (fun cdv A outer s H vs Q E hr h => ?_)
  · obtain ⟨B, p, a, b, z, y, n, m, t, rfl, _⟩ := h
    rfl
  · obtain ⟨B, p, a, b, z, y, n, m, t, rfl, Y, hB, hn, hl, k⟩ := h
    have sc := scDropRecipe
    have hu := units_of hr
    have hu1 := Nat.lt_of_le_of_lt (Nat.add_le_add_left (by decide : 1 ≤ 64) _) hu
    have big := line10000
    have tl := lim_len0 (lim_log hl)
    have Y' := Y
    obtain ⟨⟨dx, o⟩, ⟨S, ⟨ks, s0, s1⟩, s2, s3⟩, ⟨kr, R, r1, r2, r3, r4⟩, _, ab, az, bz⟩ := Y'
    refine ⟨_, (pss_cons (ps_if (pt_cmp (pc_dnotin hu1 (pv 1) (pe_fld (pv 0) rfl))) (pss_one (ps_raise rais_cx rfl G.mNR G.xNR rfl (pa_cons (pe_join2 pe_str (pe_fmtI (pv 1))) pa_nil))) pss_nil)
      (pss_one (ps_expr (pe_dpop1 (pe_fld (pv 0) rfl) (pv 1) ⟨rfl, rfl, rfl, rfl⟩)))), ?_⟩
    refine ⟨_, rfl, _, rfl, p, c.Y, dx, _, _, rfl, o, G.clY, G.recipes, fsY_recipes, b, _, rfl, DGet.k (k := .inl t) r1, _, rfl, ?_⟩
    have hs := r2.has t
    rw [r3] at hs
    rw [hs]
    refine ite2 (fun e => ?_) (fun e => ?_)
    · unfold ChgQ at k
      rw [chg_strike2 (isS_of e)] at k
      simp only [ew_rec] at k
      have l0 : ("it has no recipe: " : Str).length = 18 := by decide +kernel
      exact ⟨_, rfl, by rw [l0]; omega, _, rfl, _, rfl, lim_log hl, _, rfl, by rw [l0]; omega, by show 1 ≤ sizeLine; omega, k⟩
    · have e' := isS_of' e
      unfold ChgQ at k
      rw [chg_strike1 e'] at k
      simp only [ew_done] at k
      rw [e'] at hs
      obtain ⟨v, hv⟩ := Option.isSome_iff_exists.mp hs
      refine ⟨_, rfl, p, c.Y, dx, _, _, rfl, o, G.clY, G.recipes, fsY_recipes, b, rfl, .inl ⟨kr, .inl r1⟩, _, rfl, kr, .inl t, v, r1, rfl, hv, ?_⟩
      exact k _ (fun x q _ n2 _ e => by rw [upd_ne n2]; exact e) (Y.setR (r2.drop t) (upF_drop r3 t) (by have := len_drop R t; omega) (Nat.le_succ _))
theorem scLose : FnScope ["self", "thing"] ["self", "thing"] (defScope sYardLose) := ⟨rfl, rfl, rfl, by decide +kernel, rfl, by decide +kernel, by decide +kernel⟩
theorem m_lose (F : AtM K c.Y "lose" "Yard.lose" sYardLose f fd) (G : PgK K mg c) : MOwnX P w K mg base c.Y "lose" 1 ["self", "thing"] (spLose c) := by
  refine F.ownX scLose (fun _ _ _ _ _ _ us hl => match us, hl with | [_, _], _ => rfl) (fun vs H Q E h => ?_) (fun cdv A outer s H vs Q E hr h => ?_)
  · obtain ⟨B, p, a, b, z, y, n, m, t, rfl, _⟩ := h
    rfl
  · obtain ⟨B, p, a, b, z, y, n, m, t, rfl, Y, hB, hn, hl, k⟩ := h
    have sc := scLose
    have hu := units_of hr
    have hu1 := Nat.lt_of_le_of_lt (Nat.add_le_add_left (by decide : 1 ≤ 64) _) hu
    have big := line10000
    have tl := lim_len0 (lim_log hl)
    have Y' := Y
    obtain ⟨⟨dx, o⟩, _, _, ⟨kz, Z, z1, z2, z3, z4, z5⟩, ab, az, bz⟩ := Y'
    refine ⟨_, (pss_cons (ps_if (pt_cmp (pc_dnotin hu1 (pv 1) (pe_fld (pv 0) rfl))) (pss_one (ps_raise rais_cx rfl G.mNT G.xNT rfl (pa_cons (pe_join2 pe_str (pe_fmtI (pv 1))) pa_nil))) pss_nil)
      (pss_one (ps_expr (pe_dpop1 (pe_fld (pv 0) rfl) (pv 1) ⟨rfl, rfl, rfl, rfl⟩)))), ?_⟩
    refine ⟨_, rfl, _, rfl, p, c.Y, dx, _, _, rfl, o, G.clY, G.shelf, fsY_shelf, z, _, rfl, DGet.k (k := .inl t) z1, _, rfl, ?_⟩
    have hs := z2.has t
    rw [z3] at hs
    rw [hs]
    refine ite2 (fun e => ?_) (fun e => ?_)
    · unfold ChgQ at k
      rw [chg_lose2 (isS_of e)] at k
      simp only [ew_not] at k
      have l0 : ("nothing lies on the shelf of it: " : Str).length = 33 := by decide +kernel
      exact ⟨_, rfl, by rw [l0]; omega, _, rfl, _, rfl, lim_log hl, _, rfl, by rw [l0]; omega, by show 1 ≤ sizeLine; omega, k⟩
    · have e' := isS_of' e
      unfold ChgQ at k
      rw [chg_lose1 e'] at k
      simp only [ew_done] at k
      rw [e'] at hs
      obtain ⟨v, hv⟩ := Option.isSome_iff_exists.mp hs
      refine ⟨_, rfl, p, c.Y, dx, _, _, rfl, o, G.clY, G.shelf, fsY_shelf, z, rfl, .inl ⟨kz, .inl z1⟩, _, rfl, kz, .inl t, v, z1, rfl, hv, ?_⟩
      exact k _ (fun x q _ _ n3 e => by rw [upd_ne n3]; exact e) ((Y.setZ (z2.drop t) (upF_drop z3 t) (nd_drop Z t z4) (by have := len_drop Z t; omega)).le (Nat.le_succ _) (Nat.le_refl _))
end
end Lw
set_option Elab.async false
set_option linter.all false
set_option maxRecDepth 100000
set_option maxHeartbeats 4000000
namespace Lw
open PySem L2 PyProof.Rows Yd
section
variable {P : Program} {w : World} {K : PySem.W.Frag} {mg : Str → Option Value} {base : Heap} {f : Addr} {fd : FuncData} {c : Pc}
theorem scChange : FnScope ["yard", "deed", "kind", "thing"] ["yard", "deed"] (defScope sChange) := ⟨rfl, rfl, rfl, by decide +kernel, rfl, by decide +kernel, by decide +kernel⟩
theorem own_change (F : At K mg "change" sChange f fd) (G : PgK K mg c) (D1 : MOwnX P w K mg base c.Y "set_source" 1 ["self", "thing", "number"] (spSetS c)) (D2 : MOwnX P w K mg base c.Y "drop_source" 1 ["self", "thing"] (spDropS c))
    (D3 : MOwnX P w K mg base c.Y "set_recipe" 4 ["self", "thing", "sort", "makings"] (spSetR c)) (D4 : MOwnX P w K mg base c.Y "drop_recipe" 1 ["self", "thing"] (spDropR c)) (D5 : MOwnX P w K mg base c.Y "lose" 1 ["self", "thing"] (spLose c)) :
    OwnX P w K mg base "change" 5 ["yard", "deed"] (spChange c) := by
  refine F.ownX scChange (fun _ _ _ _ _ _ us hl => match us, hl with | [_, _], _ => rfl) (fun vs H Q E h => ?_) (fun cdv A outer s H vs Q E hr h => ?_)
  · obtain ⟨B, p, a, b, z, y, n, m, v, d, rfl, _⟩ := h
    rfl
  · obtain ⟨B, p, a, b, z, y, n, m, v, d, rfl, Y, hB, hn, ⟨ad, l, rfl, had, hmk⟩, hok, nm, k⟩ := h
    have sc := scChange
    have hr1 : Room 1 _ := hr.mono (by decide)
    obtain ⟨dx, o⟩ := Y.ob
    have hT : SqT K H ad (d.row l) := SqT.of had
    refine ⟨_, (pss_cons (ps_set (i := 2) sc.nd rfl (Or.inl rfl) (pe_ix ix_tup (pv 1) pe_int (fun _ _ => rfl)))
      (pss_cons (ps_set (i := 3) sc.nd rfl (Or.inl rfl) (pe_ix ix_tup (pv 1) pe_int (fun _ _ => rfl)))
      (pss_one (ps_if (pt_cmpR op_eq (pv 2) pe_str (nomark _)) (pss_one (ps_expr (pe_mth D1 (pv 0) hr1 passE_cx (pa_cons (pv 3) (pa_cons (pe_ix ix_tup (pv 1) pe_int (fun _ _ => rfl)) pa_nil))))) (pss_one (ps_if (pt_cmpR op_eq (pv 2) pe_str (nomark _)) (pss_one (ps_expr (pe_mth D2 (pv 0) hr1 passE_cx (pa_cons (pv 3) pa_nil)))) (pss_one (ps_if (pt_cmpR op_eq (pv 2) pe_str (nomark _)) (pss_one (ps_expr (pe_mth D3 (pv 0) hr passE_cx (pa_cons (pv 3) (pa_cons (pe_ix ix_tup (pv 1) pe_int (fun _ _ => rfl)) (pa_cons (pe_ix ix_tup (pv 1) pe_int (fun _ _ => rfl)) pa_nil)))))) (pss_one (ps_if (pt_cmpR op_eq (pv 2) pe_str (nomark _)) (pss_one (ps_expr (pe_mth D4 (pv 0) hr1 passE_cx (pa_cons (pv 3) pa_nil)))) (pss_one (ps_expr (pe_mth D5 (pv 0) hr1 passE_cx (pa_cons (pv 3) pa_nil)))))))))))))), ?_⟩
    cases d with
    | make t => exact absurd rfl (nm t)
    | set t x =>
      refine ⟨_, rfl, ad, _, _, _, rfl, rfl, hT, atI0 _ _, _, rfl, ad, _, _, _, rfl, rfl, hT, atI1 _ _ _, _, rfl, rfl, _, rfl, ?_⟩
      refine ite2 (fun _ => ?_) (fun e => absurd (by decide +kernel) e)
      exact ⟨_, rfl, p, dx, _, rfl, o, fsY_no (by decide +kernel) (by decide +kernel) (by decide +kernel), _, rfl, _, rfl, ad, _, _, _, rfl, rfl, hT, atI2 _ _ _ _, B, p, a, b, z, y, n, m, t, x, rfl, Y, hB, hn, hok.2.1, k⟩
    | drop t =>
      refine ⟨_, rfl, ad, _, _, _, rfl, rfl, hT, atI0 _ _, _, rfl, ad, _, _, _, rfl, rfl, hT, atI1 _ _ _, _, rfl, rfl, _, rfl, ?_⟩
      refine ite2 (fun e => absurd e (by decide +kernel)) (fun _ => ?_)
      refine ⟨_, rfl, rfl, _, rfl, ite2 (fun _ => ?_) (fun e => absurd (by decide +kernel) e)⟩
      exact ⟨_, rfl, p, dx, _, rfl, o, fsY_no (by decide +kernel) (by decide +kernel) (by decide +kernel), _, rfl, B, p, a, b, z, y, n, m, t, rfl, Y, hB, hn, hok.2.1, k⟩
    | rcp t x ms =>
      refine ⟨_, rfl, ad, _, _, _, rfl, rfl, hT, atI0 _ _, _, rfl, ad, _, _, _, rfl, rfl, hT, atI1 _ _ _, _, rfl, rfl, _, rfl, ?_⟩
      refine ite2 (fun e => absurd e (by decide +kernel)) (fun _ => ?_)
      refine ⟨_, rfl, rfl, _, rfl, ite2 (fun e => absurd e (by decide +kernel)) (fun _ => ?_)⟩
      refine ⟨_, rfl, rfl, _, rfl, ite2 (fun _ => ?_) (fun e => absurd (by decide +kernel) e)⟩
      exact ⟨_, rfl, p, dx, _, rfl, o, fsY_no (by decide +kernel) (by decide +kernel) (by decide +kernel), _, rfl, _, rfl, ad, _, _, _, rfl, rfl, hT, atI2 _ _ _ _, _, rfl, ad, _, _, _, rfl, rfl, hT, atI3 _ _ _ _ _, B, p, a, b, z, l, y, n, m, t, x, ms, rfl, Y, hB, hn, hok.2.1, hmk, by have := hok.1.2.2; omega, hok.1.1.1, k⟩
    | strike t =>
      refine ⟨_, rfl, ad, _, _, _, rfl, rfl, hT, atI0 _ _, _, rfl, ad, _, _, _, rfl, rfl, hT, atI1 _ _ _, _, rfl, rfl, _, rfl, ?_⟩
      refine ite2 (fun e => absurd e (by decide +kernel)) (fun _ => ?_)
      refine ⟨_, rfl, rfl, _, rfl, ite2 (fun e => absurd e (by decide +kernel)) (fun _ => ?_)⟩
      refine ⟨_, rfl, rfl, _, rfl, ite2 (fun e => absurd e (by decide +kernel)) (fun _ => ?_)⟩
      refine ⟨_, rfl, rfl, _, rfl, ite2 (fun _ => ?_) (fun e => absurd (by decide +kernel) e)⟩
      exact ⟨_, rfl, p, dx, _, rfl, o, fsY_no (by decide +kernel) (by decide +kernel) (by decide +kernel), _, rfl, B, p, a, b, z, y, n, m, t, rfl, Y, hB, hn, hok.2.1, k⟩
    | lose t =>
      refine ⟨_, rfl, ad, _, _, _, rfl, rfl, hT, atI0 _ _, _, rfl, ad, _, _, _, rfl, rfl, hT, atI1 _ _ _, _, rfl, rfl, _, rfl, ?_⟩
      refine ite2 (fun e => absurd e (by decide +kernel)) (fun _ => ?_)
      refine ⟨_, rfl, rfl, _, rfl, ite2 (fun e => absurd e (by decide +kernel)) (fun _ => ?_)⟩
      refine ⟨_, rfl, rfl, _, rfl, ite2 (fun e => absurd e (by decide +kernel)) (fun _ => ?_)⟩
      refine ⟨_, rfl, rfl, _, rfl, ite2 (fun e => absurd e (by decide +kernel)) (fun _ => ?_)⟩
      exact ⟨_, rfl, p, dx, _, rfl, o, fsY_no (by decide +kernel) (by decide +kernel) (by decide +kernel), _, rfl, B, p, a, b, z, y, n, m, t, rfl, Y, hB, hn, hok.2.1, k⟩
theorem scChangeAnswer : FnScope ["yard", "deed"] ["yard", "deed"] (defScope sChangeAnswer) := ⟨rfl, rfl, rfl, by decide +kernel, rfl, by decide +kernel, by decide +kernel⟩
theorem chg_words (y : Ys) (d : Deed) : (chg y d).2 = "done" ∨ ((chg y d).1 = y ∧ ((chg y d).2 = "has recipe" ∨ (chg y d).2 = "no source" ∨ (chg y d).2 = "no sort" ∨ (chg y d).2 = "is source" ∨ (chg y d).2 = "no recipe" ∨ (chg y d).2 = "not there")) := by
  cases d with
  | set t n => unfold chg; dsimp only; by_cases e : (y.R t).isSome = true <;> simp only [e] <;> simp
  | drop t => unfold chg; dsimp only; by_cases e : (y.S t).isSome = true <;> simp only [e] <;> simp
  | rcp t s ms =>
    unfold chg
    dsimp only
    by_cases e : s ∈ good3
    · by_cases e2 : (y.S t).isSome = true
      · simp only [if_pos e, if_pos e2]; simp
      · simp only [if_pos e, if_neg e2]; simp
    · simp only [if_neg e]; simp
  | strike t => unfold chg; dsimp only; by_cases e : (y.R t).isSome = true <;> simp only [e] <;> simp
  | lose t => unfold chg; dsimp only; by_cases e : (y.sh t).isSome = true <;> simp only [e] <;> simp
  | make t => exact .inl rfl
theorem own_chgAns (F : At K mg "change_answer" sChangeAnswer f fd) (G : PgK K mg c) (Xc : PgX K c) (D : OwnX P w K mg base "change" 5 ["yard", "deed"] (spChange c)) : Own P w K mg base "change_answer" 6 ["yard", "deed"] (spChgAns c) := by
  refine F.own scChangeAnswer (fun _ _ _ _ _ _ us hl => match us, hl with | [_, _], _ => rfl) (fun vs H Q E h => ?_) (fun cdv A outer s H vs Q E hr h => ?_)
  · obtain ⟨B, p, a, b, z, y, n, m, v, d, rfl, _⟩ := h
    rfl
  · obtain ⟨B, p, a, b, z, y, n, m, v, d, rfl, Y, hB, hn, hd, hok, nm, k⟩ := h
    refine ⟨_, pss_cons (ps_try (P := P) (w := w) rfl rfl rfl rfl
        (Hds.bare ⟨rfl, by decide, .inl G.mHR⟩ (fun _ => pss_one (ps_ret pe_str)) (Hds.bare ⟨rfl, by decide, .inl G.mNS⟩ (fun _ => pss_one (ps_ret pe_str)) (Hds.bare ⟨rfl, by decide, .inl G.mSO⟩ (fun _ => pss_one (ps_ret pe_str))
          (Hds.bare ⟨rfl, by decide, .inl G.mIS⟩ (fun _ => pss_one (ps_ret pe_str)) (Hds.bare ⟨rfl, by decide, .inl G.mNR⟩ (fun _ => pss_one (ps_ret pe_str)) (Hds.bare ⟨rfl, by decide, .inl G.mNT⟩ (fun _ => pss_one (ps_ret pe_str)) .nil))))))
        (fun pn E EX hp => pss_one (ps_expr (pe_ownT D hr rfl hp (pa_cons (pv 0) (pa_cons (pv 1) pa_nil))))) pss_nil)
      (pss_one (ps_ret pe_str)), ?_⟩
    refine ⟨_, rfl, _, rfl, B, p, a, b, z, y, n, m, v, d, rfl, Y, hB, hn, hd, hok, nm, ?_⟩
    unfold ChgQ
    rcases chg_words y d with e | ⟨e0, e⟩
    · rw [e] at k
      rw [e]
      simp only [ew_done]
      exact fun H' b3 Y' => k H' b3 Y'
    · have kk := k H (But3.of (Same.refl H)) (by rw [e0]; exact Y.le (Nat.le_succ _) (Nat.le_refl _))
      rcases e with e | e | e | e | e | e
      · rw [e] at kk ⊢
        simp only [ew_has]
        exact .inl ⟨Xc.e00, kk⟩
      · rw [e] at kk ⊢
        simp only [ew_src]
        exact .inr ⟨Xc.e10, .inl ⟨Xc.e11, kk⟩⟩
      · rw [e] at kk ⊢
        simp only [ew_sort]
        exact .inr ⟨Xc.e20, .inr ⟨Xc.e21, .inl ⟨Xc.e22, kk⟩⟩⟩
      · rw [e] at kk ⊢
        simp only [ew_is]
        exact .inr ⟨Xc.e30, .inr ⟨Xc.e31, .inr ⟨Xc.e32, .inl ⟨Xc.e33, kk⟩⟩⟩⟩
      · rw [e] at kk ⊢
        simp only [ew_rec]
        exact .inr ⟨Xc.e40, .inr ⟨Xc.e41, .inr ⟨Xc.e42, .inr ⟨Xc.e43, .inl ⟨Xc.e44, kk⟩⟩⟩⟩⟩
      · rw [e] at kk ⊢
        simp only [ew_not]
        exact .inr ⟨Xc.e50, .inr ⟨Xc.e51, .inr ⟨Xc.e52, .inr ⟨Xc.e53, .inr ⟨Xc.e54, .inl ⟨Xc.e55, kk⟩⟩⟩⟩⟩⟩
theorem scAnswerTo : FnScope ["yard", "deed"] ["yard", "deed"] (defScope sAnswerTo) := ⟨rfl, rfl, rfl, by decide +kernel, rfl, by decide +kernel, by decide +kernel⟩
theorem own_ansTo (F : At K mg "answer_to" sAnswerTo f fd) (G : PgK K mg c) (Da : MOwn P w K mg base c.Y "ask" 5 ["self", "thing"] (spAsk c)) (Dc : Own P w K mg base "change_answer" 6 ["yard", "deed"] (spChgAns c)) : Own P w K mg base "answer_to" 7 ["yard", "deed"] (spAnsTo c) := by
  refine F.own scAnswerTo (fun _ _ _ _ _ _ us hl => match us, hl with | [_, _], _ => rfl) (fun vs H Q E h => ?_) (fun cdv A outer s H vs Q E hr h => ?_)
  · obtain ⟨B, p, a, b, z, y, n, m, v, d, rfl, _⟩ := h
    rfl
  · obtain ⟨B, p, a, b, z, y, n, m, v, d, rfl, Y, hB, W, hn, hm, hd, hok, k⟩ := h
    have sc := scAnswerTo
    have hr5 : Room 5 _ := hr.mono (by decide)
    have hd0 := hd
    obtain ⟨ad, l, rfl, had, hmk⟩ := hd
    obtain ⟨dx, o⟩ := Y.ob
    have hT : SqT K H ad (d.row l) := SqT.of had
    obtain ⟨x0, r0, e0, iff0⟩ := row0m d l
    refine ⟨_, (pss_cons (ps_if (pt_cmpR op_eq (pe_ix ix_tup (pv 1) pe_int (fun _ _ => rfl)) pe_str (nomark _)) (pss_one (ps_ret (pe_mth Da (pv 0) hr5 pass0 (pa_cons (pe_ix ix_tup (pv 1) pe_int (fun _ _ => rfl)) pa_nil)))) pss_nil)
      (pss_one (ps_ret (pe_own Dc hr rfl (pa_cons (pv 0) (pa_cons (pv 1) pa_nil)))))), ?_⟩
    refine ⟨_, rfl, ad, _, _, _, rfl, rfl, hT, by rw [e0]; exact atI0 _ _, rfl, _, rfl, ?_⟩
    refine ite2 (fun e => ?_) (fun e => ?_)
    · obtain ⟨t, rfl⟩ := iff0.mp (V.str.inj (of_decide_eq_true e))
      exact ⟨_, rfl, p, dx, _, rfl, o, fsY_no (by decide +kernel) (by decide +kernel) (by decide +kernel), _, rfl, ad, _, _, _, rfl, rfl, hT, atI1 _ _ _, B, p, a, b, z, y, n, m, t, rfl, Y, hB, W, hn, hm, fun u H' b3 Y' an => k u H' b3 (Y'.le (Nat.le_succ _) (Nat.le_refl _)) an⟩
    · have nm : ∀ t, d ≠ .make t := fun t q => e (decide_eq_true (congrArg V.str (iff0.mpr ⟨t, q⟩)))
      refine ⟨_, rfl, _, rfl, B, p, a, b, z, y, n, m, _, d, rfl, Y, hB, by omega, hd0, hok, nm, fun H' b3 Y' => ?_⟩
      have := k (.str (chg y d).2) H' b3
      rw [step_not nm] at this
      exact this (Y'.le (Nat.le_refl _) (by omega)) rfl
theorem scAnswers : FnScope ["deeds", "yard"] ["deeds"] (defScope sAnswers) := ⟨rfl, rfl, rfl, by decide +kernel, rfl, by decide +kernel, by decide +kernel⟩
theorem AnsNew.at_ {H0 H : Hp} {v : V} {x : Ans} (h : AnsNew H0 H v x) : AnsAt H v x := by
  cases x with
  | word s => exact h
  | made n told => obtain ⟨a, l, e, h1, h2, _⟩ := h; exact ⟨a, l, e, h1, h2⟩
  | fails w tr told => obtain ⟨a, l, m, e, h1, h2, h3, _⟩ := h; exact ⟨a, l, m, e, h1, h2, h3⟩
def AnsOff (D : Addr) (H : Hp) (v : V) : Ans → Prop
  | .word s => v = .str s
  | .made n told => ∃ a l, v = .ref a ∧ H a = some (.tup [.str "made", .int n, .ref l]) ∧ H l = some (.lst (told.map V.int)) ∧ l ≠ D
  | .fails w tr told => ∃ a l m, v = .ref a ∧ H a = some (.tup [.str "fails", .str w, .ref l, .ref m]) ∧ H l = some (.lst (tr.map V.int)) ∧ H m = some (.lst (told.map V.int)) ∧ l ≠ D ∧ m ≠ D
theorem AnsNew.off {H0 H : Hp} {D : Addr} {v : V} {x : Ans} (h : AnsNew H0 H v x) (hD : H0 D ≠ none) : AnsOff D H v x := by
  cases x with
  | word s => exact h
  | made n told => obtain ⟨a, l, e, h1, h2, h3⟩ := h; exact ⟨a, l, e, h1, h2, fun z => hD (z ▸ h3)⟩
  | fails w tr told => obtain ⟨a, l, m, e, h1, h2, h3, h4, h5⟩ := h; exact ⟨a, l, m, e, h1, h2, h3, fun z => hD (z ▸ h4), fun z => hD (z ▸ h5)⟩
theorem AnsOff.kp {H H' : Hp} {D : Addr} {v : V} {x : Ans} (h : AnsOff D H v x) (k : Kp H H') : AnsOff D H' v x := by
  cases x with
  | word s => exact h
  | made n told => obtain ⟨a, l, e, h1, h2, h3⟩ := h; exact ⟨a, l, e, k.tup h1, k.lst h2, h3⟩
  | fails w tr told => obtain ⟨a, l, m, e, h1, h2, h3, h4⟩ := h; exact ⟨a, l, m, e, k.tup h1, k.lst h2, k.lst h3, h4⟩
theorem AnsOff.upd {H : Hp} {D : Addr} {v : V} {x : Ans} {us us' : List V} (h : AnsOff D H v x) (hD : H D = some (.lst us)) : AnsOff D (L2.upd H D (.lst us')) v x := by
  cases x with
  | word s => exact h
  | made n told =>
    obtain ⟨a, l, e, h1, h2, h3⟩ := h
    exact ⟨a, l, e, by rw [upd_ne (ne_of h1 hD (by intro z; cases z))]; exact h1, by rw [upd_ne h3]; exact h2, h3⟩
  | fails w tr told =>
    obtain ⟨a, l, m, e, h1, h2, h3, h4, h5⟩ := h
    exact ⟨a, l, m, e, by rw [upd_ne (ne_of h1 hD (by intro z; cases z))]; exact h1, by rw [upd_ne h4]; exact h2, by rw [upd_ne h5]; exact h3, h4, h5⟩
theorem AnsOff.at_ {H : Hp} {D : Addr} {v : V} {x : Ans} (h : AnsOff D H v x) : AnsAt H v x := by
  cases x with
  | word s => exact h
  | made n told => obtain ⟨a, l, e, h1, h2, _⟩ := h; exact ⟨a, l, e, h1, h2⟩
  | fails w tr told => obtain ⟨a, l, m, e, h1, h2, h3, _⟩ := h; exact ⟨a, l, m, e, h1, h2, h3⟩
theorem run_take {ds : List Deed} {i : Nat} {d : Deed} (h : ds[i]? = some d) (y : Ys) : run y (ds.take (i + 1)) = run y (ds.take i) ++ [(step (after y (ds.take i)) d).2] := by
  have sn : ∀ (es : List Deed) (y : Ys), run y (es ++ [d]) = run y es ++ [(step (after y es) d).2] := by
    intro es
    induction es with
    | nil => intro y; rfl
    | cons e es ih => intro y; show _ :: run _ (es ++ [d]) = _ :: (run _ es ++ _); rw [ih]; rfl
  rw [List.take_add_one, h]
  exact sn _ y
theorem own_answers (F : At K mg "answers" sAnswers f fd) (G : PgK K mg c) (Dy : MkC P w K mg base c.Y "Yard" 1 ["self"] (spYdInit c)) (Dt : Own P w K mg base "answer_to" 7 ["yard", "deed"] (spAnsTo c)) : Own P w K mg base "answers" 8 ["deeds"] spAnswers := by
  refine F.own scAnswers (fun _ _ _ _ _ _ us hl => match us, hl with | [_], _ => rfl) (fun vs H Q E h => ?_) (fun cdv A outer s H vs Q E hr h => ?_)
  · obtain ⟨p, ds, rfl, _⟩ := h
    rfl
  · obtain ⟨q, ds, rfl, ⟨us, hq, hus⟩, hok, hlen, k⟩ := h
    have sc := scAnswers
    have hr2 : Room 2 _ := hr.mono (by decide)
    have big := line10000
    refine ⟨_, (pss_cons (ps_set (i := 1) sc.nd rfl (Or.inr rfl) (pe_mk0 Dy hr2 rfl))
      (pss_one (ps_ret (pe_comp (N := ["deed", "yard"]) (places := [1]) rfl (blk_of (by rfl) (by decide +kernel) rfl (by decide +kernel) rfl rfl (by decide +kernel) rfl (fun p hp => by rw [List.mem_singleton.mp hp]; rfl) (blkHas' [(".0", .local), ("deed", .local), ("answer_to", .globalImplicit), ("yard", .cell)] rfl (by decide +kernel)) (blkAt rfl rfl)) (pi_list (pv 0)) (fun _ _ _ _ _ => .none) (fun _ _ _ _ _ => (pe_own Dt hr rfl (pa_cons (pv 1) (pa_cons (pv 0) pa_nil)))))))), ?_⟩
    refine fun p dp hp hdp hne => ?_
    have s0 : Same H (upd (upd H dp (.own p)) p (.ins c.Y dp [])) := fun b' o' e' => by rw [upd_ne (ne_of_none e' hp), upd_ne (ne_of_none e' hdp)]; exact e'
    refine ⟨p, dp, rfl, upd_same, fun a b z H1 ha hb hz bt Y0 => ⟨rfl, ?_⟩⟩
    have s1 : Same H H1 := fun b' o' e' => bt b' o' (ne_of_none e' hp) (s0 _ _ e')
    have ha0 : H a = none := s0.free ha
    have hb0 : H b = none := s0.free hb
    have hz0 : H z = none := s0.free hz
    have hq1 := s1 _ _ hq
    refine ⟨_, rfl, q, rfl, ⟨_, SqL.of hq1⟩, fun D hD => ?_⟩
    have hD0 : H D = none := s1.free hD
    refine cmp_list (K := K) (a := q) (xs := us) (fun i H2 ys => Same H H2 ∧ YdAt c [D] H2 p a b z (after Ys.e0 (ds.take i)) i (300 * i) ∧ H2 D = some (.lst ys) ∧ All2 (AnsOff D H2) ys (run Ys.e0 (ds.take i)) ∧ ys.length = i) (by rw [hus.len]; omega)
      ⟨Same.put s1 hD0, ((Y0 [D]).same (Same.upd hD)), upd_same, .nil, rfl⟩ (fun i H2 ys ⟨sm, _, h3, _, h5⟩ => ⟨SqL.of (sm _ _ hq), h3, h5⟩) ?_ ?_ ?_
    · rintro i x H2 ys hx ⟨sm, Y2, h3, h4, h5⟩
      obtain ⟨d, hd, hat⟩ := all2_get hus i x hx
      have hil : i < ds.length := (List.getElem?_eq_some_iff.mp hd).1
      have Wi : Wf i (after Ys.e0 (ds.take i)) := by
        have hlt : (ds.take i).length = i := by rw [List.length_take]; omega
        have := Wf.e0.after (ds.take i) (by rw [hlt]; omega) fun d hd => hok d (List.mem_of_mem_take hd)
        rw [hlt, Nat.zero_add] at this
        exact this
      refine ⟨_, rfl, _, rfl, [D], p, a, b, z, after Ys.e0 (ds.take i), i, 300 * i, x, d, rfl, Y2, (fun u hu => by rw [List.mem_singleton.mp hu, h3]; exact Option.some_ne_none _), Wi, by omega, by omega, hat.same sm, hok d (List.mem_of_getElem? hd), fun u H3 b3 Y3 an => ?_⟩
      have kp := b3.kp Y2
      have h3' := kp.lst h3
      have sm3 : Same H H3 := fun b' o' e' => b3 b' o' (ne_of_none e' ha0) (ne_of_none e' hb0) (ne_of_none e' hz0) (sm _ _ e')
      refine ⟨h3', Same.put sm3 hD0, ?_, upd_same, ?_, by simp [h5]⟩
      · rw [after_take hd]
        have hDd : ∀ x o, x = a ∨ x = b ∨ x = z → H3 x = some o → (upd H3 D (.lst (ys ++ [u]))) x = some o := fun x o hx e => by
          have : x ≠ D := by
            obtain ⟨_, ⟨S', ⟨ks', s0', _⟩, _⟩, ⟨kr', R', r1', _⟩, ⟨kz', Z', z1'', _⟩, _⟩ := id Y3
            rcases hx with rfl | rfl | rfl
            · exact ne_of s0' h3' (by intro q; cases q)
            · exact ne_of r1' h3' (by intro q; cases q)
            · exact ne_of z1'' h3' (by intro q; cases q)
          rw [upd_ne this]; exact e
        exact (Y3.kp (KpB.lst h3' (by simp)) hDd).le (Nat.le_refl _) (by omega)
      · rw [run_take hd]
        refine all2_snoc (h4.imp fun _ _ q => (q.kp kp).upd h3') ((an.off (by rw [h3]; exact Option.some_ne_none _)).upd h3')
    · rintro σ H2 Q1 Q2 hQ ⟨v1, e1, v2, e2, B', p', a', b', z', y', n', m', x', d', e3, e4, e5, e6, e7, e8, e9, e10, kk⟩
      exact ⟨v1, e1, v2, e2, B', p', a', b', z', y', n', m', x', d', e3, e4, e5, e6, e7, e8, e9, e10, fun u H' b3 Y' an => hQ _ _ (kk u H' b3 Y' an)⟩
    · rintro H2 ys ⟨sm, Y2, h3, h4, h5⟩
      rw [hus.len, List.take_of_length_le (Nat.le_refl _)] at h4
      exact k D ys H2 sm h3 (h4.imp fun _ _ q => q.at_)
end
end Lw
set_option Elab.async false
set_option linter.all false
set_option maxRecDepth 100000
set_option maxHeartbeats 4000000
namespace Lw
open PySem L2 PyProof.Rows Yd
def hbody (st : Stmt) : List Stmt := match (defBody st).getD 1 (.Pass ⟨0, 0, 0, 0⟩) with
  | .Try _ (.ExceptHandler _ _ b _ :: _) _ _ _ => b
  | _ => []
section
variable {P : Program} {w : World} {K : PySem.W.Frag} {mg : Str → Option Value} {base : Heap} {f : Addr} {fd : FuncData} {c : Pc} {CY CF : Addr}
theorem scAnswered : FnScope ["_law_yard", "_law_deed", "_law_word", "e"] ["_law_yard", "_law_deed"] (defScope sAnswered) := ⟨rfl, rfl, rfl, by decide +kernel, rfl, by decide +kernel, by decide +kernel⟩
theorem suite_ok (B : Blt mg) (G : PgK K mg c) (Gy : PgY K mg c CY CF) {cdv : Value} {A : Around} {outer : List Env} {s : Shared} {H : Hp} {E : XK} :
    ∃ t : TS, (∀ e, PSs ((cxOf CX0 P w K mg base ["_law_yard", "_law_deed", "_law_word", "e"] "_law_answered" (defScope sAnswered) f cdv A outer s H E).nox.suite e) (hbody sAnswered) t) ∧
      ∀ (i : Nat) (C ea : Addr) (u0 u1 w0 : Option V) (D : Ends) (H1 : Hp), [c.SO, c.HR, c.IS, c.NS, c.NR, c.NT, CF][i]? = some C → H1 ea = some (.ext (ExcIs ea (.ref C))) →
        (∀ tp H', Same H1 H' → H' tp = some (.tup [.str "refused", .str (look7 i)]) → D.nx [u0, u1, some (.ref tp), some (.ref ea)] H') → t D [u0, u1, w0, some (.ref ea)] H1 := by
  have sc := scAnswered
  have z2 : 2 ≤ sizeLine := by decide
  refine ⟨_, fun e => (pss_cons (ps_set (i := 2) sc.nd rfl (Or.inl rfl) pe_str)
      (pss_cutE (ps_if (pt_val (pe_callB (call_isiX (K := K) rfl) rfl B.isi boot_isinstance (pa_cons (pv 3) (pa_cons (pe_glob (v := .ref c.SO) rfl G.mSO rfl) pa_nil)))) (pss_one (ps_set (i := 2) sc.nd rfl (Or.inl rfl) pe_str)) pss_nil)
      (pss_cutE (ps_if (pt_val (pe_callB (call_isiX (K := K) rfl) rfl B.isi boot_isinstance (pa_cons (pv 3) (pa_cons (pe_glob (v := .ref c.HR) rfl G.mHR rfl) pa_nil)))) (pss_one (ps_set (i := 2) sc.nd rfl (Or.inl rfl) (pe_ix (ix_listK (K := K) rfl) (pe_lst (pa_cons pe_str (pa_cons pe_str pa_nil))) (pe_callTy call_int1 rfl B.int boot_int (pa_cons (pe_cmpR op_eq (pv 2) pe_str (nomark _)) pa_nil)) (fun _ _ => rfl)))) pss_nil)
      (pss_cutE (ps_if (pt_val (pe_callB (call_isiX (K := K) rfl) rfl B.isi boot_isinstance (pa_cons (pv 3) (pa_cons (pe_glob (v := .ref c.IS) rfl G.mIS rfl) pa_nil)))) (pss_one (ps_set (i := 2) sc.nd rfl (Or.inl rfl) (pe_ix (ix_listK (K := K) rfl) (pe_lst (pa_cons pe_str (pa_cons pe_str pa_nil))) (pe_callTy call_int1 rfl B.int boot_int (pa_cons (pe_cmpR op_eq (pv 2) pe_str (nomark _)) pa_nil)) (fun _ _ => rfl)))) pss_nil)
      (pss_cutE (ps_if (pt_val (pe_callB (call_isiX (K := K) rfl) rfl B.isi boot_isinstance (pa_cons (pv 3) (pa_cons (pe_glob (v := .ref c.NS) rfl G.mNS rfl) pa_nil)))) (pss_one (ps_set (i := 2) sc.nd rfl (Or.inl rfl) (pe_ix (ix_listK (K := K) rfl) (pe_lst (pa_cons pe_str (pa_cons pe_str pa_nil))) (pe_callTy call_int1 rfl B.int boot_int (pa_cons (pe_cmpR op_eq (pv 2) pe_str (nomark _)) pa_nil)) (fun _ _ => rfl)))) pss_nil)
      (pss_cutE (ps_if (pt_val (pe_callB (call_isiX (K := K) rfl) rfl B.isi boot_isinstance (pa_cons (pv 3) (pa_cons (pe_glob (v := .ref c.NR) rfl G.mNR rfl) pa_nil)))) (pss_one (ps_set (i := 2) sc.nd rfl (Or.inl rfl) (pe_ix (ix_listK (K := K) rfl) (pe_lst (pa_cons pe_str (pa_cons pe_str pa_nil))) (pe_callTy call_int1 rfl B.int boot_int (pa_cons (pe_cmpR op_eq (pv 2) pe_str (nomark _)) pa_nil)) (fun _ _ => rfl)))) pss_nil)
      (pss_cutE (ps_if (pt_val (pe_callB (call_isiX (K := K) rfl) rfl B.isi boot_isinstance (pa_cons (pv 3) (pa_cons (pe_glob (v := .ref c.NT) rfl G.mNT rfl) pa_nil)))) (pss_one (ps_set (i := 2) sc.nd rfl (Or.inl rfl) (pe_ix (ix_listK (K := K) rfl) (pe_lst (pa_cons pe_str (pa_cons pe_str pa_nil))) (pe_callTy call_int1 rfl B.int boot_int (pa_cons (pe_cmpR op_eq (pv 2) pe_str (nomark _)) pa_nil)) (fun _ _ => rfl)))) pss_nil)
      (pss_cutE (ps_if (pt_val (pe_callB (call_isiX (K := K) rfl) rfl B.isi boot_isinstance (pa_cons (pv 3) (pa_cons (pe_glob (v := .ref CF) rfl Gy.mF rfl) pa_nil)))) (pss_one (ps_set (i := 2) sc.nd rfl (Or.inl rfl) (pe_ix (ix_listK (K := K) rfl) (pe_lst (pa_cons pe_str (pa_cons pe_str pa_nil))) (pe_callTy call_int1 rfl B.int boot_int (pa_cons (pe_cmpR op_eq (pv 2) pe_str (nomark _)) pa_nil)) (fun _ _ => rfl)))) pss_nil)
      (pss_cutE (ps_if (pt_not (pt_val (pe_callB (call_isiX (K := K) rfl) rfl B.isi boot_isinstance (pa_cons (pv 3) (pa_cons (pe_bltn (v := .ty "ValueError") rfl B.ve Boot.«ValueError» rfl) pa_nil))))) (pss_one (ps_set (i := 2) sc.nd rfl (Or.inl rfl) pe_str)) pss_nil)
      (pss_one (ps_set (i := 2) sc.nd rfl (Or.inl rfl) (pe_tup (pa_cons pe_str (pa_cons (pv 2) pa_nil)))))))))))))), ?_⟩
  intro i C ea u0 u1 w0 D H1 hC hea k
  have hCm : C ∈ [c.SO, c.HR, c.IS, c.NS, c.NR, c.NT, CF] := List.mem_of_getElem? hC
  obtain ⟨_, hve, xk⟩ := Gy.under C hCm
  refine ⟨fun σ' H' => Same H1 H' ∧ σ' = [u0, u1, some (.str (if decide (i = 0) = true then "no sort" else "other")), some (.ref ea)], ?_, ?_⟩
  · refine ⟨_, rfl, ea, _, _, C, _, rfl, rfl, hea, xk, Gy.kit i 0 C c.SO hC rfl, _, rfl, ?_⟩
    cases hd : decide (i = 0) with
    | true => exact iteT ⟨Same.refl _, rfl⟩
    | false => exact iteF ⟨Same.refl _, rfl⟩
  rintro σ1 H2 ⟨sm1, rfl⟩
  refine ⟨fun σ' H' => Same H1 H' ∧ σ' = [u0, u1, some (.str (lookW (if decide (i = 0) = true then "no sort" else "other") (decide (i = 1)) "has recipe")), some (.ref ea)], ?_, ?_⟩
  · refine ⟨_, rfl, ea, _, _, C, _, rfl, rfl, (sm1 _ _ hea), xk, Gy.kit i 1 C c.HR hC rfl, _, rfl, ?_⟩
    cases hd : decide (i = 1) with
    | true =>
      refine iteT ⟨z2, fun q hq => ?_⟩
      exact ⟨_, rfl, rfl, .inr ⟨_, rfl, q, _, _, _, rfl, rfl, SqL.of upd_same, ix_look _ _, sm1.trans (Same.upd hq), rfl⟩⟩
    | false => exact iteF ⟨sm1, rfl⟩
  rintro σ2 H3 ⟨sm2, rfl⟩
  refine ⟨fun σ' H' => Same H1 H' ∧ σ' = [u0, u1, some (.str (lookW (lookW (if decide (i = 0) = true then "no sort" else "other") (decide (i = 1)) "has recipe") (decide (i = 2)) "is source")), some (.ref ea)], ?_, ?_⟩
  · refine ⟨_, rfl, ea, _, _, C, _, rfl, rfl, (sm2 _ _ hea), xk, Gy.kit i 2 C c.IS hC rfl, _, rfl, ?_⟩
    cases hd : decide (i = 2) with
    | true =>
      refine iteT ⟨z2, fun q hq => ?_⟩
      exact ⟨_, rfl, rfl, .inr ⟨_, rfl, q, _, _, _, rfl, rfl, SqL.of upd_same, ix_look _ _, sm2.trans (Same.upd hq), rfl⟩⟩
    | false => exact iteF ⟨sm2, rfl⟩
  rintro σ3 H4 ⟨sm3, rfl⟩
  refine ⟨fun σ' H' => Same H1 H' ∧ σ' = [u0, u1, some (.str (lookW (lookW (lookW (if decide (i = 0) = true then "no sort" else "other") (decide (i = 1)) "has recipe") (decide (i = 2)) "is source") (decide (i = 3)) "no source")), some (.ref ea)], ?_, ?_⟩
  · refine ⟨_, rfl, ea, _, _, C, _, rfl, rfl, (sm3 _ _ hea), xk, Gy.kit i 3 C c.NS hC rfl, _, rfl, ?_⟩
    cases hd : decide (i = 3) with
    | true =>
      refine iteT ⟨z2, fun q hq => ?_⟩
      exact ⟨_, rfl, rfl, .inr ⟨_, rfl, q, _, _, _, rfl, rfl, SqL.of upd_same, ix_look _ _, sm3.trans (Same.upd hq), rfl⟩⟩
    | false => exact iteF ⟨sm3, rfl⟩
  rintro σ4 H5 ⟨sm4, rfl⟩
  refine ⟨fun σ' H' => Same H1 H' ∧ σ' = [u0, u1, some (.str (lookW (lookW (lookW (lookW (if decide (i = 0) = true then "no sort" else "other") (decide (i = 1)) "has recipe") (decide (i = 2)) "is source") (decide (i = 3)) "no source") (decide (i = 4)) "no recipe")), some (.ref ea)], ?_, ?_⟩
  · refine ⟨_, rfl, ea, _, _, C, _, rfl, rfl, (sm4 _ _ hea), xk, Gy.kit i 4 C c.NR hC rfl, _, rfl, ?_⟩
    cases hd : decide (i = 4) with
    | true =>
      refine iteT ⟨z2, fun q hq => ?_⟩
      exact ⟨_, rfl, rfl, .inr ⟨_, rfl, q, _, _, _, rfl, rfl, SqL.of upd_same, ix_look _ _, sm4.trans (Same.upd hq), rfl⟩⟩
    | false => exact iteF ⟨sm4, rfl⟩
  rintro σ5 H6 ⟨sm5, rfl⟩
  refine ⟨fun σ' H' => Same H1 H' ∧ σ' = [u0, u1, some (.str (lookW (lookW (lookW (lookW (lookW (if decide (i = 0) = true then "no sort" else "other") (decide (i = 1)) "has recipe") (decide (i = 2)) "is source") (decide (i = 3)) "no source") (decide (i = 4)) "no recipe") (decide (i = 5)) "not there")), some (.ref ea)], ?_, ?_⟩
  · refine ⟨_, rfl, ea, _, _, C, _, rfl, rfl, (sm5 _ _ hea), xk, Gy.kit i 5 C c.NT hC rfl, _, rfl, ?_⟩
    cases hd : decide (i = 5) with
    | true =>
      refine iteT ⟨z2, fun q hq => ?_⟩
      exact ⟨_, rfl, rfl, .inr ⟨_, rfl, q, _, _, _, rfl, rfl, SqL.of upd_same, ix_look _ _, sm5.trans (Same.upd hq), rfl⟩⟩
    | false => exact iteF ⟨sm5, rfl⟩
  rintro σ6 H7 ⟨sm6, rfl⟩
  refine ⟨fun σ' H' => Same H1 H' ∧ σ' = [u0, u1, some (.str (lookW (lookW (lookW (lookW (lookW (lookW (if decide (i = 0) = true then "no sort" else "other") (decide (i = 1)) "has recipe") (decide (i = 2)) "is source") (decide (i = 3)) "no source") (decide (i = 4)) "no recipe") (decide (i = 5)) "not there") (decide (i = 6)) "fails")), some (.ref ea)], ?_, ?_⟩
  · refine ⟨_, rfl, ea, _, _, C, _, rfl, rfl, (sm6 _ _ hea), xk, Gy.kit i 6 C CF hC rfl, _, rfl, ?_⟩
    cases hd : decide (i = 6) with
    | true =>
      refine iteT ⟨z2, fun q hq => ?_⟩
      exact ⟨_, rfl, rfl, .inr ⟨_, rfl, q, _, _, _, rfl, rfl, SqL.of upd_same, ix_look _ _, sm6.trans (Same.upd hq), rfl⟩⟩
    | false => exact iteF ⟨sm6, rfl⟩
  rintro σ7 H8 ⟨sm7, rfl⟩
  refine ⟨fun σ' H' => Same H1 H' ∧ σ' = [u0, u1, some (.str (look7 i)), some (.ref ea)], ?_, ?_⟩
  · refine ⟨_, rfl, ea, _, _, C, _, rfl, rfl, (sm7 _ _ hea), xk, hve, _, rfl, ?_⟩
    exact iteF ⟨sm7, rfl⟩
  rintro σ8 H9 ⟨sm8, rfl⟩
  exact ⟨_, rfl, z2, fun tp htp => k tp _ (sm8.trans (Same.upd htp)) upd_same⟩
theorem own_answered (F : At K mg "_law_answered" sAnswered f fd) (B : Blt mg) (G : PgK K mg c) (Gy : PgY K mg c CY CF) (Dd : OwnX P w K mg base "_law_done" 7 ["_law_yard", "_law_deed"] (spDone c CF)) : Own P w K mg base "_law_answered" 8 ["_law_yard", "_law_deed"] (spAnsd c) := by
  refine F.own scAnswered (fun _ _ _ _ _ _ us hl => match us, hl with | [_, _], _ => rfl) (fun vs H Q E h => ?_) (fun cdv A outer s H vs Q E hr h => ?_)
  · obtain ⟨p, a, b, z, y, n, m, v, d, rfl, _⟩ := h
    rfl
  · obtain ⟨p, a, b, z, y, n, m, v, d, rfl, Y, W, L, hn, hm, hd, hok, k⟩ := h
    have sc := scAnswered
    obtain ⟨ts, hts, rd⟩ := suite_ok (P := P) (w := w) (base := base) (f := f) (cdv := cdv) (A := A) (outer := outer) (s := s) (H := H) (E := E) B G Gy
    refine ⟨_, pss_cons (ps_set (i := 2) sc.nd rfl (Or.inl rfl) pe_str) (pss_cons (ps_try (P := P) (w := w) rfl rfl rfl rfl (Hds.named (i := 3) ⟨rfl, by decide, .inl Gy.mY⟩ sc.nd rfl rfl (fun e => hts e) .nil)
      (fun pn E EX hp => pss_one (ps_set (i := 2) sc.nd rfl (Or.inl rfl) (pe_ownT Dd hr rfl hp (pa_cons (pv 0) (pa_cons (pv 1) pa_nil))))) pss_nil) (pss_one (ps_ret (pv 2)))), ?_⟩
    have word : ∀ s, (∀ t, d ≠ .make t) → (chg y d).2 = s → (step y d).2 = .word s := fun s nm e => by rw [step_not nm, ← e]
    refine ⟨_, rfl, _, rfl, p, a, b, z, y, n, m, v, d, rfl, Y, W, L, hn, hm, hd, hok, ?_, ?_⟩
    · rintro t rfl
      unfold MakeQ
      have k' := k
      rw [show step y (.make t) = ask y t from rfl] at k'
      rcases W.asked (by omega) t with ⟨v', told, e, _⟩ | ⟨wd, tr, told, e, _⟩
      · rw [e] at k' ⊢
        intro H' b3 Y'
        exact ⟨_, rfl, k' (.int v') H' b3 (Y'.le (Nat.le_succ _) (Nat.le_refl _)) rfl⟩
      · rw [e] at k' ⊢
        intro H' b3 Y'
        refine .inl ⟨(Gy.under CF (by simp)).1, fun ea hea => ?_⟩
        refine rd 6 CF ea _ _ _ _ _ rfl upd_same fun tp H2 s2 h2 => ?_
        have s3 := (Same.upd hea (o := .ext (ExcIs ea (.ref CF)))).trans s2
        exact ⟨_, rfl, k' (.ref tp) H2 (b3.trans (But3.of s3)) ((Y'.same s3).le (Nat.le_succ _) (Nat.le_refl _)) ⟨tp, rfl, h2⟩⟩
    · intro nm
      have err : ∀ (i : Nat) (C : Addr) (wd : Str), [c.SO, c.HR, c.IS, c.NS, c.NR, c.NT, CF][i]? = some C → (chg y d).1 = y → (chg y d).2 = wd → look7 i = wd → wd ≠ "done" → ∀ H', Same H H' → ∀ ea, H' ea = none → ts (unb 3 { nx := tRet (tVar 2) { nx := fun _ H' => Q .non H', rt := Q }, rt := Q }) [some (.ref p), some v, some (.str ""), some (.ref ea)] (upd H' ea (.ext (ExcIs ea (.ref C)))) := fun i C wd hC e1 e2 e3 e4 H' s' ea hea => by
        refine rd i C ea _ _ _ _ _ hC upd_same fun tp H2 s2 h2 => ?_
        have s3 := s'.trans ((Same.upd hea (o := .ext (ExcIs ea (.ref C)))).trans s2)
        refine ⟨_, rfl, k (.ref tp) H2 (But3.of s3) ?_ ?_⟩
        · rw [step_not nm]
          show YdAt c [] H2 p a b z (chg y d).1 (n + 1) (m + 300)
          rw [e1]
          exact (Y.same s3).le (Nat.le_succ _) (by omega)
        · rw [word wd nm e2]
          exact .inr ⟨e4, tp, rfl, by rw [h2, e3]⟩
      rcases chg_words y d with e | ⟨e0, e⟩
      · rw [e]
        simp only [ew_done]
        intro H' b3 Y'
        refine ⟨_, rfl, k (.str "done") H' b3 ?_ ?_⟩
        · rw [step_not nm]
          exact Y'.le (Nat.le_refl _) (by omega)
        · rw [word _ nm e]
          exact .inl ⟨rfl, rfl⟩
      · have l7 := look7_is
        rcases e with e | e | e | e | e | e
        · rw [e]
          simp only [ew_has]
          intro H' s'
          exact .inl ⟨(Gy.under c.HR (by simp)).1, fun ea hea => err 1 c.HR _ rfl e0 e (l7 1 (by decide)) (by decide +kernel) H' s' ea hea⟩
        · rw [e]
          simp only [ew_src]
          intro H' s'
          exact .inl ⟨(Gy.under c.NS (by simp)).1, fun ea hea => err 3 c.NS _ rfl e0 e (l7 3 (by decide)) (by decide +kernel) H' s' ea hea⟩
        · rw [e]
          simp only [ew_sort]
          intro H' s'
          exact .inl ⟨(Gy.under c.SO (by simp)).1, fun ea hea => err 0 c.SO _ rfl e0 e (l7 0 (by decide)) (by decide +kernel) H' s' ea hea⟩
        · rw [e]
          simp only [ew_is]
          intro H' s'
          exact .inl ⟨(Gy.under c.IS (by simp)).1, fun ea hea => err 2 c.IS _ rfl e0 e (l7 2 (by decide)) (by decide +kernel) H' s' ea hea⟩
        · rw [e]
          simp only [ew_rec]
          intro H' s'
          exact .inl ⟨(Gy.under c.NR (by simp)).1, fun ea hea => err 4 c.NR _ rfl e0 e (l7 4 (by decide)) (by decide +kernel) H' s' ea hea⟩
        · rw [e]
          simp only [ew_not]
          intro H' s'
          exact .inl ⟨(Gy.under c.NT (by simp)).1, fun ea hea => err 5 c.NT _ rfl e0 e (l7 5 (by decide)) (by decide +kernel) H' s' ea hea⟩
end
end Lw
set_option Elab.async false
set_option linter.all false
set_option maxRecDepth 100000
set_option maxHeartbeats 4000000
namespace Lw
open PySem L2 PyProof.Rows Yd
section
variable {P : Program} {w : World} {K : PySem.W.Frag} {mg : Str → Option Value} {base : Heap} {f : Addr} {fd : FuncData}
theorem scChangedB : FnScope ["_law_sources", "_law_recipes", "_law_shelf", "_law_deed", "_law_thing"] ["_law_sources", "_law_recipes", "_law_shelf", "_law_deed"] (defScope sChanged) := ⟨rfl, rfl, rfl, by decide +kernel, rfl, by decide +kernel, by decide +kernel⟩
theorem own_changedB (F : At K mg "_law_changed" sChanged f fd) (B : Blt mg) : Own P w K mg base "_law_changed" 1 ["_law_sources", "_law_recipes", "_law_shelf", "_law_deed"] spChangedB := by
  refine F.own scChangedB (fun _ _ _ _ _ _ us hl => match us, hl with | [_, _, _, _], _ => rfl) (fun vs H Q E h => ?_) (fun cdv A outer s H vs Q E hr h => ?_)
  · obtain ⟨a, b, c, v, y, d, n, rfl, _⟩ := h
    rfl
  · obtain ⟨a, b, c, v, y, d, n, rfl, Y, hn, ⟨ad, l, rfl, had, hmk⟩, hok, nm, k⟩ := h
    have sc := scChangedB
    have hu := units_of hr
    have hu1 := Nat.lt_of_le_of_lt (Nat.add_le_add_left (by decide : 1 ≤ 64) _) hu
    have big := lineM
    have z2 : 2 ≤ sizeLine := by omega
    have z3 : 3 ≤ sizeLine := by omega
    refine ⟨_, (pss_cons (ps_set (i := 4) sc.nd rfl (Or.inl rfl) (pe_ix ix_tup (pv 3) pe_int (fun _ _ => rfl)))
      (pss_cons (ps_if (pt_cmpR op_eq (pe_ix ix_tup (pv 3) pe_int (fun _ _ => rfl)) pe_str (nomark _)) (pss_cons (ps_if (pt_cmp (pc_din hu1 (pv 4) (pv 1))) (pss_one (ps_ret pe_str)) pss_nil)
      (pss_one (ps_dput hu1 (pv 0) (pv 4) (pe_ix ix_tup (pv 3) pe_int (fun _ _ => rfl)) rfl))) (pss_one (ps_if (pt_cmpR op_eq (pe_ix ix_tup (pv 3) pe_int (fun _ _ => rfl)) pe_str (nomark _)) (pss_cons (ps_if (pt_cmp (pc_dnotin hu1 (pv 4) (pv 0))) (pss_one (ps_ret pe_str)) pss_nil)
      (pss_one (ps_expr (pe_dpop1 (pv 0) (pv 4) ⟨rfl, rfl, rfl, rfl⟩)))) (pss_one (ps_if (pt_cmpR op_eq (pe_ix ix_tup (pv 3) pe_int (fun _ _ => rfl)) pe_str (nomark _)) (pss_cons (ps_if (pt_cmpR op_notIn_seq (pe_ix ix_tup (pv 3) pe_int (fun _ _ => rfl)) (pe_lst (pa_cons pe_str (pa_cons pe_str (pa_cons pe_str pa_nil)))) (by with_unfolding_all rfl)) (pss_one (ps_ret pe_str)) pss_nil)
      (pss_cons (ps_if (pt_cmp (pc_din hu1 (pv 4) (pv 0))) (pss_one (ps_ret pe_str)) pss_nil)
      (pss_one (ps_dput hu1 (pv 1) (pv 4) (pe_tup (pa_cons (pe_ix ix_tup (pv 3) pe_int (fun _ _ => rfl)) (pa_cons (pe_callTy call_list_of rfl B.list boot_list (pa_cons (pe_ix ix_tup (pv 3) pe_int (fun _ _ => rfl)) pa_nil)) pa_nil))) rfl)))) (pss_one (ps_if (pt_cmpR op_eq (pe_ix ix_tup (pv 3) pe_int (fun _ _ => rfl)) pe_str (nomark _)) (pss_cons (ps_if (pt_cmp (pc_dnotin hu1 (pv 4) (pv 1))) (pss_one (ps_ret pe_str)) pss_nil)
      (pss_one (ps_expr (pe_dpop1 (pv 1) (pv 4) ⟨rfl, rfl, rfl, rfl⟩)))) (pss_one (ps_if (pt_cmp (pc_dnotin hu1 (pv 4) (pv 2))) (pss_one (ps_ret pe_str)) (pss_one (ps_expr (pe_dpop1 (pv 2) (pv 4) ⟨rfl, rfl, rfl, rfl⟩))))))))))))
      (pss_one (ps_ret pe_str)))), ?_⟩
    obtain ⟨⟨S, ⟨kS, hkS, rS⟩, fS, lS⟩, ⟨R, ⟨kR, hkR, rR⟩, fR, nR, lR⟩, ⟨Z, ⟨kZ, hkZ, rZ⟩, fZ, nZ, lZ⟩, ab, ac, bc⟩ := Y
    have Y0 : YAt H a b c y (n + 1) := ⟨⟨S, ⟨kS, hkS, rS⟩, fS, by omega⟩, ⟨R, ⟨kR, hkR, rR⟩, fR, nR, by omega⟩, ⟨Z, ⟨kZ, hkZ, rZ⟩, fZ, nZ, by omega⟩, ab, ac, bc⟩
    have lS' := rS.len
    have lR' := rR.len
    have lZ' := rZ.len
    have hT : SqT K H ad (d.row l) := SqT.of had
    obtain ⟨x0, r0, e0, _⟩ := row0 d l
    refine ⟨_, rfl, ad, _, _, _, rfl, rfl, hT, by rw [e0]; exact atI1 _ _ _, ?_⟩
    refine ⟨_, rfl, ad, _, _, _, rfl, rfl, hT, by rw [e0]; exact atI0 _ _, rfl, _, rfl, ?_⟩
    cases d with
    | make t => exact absurd rfl (nm t)
    | set t m =>
      cases e0
      refine ite2 (fun _ => ?_) (fun e => absurd (by decide +kernel) e)
      refine ⟨_, rfl, _, rfl, b, _, rfl, DGet.k (k := .inl t) hkR, _, rfl, ?_⟩
      rw [rR.has t, fR]
      have kk := k
      refine ite2 (fun e => ?_) (fun e => ?_)
      · rw [chg_set1 e] at kk
        exact kk H (Kp.refl _) (But3.of (Same.refl _)) Y0
      · rw [chg_set2 e] at kk
        refine ⟨_, rfl, ad, _, _, _, rfl, rfl, hT, atI2 _ _ _ _, _, rfl, _, rfl, a, _, rfl, .inl ⟨kS, .inl t, hkS, rfl, by omega, rfl⟩, ?_⟩
        have kp := Kp.dict hkS (k' := putK kS (.inl t) (.int m))
        refine kk _ kp (fun x o n1 _ _ e => by rw [upd_ne n1]; exact e) ⟨⟨setA S t m, ⟨_, upd_same, rS.put t rfl⟩, upF_set fS t m, by have := len_set S t m; omega⟩, ⟨R, ⟨kR, by rw [upd_ne ab.symm]; exact hkR, rR.imp fun _ _ q => q.kp kp⟩, fR, nR, by omega⟩, ⟨Z, ⟨kZ, by rw [upd_ne ac.symm]; exact hkZ, rZ.imp fun _ _ q => q.kp kp⟩, fZ, nZ, by omega⟩, ab, ac, bc⟩
    | drop t =>
      cases e0
      refine ite2 (fun e => absurd e (by decide +kernel)) (fun _ => ?_)
      refine ⟨_, rfl, ad, _, _, _, rfl, rfl, hT, atI0 _ _, rfl, _, rfl, ?_⟩
      refine ite2 (fun _ => ?_) (fun e => absurd (by decide +kernel) e)
      refine ⟨_, rfl, _, rfl, a, _, rfl, DGet.k (k := .inl t) hkS, _, rfl, ?_⟩
      have hs := rS.has t
      rw [fS] at hs
      rw [hs]
      have kk := k
      refine ite2 (fun e => ?_) (fun e => ?_)
      · have e' : ¬ (y.S t).isSome = true := fun z => by rw [z] at e; cases e
        rw [chg_drop2 e'] at kk
        exact kk H (Kp.refl _) (But3.of (Same.refl _)) Y0
      · have e' : (y.S t).isSome = true := by cases q : (y.S t).isSome with | true => rfl | false => rw [q] at e; exact absurd rfl e
        rw [chg_drop1 e'] at kk
        rw [e'] at hs
        obtain ⟨v, hv⟩ := isS_iff.mp hs
        refine ⟨_, rfl, a, rfl, .inl ⟨kS, .inl hkS⟩, _, rfl, kS, .inl t, v, hkS, rfl, hv, ?_⟩
        have kp := Kp.dict hkS (k' := dropK kS (.inl t))
        refine kk _ kp (fun x o n1 _ _ e => by rw [upd_ne n1]; exact e) ⟨⟨dropA S t, ⟨_, upd_same, rS.drop t⟩, upF_drop fS t, by have := len_drop S t; omega⟩, ⟨R, ⟨kR, by rw [upd_ne ab.symm]; exact hkR, rR.imp fun _ _ q => q.kp kp⟩, fR, nR, by omega⟩, ⟨Z, ⟨kZ, by rw [upd_ne ac.symm]; exact hkZ, rZ.imp fun _ _ q => q.kp kp⟩, fZ, nZ, by omega⟩, ab, ac, bc⟩
    | rcp t x ms =>
      cases e0
      refine ite2 (fun e => absurd e (by decide +kernel)) (fun _ => ?_)
      refine ⟨_, rfl, ad, _, _, _, rfl, rfl, hT, atI0 _ _, rfl, _, rfl, ?_⟩
      refine ite2 (fun e => absurd e (by decide +kernel)) (fun _ => ?_)
      refine ⟨_, rfl, ad, _, _, _, rfl, rfl, hT, atI0 _ _, rfl, _, rfl, ?_⟩
      refine ite2 (fun _ => ?_) (fun e => absurd (by decide +kernel) e)
      refine ⟨_, rfl, ad, _, _, _, rfl, rfl, hT, atI2 _ _ _ _, z3, fun q hq => ?_⟩
      have s1 := Same.upd hq (o := .lst [.str "sum", .str "most", .str "take"])
      have kp1 := Kp.of s1
      have hml : H l = some (.lst (ms.map V.int)) := hmk
      have Y1 := Y0.same s1
      refine ⟨q, _, rfl, .inl (SqL.of upd_same), rfl, rfl, _, rfl, ?_⟩
      rw [if_pos (by rfl : true = true), in_good]
      have kk := k
      refine ite2 (fun e => ?_) (fun e => ?_)
      · have e' : ¬ x ∈ good3 := fun z => by rw [decide_eq_true z] at e; cases e
        rw [chg_rcp0 e'] at kk
        exact kk _ kp1 (But3.of s1) Y1
      have e' : x ∈ good3 := Classical.byContradiction fun z => e (by rw [decide_eq_false z]; rfl)
      refine ⟨_, rfl, _, rfl, a, _, rfl, DGet.k (k := .inl t) (s1 _ _ hkS), _, rfl, ?_⟩
      rw [rS.has t, fS]
      refine ite2 (fun e2 => ?_) (fun e2 => ?_)
      · rw [chg_rcp1 e' e2] at kk
        exact kk _ kp1 (But3.of s1) Y1
      · rw [chg_rcp2 e' e2] at kk
        refine ⟨_, rfl, ad, _, _, _, rfl, rfl, SqT.of (s1 _ _ had), atI2 _ _ _ _, _, rfl, ad, _, _, _, rfl, rfl, SqT.of (s1 _ _ had), atI3 _ _ _ _ _, l, _, rfl, .inl (SqL.of (s1 _ _ hml)), fun l2 hl2 => ?_⟩
        have s2 := Same.upd hl2 (o := .lst (ms.map V.int))
        refine ⟨z2, fun tp htp => ?_⟩
        have s3 := Same.upd htp (o := .tup [.str x, .ref l2])
        have s4 := (s1.trans s2).trans s3
        have hkR' := s4 _ _ hkR
        refine ⟨_, rfl, _, rfl, b, _, rfl, .inl ⟨kR, .inl t, hkR', rfl, by omega, rfl⟩, ?_⟩
        have hx : RcpAt (upd (upd (upd H q (.lst [.str "sum", .str "most", .str "take"])) l2 (.lst (ms.map V.int))) tp (.tup [.str x, .ref l2])) (.ref tp) (x, ms) := ⟨tp, l2, rfl, upd_same, s3 _ _ upd_same⟩
        have kp2 := Kp.dict hkR' (k' := putK kR (.inl t) (.ref tp))
        have kp := (Kp.of s4).trans kp2
        refine kk _ kp (fun x o _ n2' _ e => by rw [upd_ne n2']; exact s4 _ _ e) ⟨⟨S, ⟨kS, by rw [upd_ne ab]; exact s4 _ _ hkS, rS⟩, fS, by omega⟩, ⟨setA R t (x, ms), ⟨_, upd_same, (rR.imp fun _ _ q => q.kp kp).put t (hx.kp kp2)⟩, upF_set fR t (x, ms), nd_set R t _ nR, by have := len_set R t (x, ms); omega⟩, ⟨Z, ⟨kZ, by rw [upd_ne bc.symm]; exact s4 _ _ hkZ, rZ.imp fun _ _ q => q.kp kp⟩, fZ, nZ, by omega⟩, ab, ac, bc⟩
    | strike t =>
      cases e0
      refine ite2 (fun e => absurd e (by decide +kernel)) (fun _ => ?_)
      refine ⟨_, rfl, ad, _, _, _, rfl, rfl, hT, atI0 _ _, rfl, _, rfl, ?_⟩
      refine ite2 (fun e => absurd e (by decide +kernel)) (fun _ => ?_)
      refine ⟨_, rfl, ad, _, _, _, rfl, rfl, hT, atI0 _ _, rfl, _, rfl, ?_⟩
      refine ite2 (fun e => absurd e (by decide +kernel)) (fun _ => ?_)
      refine ⟨_, rfl, ad, _, _, _, rfl, rfl, hT, atI0 _ _, rfl, _, rfl, ?_⟩
      refine ite2 (fun _ => ?_) (fun e => absurd (by decide +kernel) e)
      refine ⟨_, rfl, _, rfl, b, _, rfl, DGet.k (k := .inl t) hkR, _, rfl, ?_⟩
      have hs := rR.has t
      rw [fR] at hs
      rw [hs]
      have kk := k
      refine ite2 (fun e => ?_) (fun e => ?_)
      · have e' : ¬ (y.R t).isSome = true := fun z => by rw [z] at e; cases e
        rw [chg_strike2 e'] at kk
        exact kk H (Kp.refl _) (But3.of (Same.refl _)) Y0
      · have e' : (y.R t).isSome = true := by cases q : (y.R t).isSome with | true => rfl | false => rw [q] at e; exact absurd rfl e
        rw [chg_strike1 e'] at kk
        rw [e'] at hs
        obtain ⟨v, hv⟩ := isS_iff.mp hs
        refine ⟨_, rfl, b, rfl, .inl ⟨kR, .inl hkR⟩, _, rfl, kR, .inl t, v, hkR, rfl, hv, ?_⟩
        have kp := Kp.dict hkR (k' := dropK kR (.inl t))
        refine kk _ kp (fun x o _ n2 _ e => by rw [upd_ne n2]; exact e) ⟨⟨S, ⟨kS, by rw [upd_ne ab]; exact hkS, rS⟩, fS, by omega⟩, ⟨dropA R t, ⟨_, upd_same, (rR.imp fun _ _ q => q.kp kp).drop t⟩, upF_drop fR t, nd_drop R t nR, by have := len_drop R t; omega⟩, ⟨Z, ⟨kZ, by rw [upd_ne bc.symm]; exact hkZ, rZ.imp fun _ _ q => q.kp kp⟩, fZ, nZ, by omega⟩, ab, ac, bc⟩
    | lose t =>
      cases e0
      refine ite2 (fun e => absurd e (by decide +kernel)) (fun _ => ?_)
      refine ⟨_, rfl, ad, _, _, _, rfl, rfl, hT, atI0 _ _, rfl, _, rfl, ?_⟩
      refine ite2 (fun e => absurd e (by decide +kernel)) (fun _ => ?_)
      refine ⟨_, rfl, ad, _, _, _, rfl, rfl, hT, atI0 _ _, rfl, _, rfl, ?_⟩
      refine ite2 (fun e => absurd e (by decide +kernel)) (fun _ => ?_)
      refine ⟨_, rfl, ad, _, _, _, rfl, rfl, hT, atI0 _ _, rfl, _, rfl, ?_⟩
      refine ite2 (fun e => absurd e (by decide +kernel)) (fun _ => ?_)
      refine ⟨_, rfl, _, rfl, c, _, rfl, DGet.k (k := .inl t) hkZ, _, rfl, ?_⟩
      have hs := rZ.has t
      rw [fZ] at hs
      rw [hs]
      have kk := k
      refine ite2 (fun e => ?_) (fun e => ?_)
      · have e' : ¬ (y.sh t).isSome = true := fun z => by rw [z] at e; cases e
        rw [chg_lose2 e'] at kk
        exact kk H (Kp.refl _) (But3.of (Same.refl _)) Y0
      · have e' : (y.sh t).isSome = true := by cases q : (y.sh t).isSome with | true => rfl | false => rw [q] at e; exact absurd rfl e
        rw [chg_lose1 e'] at kk
        rw [e'] at hs
        obtain ⟨v, hv⟩ := isS_iff.mp hs
        refine ⟨_, rfl, c, rfl, .inl ⟨kZ, .inl hkZ⟩, _, rfl, kZ, .inl t, v, hkZ, rfl, hv, ?_⟩
        have kp := Kp.dict hkZ (k' := dropK kZ (.inl t))
        refine kk _ kp (fun x o _ _ n3 e => by rw [upd_ne n3]; exact e) ⟨⟨S, ⟨kS, by rw [upd_ne ac]; exact hkS, rS⟩, fS, by omega⟩, ⟨R, ⟨kR, by rw [upd_ne bc]; exact hkR, rR.imp fun _ _ q => q.kp kp⟩, fR, nR, by omega⟩, ⟨dropA Z t, ⟨_, upd_same, (rZ.imp fun _ _ q => q.kp kp).drop t⟩, upF_drop fZ t, nd_drop Z t nZ, by have := len_drop Z t; omega⟩, ab, ac, bc⟩
end
end Lw
set_option Elab.async false
set_option linter.all false
set_option maxRecDepth 100000
set_option maxHeartbeats 4000000
namespace Lw
open PySem L2 PyProof.Rows Yd
section
variable {P : Program} {w : World} {K : PySem.W.Frag} {mg : Str → Option Value} {base : Heap} {f : Addr} {fd : FuncData} {c : Pc} {CF : Addr}
theorem scMake : FnScope ["self", "thing", "answer", "word", "trail"] ["self", "thing"] (defScope sYardMake) := ⟨rfl, rfl, rfl, by decide +kernel, rfl, by decide +kernel, by decide +kernel⟩
theorem m_make (F : AtM K c.Y "make" "Yard.make" sYardMake f fd) (G : PgK K mg c) (mF : mg "Fails" = some (.ref CF)) (xF : ExcC K CF) (Da : MOwn P w K mg base c.Y "ask" 5 ["self", "thing"] (spAsk c)) : MOwnX P w K mg base c.Y "make" 6 ["self", "thing"] (spMake c CF) := by
  refine F.ownX scMake (fun _ _ _ _ _ _ us hl => match us, hl with | [_, _], _ => rfl) (fun vs H Q E h => ?_) (fun cdv A outer s H vs Q E hr h => ?_)
  · obtain ⟨B, p, a, b, z, y, n, m, t, rfl, _⟩ := h
    rfl
  · obtain ⟨B, p, a, b, z, y, n, m, t, rfl, Y, hB, W, L, hn, hm, hl, k⟩ := h
    have sc := scMake
    have hu := units_of hr
    have hg := hr.gd
    have big := lineM
    obtain ⟨dx, o⟩ := Y.ob
    refine ⟨_, (pss_cons (ps_set (i := 2) sc.nd rfl (Or.inl rfl) (pe_mth Da (pv 0) hr pass0 (pa_cons (pv 1) pa_nil)))
      (pss_cons (ps_if (pt_cmpR op_eq (pe_ix ix_tup (pv 2) pe_int (fun _ _ => rfl)) pe_str (nomark _)) (pss_cons (ps_set (i := 3) sc.nd rfl (Or.inl rfl) (pe_ix ix_tup (pv 2) pe_int (fun _ _ => rfl)))
      (pss_cons (ps_set (i := 4) sc.nd rfl (Or.inl rfl) (pe_ix ix_tup (pv 2) pe_int (fun _ _ => rfl)))
      (pss_one (ps_raise rais_cx rfl mF xF rfl (pa_cons (pe_join3 (pe_fmtS (pv 3)) pe_str (pe_fmtL hg hu (pv 4))) pa_nil))))) pss_nil)
      (pss_one (ps_ret (pe_ix ix_tup (pv 2) pe_int (fun _ _ => rfl)))))), ?_⟩
    refine ⟨_, rfl, p, dx, _, rfl, o, fsY_no (by decide +kernel) (by decide +kernel) (by decide +kernel), _, rfl, B, p, a, b, z, y, n, m, t, rfl, Y, hB, W, hn, hm, fun v H' b3 Y' an => ?_⟩
    unfold MakeQ at k
    have hask := W.asked (by omega) t
    rcases hask with ⟨v', told, e, _⟩ | ⟨wd, tr, told, e, _⟩
    · rw [e] at an k
      obtain ⟨ta, l, rfl, h1, h2, _⟩ := an
      refine ⟨_, rfl, ta, _, _, _, rfl, rfl, SqT.of h1, atI0 _ _, rfl, _, rfl, ?_⟩
      refine ite2 (fun e => absurd e (by decide +kernel)) (fun _ => ?_)
      exact ⟨_, rfl, ta, _, _, _, rfl, rfl, SqT.of h1, atI1 _ _ _, k H' b3 Y'⟩
    · obtain ⟨tl, tn⟩ := trail_lim W hn L hl e
      have hwd : wd.length ≤ 10 := by
        obtain ⟨acc, AB⟩ := W.askedBy (by omega) t
        rcases AB.ans with ⟨v, e2, _⟩ | ⟨wy, tr', e2, _⟩
        · rw [e2] at e; cases e
        · rw [e2] at e; cases e; cases wy <;> decide +kernel
      rw [e] at an k
      obtain ⟨ta, l, m2, rfl, h1, h2, h3, _⟩ := an
      refine ⟨_, rfl, ta, _, _, _, rfl, rfl, SqT.of h1, atI0 _ _, rfl, _, rfl, ?_⟩
      refine ite2 (fun _ => ?_) (fun e => absurd (by decide +kernel) e)
      refine ⟨_, rfl, ta, _, _, _, rfl, rfl, SqT.of h1, atI1 _ _ _, _, rfl, ta, _, _, _, rfl, rfl, SqT.of h1, atI2 _ _ _ _, ?_⟩
      have l0 : (": " : Str).length = 2 := by decide +kernel
      refine ⟨_, rfl, _, rfl, by omega, _, rfl, by omega, _, rfl, by rw [l0]; omega, _, rfl, l, tr, rfl, SqL.of h2, tn, fun x hx => lim_log (tl x hx), fun yy hy => ⟨_, rfl, by rw [l0]; omega, by show 1 ≤ sizeLine; omega, k H' b3 Y'⟩⟩
end
end Lw
set_option Elab.async false
set_option linter.all false
set_option maxRecDepth 100000
set_option maxHeartbeats 4000000
namespace Lw
open PySem L2 PyProof.Rows Yd
section
variable {P : Program} {w : World} {K : PySem.W.Frag} {mg : Str → Option Value} {base : Heap} {f : Addr} {fd : FuncData} {c : Pc}
theorem scCheckSort : FnScope ["sort"] ["sort"] (defScope sCheckSort) := ⟨rfl, rfl, rfl, by decide +kernel, rfl, by decide +kernel, by decide +kernel⟩
theorem own_check (F : At K mg "check_sort" sCheckSort f fd) (G : PgK K mg c) : OwnX P w K mg base "check_sort" 1 ["sort"] (spCheck c) := by
  refine F.ownX scCheckSort (fun _ _ _ _ _ _ us hl => match us, hl with | [_], _ => rfl) (fun vs H Q E h => ?_) (fun cdv A outer s H vs Q E hr h => ?_)
  · obtain ⟨x, rfl, _⟩ := h
    rfl
  · obtain ⟨x, rfl, k1, k2⟩ := h
    have sc := scCheckSort
    obtain ⟨aS, mS, hS⟩ := G.sorts
    have big : (2000 : Nat) ≤ sizeLine := by decide
    have l0 : ("no sort of a recipe: " : Str).length = 21 := by decide +kernel
    refine ⟨_, (pss_one (ps_if (pt_cmpR op_notIn_seq (pv 0) (pe_glob (v := .ref aS) rfl mS rfl) (by with_unfolding_all rfl)) (pss_one (ps_raise rais_cx rfl G.mSO G.xSO rfl (pa_cons (pe_join2 pe_str (pe_reprS (pv 0))) pa_nil))) pss_nil)), ?_⟩
    refine ⟨_, rfl, aS, _, rfl, .inr (hS H), rfl, rfl, _, rfl, ?_⟩
    rw [if_pos (by rfl : true = true), in_good]
    refine ite2 (fun e => ?_) (fun e => ?_)
    · have e' : ¬ x ∈ good3 := fun z => by rw [decide_eq_true z] at e; cases e
      obtain ⟨hz1, q⟩ := k2 e'
      exact ⟨_, rfl, by rw [l0]; omega, _, rfl, _, rfl, by omega, _, rfl, by rw [l0]; omega, by show 1 ≤ sizeLine; omega, q⟩
    · have e' : x ∈ good3 := Classical.byContradiction fun z => e (by rw [decide_eq_false z]; rfl)
      exact k1 e'
theorem scTaken : FnScope ["numbers", "left"] ["numbers"] (defScope sTaken) := ⟨rfl, rfl, rfl, by decide +kernel, rfl, by decide +kernel, by decide +kernel⟩
theorem own_taken (F : At K mg "taken" sTaken f fd) (B : Blt mg) : Own P w K mg base "taken" 1 ["numbers"] (spTaken K) := by
  refine F.own scTaken (fun _ _ _ _ _ _ us hl => match us, hl with | [_], _ => rfl) (fun vs H Q E h => ?_) (fun cdv A outer s H vs Q E hr h => ?_)
  · obtain ⟨p, ns, rfl, _⟩ := h
    rfl
  · obtain ⟨p, ns, rfl, hS, k⟩ := h
    have sc := scTaken
    refine ⟨_, (pss_cons (ps_if (pt_not (pt_truth (pv 0) (fun _ => rfl))) (pss_one (ps_ret pe_non)) pss_nil)
      (pss_cons (ps_set (i := 1) sc.nd rfl (Or.inl rfl) (pe_op op_sub (pe_ix ix_list (pv 0) pe_int (fun _ _ => rfl)) (pe_callB (call_sum rfl) rfl B.sum boot_sum (pa_cons (pe_slice sl_list (pv 0) (po_some pe_int) po_none) pa_nil))))
      (pss_one (ps_ret (pe_ifExp (pt_cmpR op_ge (pv 1) pe_int (nomark _)) (pv 1) pe_non))))), ?_⟩
    refine ⟨_, rfl, _, .inl ⟨_, hS, rfl⟩, ?_⟩
    cases ns with
    | nil =>
      refine iteT ?_
      exact k H (Same.refl H)
    | cons n ns =>
      refine iteF ?_
      refine ⟨_, rfl, p, _, _, _, rfl, rfl, hS, atI0 _ _, ?_⟩
      refine ⟨_, rfl, 1, rfl, p, _, rfl, hS, fun q hq => ?_⟩
      refine ⟨q, ns, rfl, .inl (.inl (by rw [List.map_cons, cut1]; exact upd_same)), _, _, rfl, rfl, ?_⟩
      refine ⟨_, rfl, _, _, rfl, rfl, _, rfl, ?_⟩
      have sm : Same H (upd H q (.lst (cutV (V.int n :: ns.map V.int) (some 1) none))) := Same.upd hq
      have kk := k _ sm
      refine ite2 (fun h0 => ?_) (fun h0 => ?_)
      · have h1 : 0 ≤ n - ns.sum := of_decide_eq_true h0
        rw [takeOf_pos h1] at kk
        exact ⟨_, rfl, kk⟩
      · have h1 : ¬ 0 ≤ n - ns.sum := fun z => h0 (decide_eq_true z)
        rw [takeOf_neg h1] at kk
        exact kk
theorem scWorked : FnScope ["sort", "numbers"] ["sort", "numbers"] (defScope sWorked) := ⟨rfl, rfl, rfl, by decide +kernel, rfl, by decide +kernel, by decide +kernel⟩
theorem own_worked (F : At K mg "worked" sWorked f fd) (B : Blt mg) (Dc : OwnX P w K mg base "check_sort" 1 ["sort"] (spCheck c)) (D : Own P w K mg base "taken" 1 ["numbers"] (spTaken K)) : OwnX P w K mg base "worked" 2 ["sort", "numbers"] (spWorked K) := by
  refine F.ownX scWorked (fun _ _ _ _ _ _ us hl => match us, hl with | [_, _], _ => rfl) (fun vs H Q E h => ?_) (fun cdv A outer s H vs Q E hr h => ?_)
  · obtain ⟨p, ns, x, rfl, _⟩ := h
    rfl
  · obtain ⟨p, ns, x, rfl, hS, hx, k⟩ := h
    have sc := scWorked
    have kk := k
    refine ⟨_, (pss_cons (ps_expr (pe_ownT Dc hr rfl pass_cx (pa_cons (pv 0) pa_nil)))
      (pss_cons (ps_if (pt_cmpR op_eq (pv 0) pe_str (nomark _)) (pss_one (ps_ret (pe_callB (call_sum rfl) rfl B.sum boot_sum (pa_cons (pv 1) pa_nil)))) pss_nil)
      (pss_cons (ps_if (pt_cmpR op_eq (pv 0) pe_str (nomark _)) (pss_one (ps_ret (pe_maxD rfl rfl B.max (pa_cons (pv 1) pa_nil) pe_non))) pss_nil)
      (pss_one (ps_ret (pe_own D hr rfl (pa_cons (pv 1) pa_nil))))))), ?_⟩
    refine ⟨_, rfl, x, rfl, fun _ => ?_, fun z => absurd hx z⟩
    have hw := work_good ns hx
    unfold workOf at hw
    refine ⟨_, rfl, rfl, _, rfl, ?_⟩
    refine ite2 (fun e => ?_) (fun e => ?_)
    · have e1 : x = "sum" := V.str.inj (of_decide_eq_true e)
      rw [if_pos e1] at hw
      rw [← Option.some.inj hw] at kk
      exact ⟨_, rfl, p, ns, rfl, hS, kk H (Same.refl H)⟩
    have e1 : ¬ x = "sum" := fun z => e (decide_eq_true (congrArg V.str z))
    rw [if_neg e1] at hw
    refine ⟨_, rfl, rfl, _, rfl, ?_⟩
    refine ite2 (fun e => ?_) (fun e => ?_)
    · have e2 : x = "most" := V.str.inj (of_decide_eq_true e)
      rw [if_pos e2] at hw
      rw [← Option.some.inj hw] at kk
      refine ⟨_, rfl, _, rfl, p, ns, rfl, hS, ?_⟩
      have := kk H (Same.refl H)
      cases eg : great ns with
      | none => rw [eg] at this; exact this
      | some m => rw [eg] at this; exact this
    have e2 : ¬ x = "most" := fun z => e (decide_eq_true (congrArg V.str z))
    rw [if_neg e2] at hw
    have e3 : x = "take" := by
      unfold good3 at hx
      simp only [List.mem_cons, List.not_mem_nil, or_false] at hx
      rcases hx with z | z | z
      · exact absurd z e1
      · exact absurd z e2
      · exact z
    rw [if_pos e3] at hw
    rw [← Option.some.inj hw] at kk
    exact ⟨_, rfl, p, ns, rfl, hS, kk⟩
theorem scEachOnce : FnScope ["things", "seen", "thing"] ["things"] (defScope sEachOnce) := ⟨rfl, rfl, rfl, by decide +kernel, rfl, by decide +kernel, by decide +kernel⟩
theorem keys_once (F : List (Int × Unit)) (m : Int) : keysA (setA F m ()) = dd1 (keysA F) m := by
  rw [keys_set]
  unfold dd1
  by_cases h : m ∈ keysA F
  · obtain ⟨u, hu⟩ := (mem_keys F m).mp h
    rw [if_pos h, hasA_iff, hu]
    rfl
  · have : fnd F m = none := by
      cases q : fnd F m with
      | none => rfl
      | some u => exact absurd ((mem_keys F m).mpr ⟨u, q⟩) h
    rw [if_neg h, hasA_iff, this]
    rfl
theorem own_once (F : At K mg "each_once" sEachOnce f fd) (B : Blt mg) : Own P w K mg base "each_once" 1 ["things"] (spOnce K) := by
  refine F.own scEachOnce (fun _ _ _ _ _ _ us hl => match us, hl with | [_], _ => rfl) (fun vs H Q E h => ?_) (fun cdv A outer s H vs Q E hr h => ?_)
  · obtain ⟨p, ns, rfl, _⟩ := h
    rfl
  · obtain ⟨p, ns, rfl, hS, hl, k⟩ := h
    have sc := scEachOnce
    have hu := units_of hr
    have hu1 := Nat.lt_of_le_of_lt (Nat.add_le_add_left (by decide : 1 ≤ 64) _) hu
    have big := line10000
    refine ⟨_, (pss_cons (ps_set (i := 1) sc.nd rfl (Or.inl rfl) pe_dnewK)
      (pss_cons (ps_for PassesOwn.never rfl (pi_list (pv 0)) (pg_name (i := 2) sc.nd rfl (Or.inl rfl)) (pss_one (ps_dput hu1 (pv 1) (pv 2) pe_bl rfl)))
      (pss_one (ps_ret (pe_callTy (call_listD rfl) rfl B.list boot_list (pa_cons (pv 1) pa_nil)))))), ?_⟩
    refine fun d hd => ?_
    refine ⟨_, rfl, p, rfl, ⟨_, hS.same (Same.upd hd)⟩, for_list (K := K) (a := p) (xs := ns.map V.int) (fun i σ H2 => ∃ (kvs : List (Key × V)) (F : List (Int × Unit)) (v : Option V), σ = [some (.ref p), some (.ref d), v] ∧ Same H H2 ∧ H2 d = some (.dK kvs) ∧ RowsR (fun _ _ => True) kvs F ∧ keysA F = dd (ns.take i) ∧ F.length ≤ i)
      ⟨[], [], none, rfl, Same.upd hd, upd_same, .nil, rfl, Nat.le_refl _⟩ (fun i σ H2 _ ⟨_, _, _, _, sm, _⟩ => hS.same sm) ?_ ?_⟩
    · rintro i y σ H2 hi ⟨kvs, F, v, rfl, sm, hd2, hF, hk, hl2⟩
      have hil : i < ns.length := by have := (List.getElem?_eq_some_iff.mp hi).1; simpa using this
      obtain ⟨m, rfl, hm⟩ := int_at hi
      have tk : ns.take (i + 1) = ns.take i ++ [m] := by rw [List.take_add_one, hm]; rfl
      have hkl : kvs.length = F.length := hF.len
      refine ⟨_, rfl, _, rfl, d, _, rfl, .inl ⟨kvs, .inl m, hd2, rfl, by omega, rfl⟩, ?_⟩
      refine ⟨_, setA F m (), _, rfl, Same.put sm hd, upd_same, hF.put m (v := .bl true) trivial, ?_, ?_⟩
      · rw [keys_once, hk, tk, dd_snoc]
      · have := len_set F m (); omega
    · rintro σ H2 ⟨kvs, F, v, rfl, sm, hd2, hF, hk, hl2⟩
      rw [List.take_of_length_le (by simp)] at hk
      refine ⟨_, rfl, d, kvs, rfl, .inl hd2, fun l hl0 => ?_⟩
      refine k l _ ?_ (sm.step hl0) ?_
      · exact sm.free hl0
      · rw [upd_same, hF.keys, hk]
theorem scFirstUnknown : FnScope ["things", "known", "thing"] ["things", "known"] (defScope sFirstUnknown) := ⟨rfl, rfl, rfl, by decide +kernel, rfl, by decide +kernel, by decide +kernel⟩
theorem own_first (F : At K mg "first_unknown" sFirstUnknown f fd) (B : Blt mg) : Own P w K mg base "first_unknown" 1 ["things", "known"] (spFirst K) := by
  refine F.own scFirstUnknown (fun _ _ _ _ _ _ us hl => match us, hl with | [_, _], _ => rfl) (fun vs H Q E h => ?_) (fun cdv A outer s H vs Q E hr h => ?_)
  · obtain ⟨p, d, ns, N, rfl, _⟩ := h
    rfl
  · obtain ⟨p, d, ns, N, rfl, hS, ⟨kN, hd, rN⟩, k⟩ := h
    have sc := scFirstUnknown
    have hu := units_of hr
    have hu1 := Nat.lt_of_le_of_lt (Nat.add_le_add_left (by decide : 1 ≤ 64) _) hu
    refine ⟨_, (pss_cons (ps_for PassesOwn.never rfl (pi_list (pv 0)) (pg_name (i := 2) sc.nd rfl (Or.inl rfl)) (pss_one (ps_if (pt_cmp (pc_dnotin hu1 (pv 2) (pv 1))) (pss_one (ps_ret (pv 2))) pss_nil)))
      (pss_one (ps_ret pe_non))), ?_⟩
    refine ⟨_, rfl, p, rfl, ⟨_, hS⟩, for_list (K := K) (a := p) (xs := ns.map V.int) (fun i σ H2 => H2 = H ∧ (∃ v, σ = [some (.ref p), some (.ref d), v]) ∧ (ns.take i).find? (fun m => (fnd N m).isNone) = none)
      ⟨rfl, ⟨none, rfl⟩, rfl⟩ (fun i σ H2 _ ⟨z, _⟩ => z ▸ hS) ?_ ?_⟩
    · rintro i y σ H2 hi ⟨rfl, ⟨v, rfl⟩, hn⟩
      obtain ⟨m, rfl, hm⟩ := int_at hi
      have tk : ns.take (i + 1) = ns.take i ++ [m] := by rw [List.take_add_one, hm]; rfl
      refine ⟨_, rfl, _, rfl, d, _, rfl, DGet.k (k := .inl m) hd, _, rfl, ?_⟩
      rw [rN.has m]
      have sp : ns = ns.take i ++ (m :: ns.drop (i + 1)) := by
        have hil := (List.getElem?_eq_some_iff.mp hm).1
        have e := (List.getElem?_eq_some_iff.mp hm).2
        rw [← e, List.getElem_cons_drop, List.take_append_drop]
      cases q : fnd N m with
      | none =>
        refine iteT ?_
        have : ns.find? (fun m => (fnd N m).isNone) = some m := by
          rw [sp, List.find?_append, hn]
          simp [q]
        rw [this] at k
        exact ⟨_, rfl, k⟩
      | some u =>
        refine iteF ⟨rfl, ⟨_, rfl⟩, ?_⟩
        rw [tk, List.find?_append, hn]
        simp [q]
    · rintro σ H2 ⟨rfl, ⟨v, rfl⟩, hn⟩
      rw [List.take_of_length_le (by simp)] at hn
      rw [hn] at k
      exact k
end
end Lw
set_option Elab.async false
set_option linter.all false
set_option maxRecDepth 100000
set_option maxHeartbeats 4000000
namespace Lw
open PySem L2 PyProof.Rows Yd
section
variable {P : Program} {w : World} {K : PySem.W.Frag} {mg : Str → Option Value} {base : Heap} {f : Addr} {fd : FuncData} {c : Pc}
theorem scRecInit : FnScope ["self", "sort", "makings"] ["self", "sort", "makings"] (defScope sRecipeInit) := ⟨rfl, rfl, rfl, by decide +kernel, rfl, by decide +kernel, by decide +kernel⟩
theorem mk_recipe (F : AtI K mg c.R "Recipe" "Recipe.__init__" sRecipeInit f fd) (B : Blt mg) (G : PgK K mg c) (Do : Own P w K mg base "each_once" 1 ["things"] (spOnce K)) : MkC P w K mg base c.R "Recipe" 2 ["self", "sort", "makings"] (spRecInit c K) := by
  refine F.own scRecInit (fun _ _ _ _ _ _ us hl => match us, hl with | [_, _, _], _ => rfl) (fun vs H Q E h => ?_) (fun cdv A outer s H vs Q E hr h => ?_)
  · obtain ⟨r, dx, l, x, ms, rfl, _⟩ := h
    rfl
  · obtain ⟨r, dx, l, x, ms, rfl, hr0, hS, hl, k⟩ := h
    have sc := scRecInit
    have z2 : 2 ≤ sizeLine := by decide
    refine ⟨_, (pss_cons (ps_fld (pv 0) (pe_tup (pa_cons (pv 1) (pa_cons (pe_callTy call_tuple_of rfl B.tuple boot_tuple (pa_cons (pv 2) pa_nil)) pa_nil))) rfl)
      (pss_one (ps_fld (pv 0) (pe_own Do hr rfl (pa_cons (pv 2) pa_nil)) rfl))), ?_⟩
    refine ⟨_, rfl, _, rfl, l, _, rfl, .inl ⟨hS, fun tm htm => ⟨z2, fun tp htp => ?_⟩⟩⟩
    have nrm : r ≠ tm := ne_of_none hr0 htm
    have hr1 : (upd H tm (.tup (ms.map V.int))) r = some (.ins c.R dx []) := by rw [upd_ne nrm]; exact hr0
    have nrp : r ≠ tp := ne_of_none hr1 htp
    have hr2 : (upd (upd H tm (.tup (ms.map V.int))) tp (.tup [.str x, .ref tm])) r = some (.ins c.R dx []) := by rw [upd_ne nrp]; exact hr1
    have htm2 : (upd (upd H tm (.tup (ms.map V.int))) tp (.tup [.str x, .ref tm])) tm = some (.tup (ms.map V.int)) := Same.upd htp _ _ upd_same
    refine ⟨_, rfl, r, c.R, dx, [], rfl, hr2, G.clR, G.pair, by show 0 < 1000; decide, ?_⟩
    have b1 : But r H (upd (upd (upd H tm (.tup (ms.map V.int))) tp (.tup [.str x, .ref tm])) r (.ins c.R dx (putF "pair" (.ref tp) []))) := ((But.of (Same.upd htm)).trans (But.of (Same.upd htp))).trans But.upd
    refine ⟨_, rfl, l, ms, rfl, b1.seq hr0 hS, hl, fun q H4 hq sm hq4 => ?_⟩
    refine ⟨_, rfl, r, c.R, dx, _, rfl, sm _ _ upd_same, G.clR, G.steps, by show 1 < 1000; decide, ?_⟩
    refine k _ (b1.trans ((But.of sm).trans But.upd)) fun B hB => ⟨r, dx, tp, tm, q, rfl, ?_, ?_, ?_, ?_, ?_⟩
    · rw [upd_same]
      show some (HO.ins c.R dx (putF "steps" (V.ref q) [(("pair" : Str), V.ref tp)])) = _
      rw [put1 (by decide +kernel)]
    · rw [upd_ne nrp.symm]
      exact sm _ _ (by rw [upd_ne nrp.symm]; exact upd_same)
    · rw [upd_ne nrm.symm]
      exact sm _ _ (by rw [upd_ne nrm.symm]; exact htm2)
    · have nrq : q ≠ r := fun z => by rw [z, upd_same] at hq; cases hq
      rw [upd_ne nrq]
      exact hq4
    · intro z
      have hqr : q ≠ r := fun z => by rw [z, upd_same] at hq; cases hq
      cases e : H q with
      | none => exact hB q z e
      | some o => rw [b1 q o hqr e] at hq; cases hq
theorem scMadeOf : FnScope ["self", "known"] ["self", "known"] (defScope sRecipeMadeOf) := ⟨rfl, rfl, rfl, by decide +kernel, rfl, by decide +kernel, by decide +kernel⟩
theorem m_made (F : AtM K c.R "made_of" "Recipe.made_of" sRecipeMadeOf f fd) (G : PgK K mg c) (Dw : OwnX P w K mg base "worked" 2 ["sort", "numbers"] (spWorked K)) : MOwn P w K mg base c.R "made_of" 3 ["self", "known"] (spMade c) := by
  refine F.own scMadeOf (fun _ _ _ _ _ _ us hl => match us, hl with | [_, _], _ => rfl) (fun vs H Q E h => ?_) (fun cdv A outer s H vs Q E hr h => ?_)
  · obtain ⟨v, d, B, x, ms, ns, N, rfl, _⟩ := h
    rfl
  · obtain ⟨v, d, B, x, ms, ns, N, rfl, ⟨r, dx, tp, tm, l, rfl, h1, h2, h3, h4, h5⟩, hx, hl, ⟨kN, hd, rN⟩, hall, k⟩ := h
    have sc := scMadeOf
    have hu := units_of hr
    have hu1 := Nat.lt_of_le_of_lt (Nat.add_le_add_left (by decide : 1 ≤ 64) _) hu
    have big := line10000
    refine ⟨_, (pss_one (ps_ret (pe_ownT Dw hr rfl passNo (pa_cons (pe_ix ix_tup (pe_fld (pv 0) rfl) pe_int (fun _ _ => rfl)) (pa_cons (pe_comp (N := ["making", "known"]) (places := [1]) rfl (blk_of (by rfl) (by decide +kernel) rfl (by decide +kernel) rfl rfl (by decide +kernel) rfl (fun p hp => by rw [List.mem_singleton.mp hp]; rfl) (blkHas' [(".0", .local), ("making", .local), ("known", .cell)] rfl (by decide +kernel)) (blkAt rfl rfl)) (pi_tup (pe_ix ix_tup (pe_fld (pv 0) rfl) pe_int (fun _ _ => rfl))) (fun _ _ _ _ _ => .none) (fun _ _ _ _ _ => (pe_dget hu1 (pv 1) (pv 0) (fun _ _ => rfl)))) pa_nil))))), ?_⟩
    refine ⟨_, rfl, r, c.R, dx, _, _, rfl, h1, G.clR, G.pair, fsR_pair, tp, _, _, _, rfl, rfl, SqT.of h2, atI0 _ _, ?_⟩
    refine ⟨_, rfl, r, c.R, dx, _, _, rfl, h1, G.clR, G.pair, fsR_pair, tp, _, _, _, rfl, rfl, SqT.of h2, atI1 _ _ _, tm, rfl, ⟨_, SqT.of h3⟩, fun D hD => ?_⟩
    refine cmp_mapT (K := K) (fun v => match v with | V.int m => V.int ((fnd N m).getD 0) | v => v) (SqT.of h3) hD (by rw [List.length_map]; show ms.length ≤ _; omega) (fun i y hy H1 Q' sm q' => ?_) ?_
    · obtain ⟨m, rfl, hm⟩ := int_at hy
      rcases rN.val m with ⟨g1, g2⟩ | ⟨n', v', g1, g2, g3⟩
      · have := all2_has hall (List.mem_of_getElem? hm)
        rw [g1] at this; cases this
      · subst g3
        refine ⟨_, rfl, _, rfl, d, _, rfl, by rw [← g2]; exact DGet.k (k := .inl m) (sm _ _ hd), ?_⟩
        simp only [g1, Option.getD_some] at q'
        exact q'
    · have er : (ms.map V.int).map (fun v => match v with | V.int m => V.int ((fnd N m).getD 0) | v => v) = ns.map V.int := by
        rw [all2_fun hall, List.map_map, List.map_map]
        rfl
      rw [er]
      exact ⟨D, ns, x, rfl, SqL.of upd_same, hx, fun H' sm => k H' ((Same.upd hD).trans sm)⟩
theorem scLotInit : FnScope ["self", "number", "recipe", "numbers"] ["self", "number", "recipe", "numbers"] (defScope sLotInit) := ⟨rfl, rfl, rfl, by decide +kernel, rfl, by decide +kernel, by decide +kernel⟩
theorem mk_lot (F : AtI K mg c.L "Lot" "Lot.__init__" sLotInit f fd) (G : PgK K mg c) : MkC P w K mg base c.L "Lot" 1 ["self", "number", "recipe", "numbers"] (spLotInit c) := by
  refine F.own scLotInit (fun _ _ _ _ _ _ us hl => match us, hl with | [_, _, _, _], _ => rfl) (fun vs H Q E h => ?_) (fun cdv A outer s H vs Q E hr h => ?_)
  · obtain ⟨q, dx, l, n, rv, rfl, _⟩ := h
    rfl
  · obtain ⟨q, dx, l, n, rv, rfl, hq, k⟩ := h
    have sc := scLotInit
    refine ⟨_, (pss_cons (ps_fld (pv 0) (pv 1) rfl)
      (pss_cons (ps_fld (pv 0) (pv 2) rfl)
      (pss_one (ps_fld (pv 0) (pv 3) rfl)))), ?_⟩
    refine ⟨_, rfl, _, rfl, q, c.L, dx, [], rfl, hq, G.clL, G.number, by show 0 < 1000; decide, ?_⟩
    refine ⟨_, rfl, _, rfl, q, c.L, dx, _, rfl, upd_same, G.clL, G.recipe, by show 1 < 1000; decide, ?_⟩
    rw [upd_upd]
    refine ⟨_, rfl, _, rfl, q, c.L, dx, _, rfl, upd_same, G.clL, G.numbers, ?_, ?_⟩
    · show (putF "recipe" rv [(("number" : Str), V.int n)]).length < 1000
      rw [put1 (by decide +kernel)]
      show 2 < 1000
      decide
    rw [upd_upd]
    have e : putF "numbers" (V.ref l) (putF "recipe" rv (putF "number" (V.int n) [])) = fsL n rv l := by
      show putF "numbers" (V.ref l) (putF "recipe" rv [(("number" : Str), V.int n)]) = _
      rw [put1 (by decide +kernel), put2 (by decide +kernel) (by decide +kernel)]
    rw [e]
    exact k
theorem scFit : FnScope ["self", "recipe", "numbers"] ["self", "recipe", "numbers"] (defScope sLotIsFit) := ⟨rfl, rfl, rfl, by decide +kernel, rfl, by decide +kernel, by decide +kernel⟩
theorem m_fit (F : AtM K c.L "is_fit" "Lot.is_fit" sLotIsFit f fd) (G : PgK K mg c) : MOwn P w K mg base c.L "is_fit" 1 ["self", "recipe", "numbers"] (spFits c) := by
  refine F.own scFit (fun _ _ _ _ _ _ us hl => match us, hl with | [_, _, _], _ => rfl) (fun vs H Q E h => ?_) (fun cdv A outer s H vs Q E hr h => ?_)
  · obtain ⟨v, rv, nl, B, e, x, ms, kf, rfl, _⟩ := h
    rfl
  · obtain ⟨v, rv, nl, B, e, x, ms, kf, rfl, ⟨q, dq, n, rw', l, kf', rfl, q1, q2, ⟨r', dx', tp', tm', l', rfl, g1, g2, g3, g4, g5⟩, q4, q5, q6, q7, q8⟩, ⟨r, dx, tp, tm, lr, rfl, h1, h2, h3, h4, h5⟩, hx, hl, hn, k⟩ := h
    have sc := scFit
    have hu := units_of hr
    refine ⟨_, (pss_one (ps_ret (pe_and (pe_cmpR (op_eqD hu) (pe_fld (pe_fld (pv 0) rfl) rfl) (pe_fld (pv 1) rfl) (nomark _)) (pe_one (pe_cmpR (op_eqD hu) (pe_fld (pv 0) rfl) (pv 2) (nomark _)))))), ?_⟩
    refine ⟨_, rfl, q, c.L, dq, _, _, rfl, q1, G.clL, G.recipe, fsL_recipe, r', c.R, dx', _, _, rfl, g1, G.clR, G.pair, fsR_pair, _, rfl, r, c.R, dx, _, _, rfl, h1, G.clR, G.pair, fsR_pair, ?_⟩
    refine ⟨.tuple [.str e.1, .tuple (e.2.1.map .int)], .tuple [.str x, .tuple (ms.map .int)], .tup (SqT.of g2) (.cons (.str _) (.cons (.tup (SqT.of g3) (DReps.ints _)) .nil)), .tup (SqT.of h2) (.cons (.str _) (.cons (.tup (SqT.of h3) (DReps.ints _)) .nil)), shaped_pair q7 _, shaped_pair hx _, _, rfl, ?_⟩
    rw [if_neg (by decide : ¬ (false = true)), eqv_pair]
    refine ite2 (fun e1 => ?_) (fun e1 => ?_)
    · obtain ⟨a1, a2⟩ := of_decide_eq_true e1
      refine ⟨_, rfl, q, c.L, dq, _, _, rfl, q1, G.clL, G.numbers, fsL_numbers, _, rfl, ?_⟩
      refine ⟨.list (((dd e.2.1).map kf').map .int), .list (((dd ms).map kf).map .int), .lst (SqL.of q4) (DReps.ints _), .lst (SqL.of hn) (DReps.ints _), shaped_ints _, shaped_ints _, ?_⟩
      rw [if_neg (by decide : ¬ (false = true)), eqv_ints]
      have : decide ((dd e.2.1).map kf' = (dd ms).map kf) = decide (e = (x, ms, ms.map kf)) := by
        rw [decide_eq_decide, a2, dd_nums]
        obtain ⟨e1, e2, e3⟩ := e
        simp only at a1 a2 q6 ⊢
        rw [q6, a1, a2]
        simp
      rw [this]
      exact k
    · have : decide (e = (x, ms, ms.map kf)) = false := decide_eq_false fun z => e1 (decide_eq_true ⟨by rw [z], by rw [z]⟩)
      rw [this] at k
      rw [Bool.not_eq_true] at e1
      first | (rw [e1]; exact k) | exact k
theorem scYdInit : FnScope ["self"] ["self"] (defScope sYardInit) := ⟨rfl, rfl, rfl, by decide +kernel, rfl, by decide +kernel, by decide +kernel⟩
theorem mk_yard (F : AtI K mg c.Y "Yard" "Yard.__init__" sYardInit f fd) (G : PgK K mg c) : MkC P w K mg base c.Y "Yard" 1 ["self"] (spYdInit c) := by
  refine F.own scYdInit (fun _ _ _ _ _ _ us hl => match us, hl with | [_], _ => rfl) (fun vs H Q E h => ?_) (fun cdv A outer s H vs Q E hr h => ?_)
  · obtain ⟨p, dx, rfl, _⟩ := h
    rfl
  · obtain ⟨p, dx, rfl, hp, k⟩ := h
    have sc := scYdInit
    refine ⟨_, (pss_cons (ps_fld (pv 0) pe_dnewK rfl)
      (pss_cons (ps_fld (pv 0) pe_dnewK rfl)
      (pss_one (ps_fld (pv 0) pe_dnewK rfl)))), ?_⟩
    intro a ha
    have npa : p ≠ a := ne_of_none hp ha
    refine ⟨_, rfl, p, c.Y, dx, [], rfl, by rw [upd_ne npa]; exact hp, G.clY, G.sources, by show 0 < 1000; decide, ?_⟩
    intro b hb
    have npb : p ≠ b := fun z => by rw [← z, upd_same] at hb; cases hb
    have hb1 : (upd H a (.dK [])) b = none := by rw [upd_ne npb.symm] at hb; exact hb
    have nab : a ≠ b := fun z => by rw [← z, upd_same] at hb1; cases hb1
    have hb0 : H b = none := by rw [upd_ne nab.symm] at hb1; exact hb1
    refine ⟨_, rfl, p, c.Y, dx, _, rfl, by rw [upd_ne npb]; exact upd_same, G.clY, G.recipes, by show 1 < 1000; decide, ?_⟩
    intro z hz
    have npz : p ≠ z := fun q => by rw [← q, upd_same] at hz; cases hz
    rw [upd_ne npz.symm] at hz
    have nbz : b ≠ z := fun q => by rw [← q, upd_same] at hz; cases hz
    rw [upd_ne nbz.symm, upd_ne npz.symm] at hz
    have naz : a ≠ z := fun q => by rw [← q, upd_same] at hz; cases hz
    have hz0 : H z = none := by rw [upd_ne naz.symm] at hz; exact hz
    refine ⟨_, rfl, p, c.Y, dx, _, rfl, by rw [upd_ne npz]; exact upd_same, G.clY, G.shelf, ?_, ?_⟩
    · show (putF "recipes" (V.ref b) [(("sources" : Str), V.ref a)]).length < 1000
      rw [put1 (by decide +kernel)]
      show 2 < 1000
      decide
    have e : putF "shelf" (V.ref z) (putF "recipes" (V.ref b) (putF "sources" (V.ref a) [])) = fsY a b z := by
      show putF "shelf" (V.ref z) (putF "recipes" (V.ref b) [(("sources" : Str), V.ref a)]) = _
      rw [put1 (by decide +kernel), put2 (by decide +kernel) (by decide +kernel)]
    rw [e]
    refine k a b z _ ha hb0 hz0 (fun x o hx ex => ?_) fun B => ⟨⟨dx, upd_same⟩, ⟨[], ⟨[], ?_, .nil⟩, fun _ => rfl, by simp⟩, ⟨[], [], ?_, .nil, fun _ => rfl, by simp⟩, ⟨[], [], ?_, .nil, fun _ => rfl, by simp [keysA], by simp⟩, nab, naz, nbz⟩
    · rw [upd_ne hx, upd_ne (ne_of_none ex hz0), upd_ne hx, upd_ne (ne_of_none ex hb0), upd_ne hx, upd_ne (ne_of_none ex ha)]
      exact ex
    · rw [upd_ne npa.symm, upd_ne naz, upd_ne npa.symm, upd_ne nab, upd_ne npa.symm]
      exact upd_same
    · rw [upd_ne npb.symm, upd_ne nbz, upd_ne npb.symm]
      exact upd_same
    · rw [upd_ne npz.symm]
      exact upd_same
end
end Lw
set_option Elab.async false
set_option linter.all false
set_option maxRecDepth 100000
set_option maxHeartbeats 4000000
namespace Lw
open PySem L2 PyProof.Rows Yd
section
variable {P : Program} {w : World} {K : PySem.W.Frag} {mg : Str → Option Value} {base : Heap} {f : Addr} {fd : FuncData} {c : Pc}
theorem scFinish : FnScope ["self", "thing", "known", "told", "recipe", "numbers", "lot", "number"] ["self", "thing", "known", "told"] (defScope sYardFinish) := ⟨rfl, rfl, rfl, by decide +kernel, rfl, by decide +kernel, by decide +kernel⟩
theorem m_finish (F : AtM K c.Y "finish" "Yard.finish" sYardFinish f fd) (G : PgK K mg c) (Df : MOwn P w K mg base c.L "is_fit" 1 ["self", "recipe", "numbers"] (spFits c)) (Dm : MOwn P w K mg base c.R "made_of" 3 ["self", "known"] (spMade c)) (Dl : MkC P w K mg base c.L "Lot" 1 ["self", "number", "recipe", "numbers"] (spLotInit c)) :
    MOwn P w K mg base c.Y "finish" 4 ["self", "thing", "known", "told"] (spFinish c) := by
  refine F.own scFinish (fun _ _ _ _ _ _ us hl => match us, hl with | [_, _, _, _], _ => rfl) (fun vs H Q E h => ?_) (fun cdv A outer s H vs Q E hr h => ?_)
  · obtain ⟨p, a, b, z, kn, td, B, y, n, m, t, x, ns, ts, N, rfl, _⟩ := h
    rfl
  · obtain ⟨p, a, b, z, kn, td, B, y, n, m, t, x, ns, ts, N, rfl, Y, hm, hR, hgood, h20, ⟨kN, hkn, rN⟩, nkz, hall, htd, tdB, hB, hts, k⟩ := h
    have sc := scFinish
    have hu := units_of hr
    have hu1 := Nat.lt_of_le_of_lt (Nat.add_le_add_left (by decide : 1 ≤ 64) _) hu
    have big := lineM
    have hr1 : Room 1 _ := hr.mono (by decide)
    have hr2 : Room 2 _ := hr.mono (by decide)
    have Y' := Y
    obtain ⟨⟨dx, o⟩, _, ⟨kr, R, r1, r2, r3, r4⟩, ⟨kz, Z, z1, z2, z3, z4, z5⟩, ab, az, bz⟩ := Y'
    refine ⟨_, (pss_cons (ps_set (i := 4) sc.nd rfl (Or.inl rfl) (pe_dget hu1 (pe_fld (pv 0) rfl) (pv 1) (fun _ _ => rfl)))
      (pss_cons (ps_comp (i := 5) (N := ["making", "known"]) (places := [2]) sc.nd rfl (Or.inl rfl) rfl (blk_of (by rfl) (by decide +kernel) rfl (by decide +kernel) rfl rfl (by decide +kernel) rfl (fun p hp => by rw [List.mem_singleton.mp hp]; rfl) (blkHas' [(".0", .local), ("making", .local), ("known", .cell)] rfl (by decide +kernel)) (blkAt rfl rfl)) (pi_list (pe_fld (pv 4) rfl)) (fun _ _ _ _ _ => .none) (fun _ _ _ _ _ => (pe_dget hu1 (pv 1) (pv 0) (fun _ _ => rfl))))
      (pss_cons (ps_set (i := 6) sc.nd rfl (Or.inl rfl) (pe_dget1 hu1 (pe_fld (pv 0) rfl) (pv 1) ⟨rfl, rfl, rfl, rfl⟩))
      (pss_cutE (ps_if (PW.pt (pw_and (pt_cmp (pc_notN (pv 6))) (pw_and1 (pt_val (pe_mth Df (pv 6) hr1 pass0 (pa_cons (pv 4) (pa_cons (pv 5) pa_nil))))))) (pss_one (ps_ret (pe_fld (pv 6) rfl))) pss_nil)
      (pss_cons (ps_set (i := 7) sc.nd rfl (Or.inl rfl) (pe_mth Dm (pv 4) hr pass0 (pa_cons (pv 2) pa_nil)))
      (pss_cons (ps_if (pt_cmp (pc_notN (pv 7))) (pss_cons (ps_dput hu1 (pe_fld (pv 0) rfl) (pv 1) (pe_mk Dl hr2 rfl (pa_cons (pv 7) (pa_cons (pv 4) (pa_cons (pv 5) pa_nil)))) rfl)
      (pss_one (ps_expr (pe_bm PySem.F.plainAttrs_list PySem.F.slot_list_append PySem.F.type_list_append mt_append (pv 3) (pa_cons (pv 1) pa_nil))))) pss_nil)
      (pss_one (ps_ret (pv 7))))))))), ?_⟩
    rcases r2.val t with ⟨g1, _⟩ | ⟨x', rv, g1, g2, hrec⟩
    · rw [r3, hR] at g1; cases g1
    have ex : x' = x := by rw [r3, hR] at g1; exact (Option.some.inj g1).symm
    subst ex
    refine ⟨_, rfl, p, c.Y, dx, _, _, rfl, o, G.clY, G.recipes, fsY_recipes, _, rfl, b, _, rfl, by rw [← g2]; exact DGet.k (k := .inl t) r1, ?_⟩
    have hrec0 := hrec
    obtain ⟨r, dr, tp, tm, l, rfl, h1, h2, h3, h4, h5⟩ := hrec0
    have hdl := dd_len' x'.2
    refine ⟨_, rfl, r, c.R, dr, _, _, rfl, h1, G.clR, G.steps, fsR_steps, l, rfl, ⟨_, SqL.of h4⟩, fun nl hnl => ?_⟩
    refine cmp_map (K := K) (valP N) (SqL.of h4) hnl (by rw [List.length_map]; omega) (fun j v hv H6 Q' s6 q' => ?_) ?_
    · obtain ⟨mk, rfl, hc⟩ := int_at hv
      have hmem : mk ∈ x'.2 := mem_dd.mp (List.mem_of_getElem? hc)
      have hn := all2_has hall hmem
      rcases rN.val mk with ⟨q1, q2⟩ | ⟨n', v', q1, q2, q3⟩
      · rw [hn] at q1; cases q1
      · refine ⟨_, rfl, _, rfl, kn, v', rfl, by rw [← q2]; exact DGet.k (k := .inl mk) (s6 _ _ hkn), ?_⟩
        have : valP N (.int mk) = v' := by
          show V.int ((fnd N mk).getD 0) = v'
          rw [q1, q3]
          rfl
        rw [this] at q'
        exact q'
    rw [valP_map]
    have hns := all2_fun hall
    have s1 := Same.upd hnl (o := .lst (((dd x'.2).map fun m => (fnd N m).getD 0).map V.int))
    have hnl1 : (upd H nl (.lst (((dd x'.2).map fun m => (fnd N m).getD 0).map V.int))) nl = some (.lst (((dd x'.2).map fun m => (fnd N m).getD 0).map V.int)) := upd_same
    revert s1 hnl1
    generalize upd H nl (.lst (((dd x'.2).map fun m => (fnd N m).getD 0).map V.int)) = H1
    intro s1 hnl1
    have z1' := s1 _ _ z1
    have o1 := s1 _ _ o
    have hrec1 := hrec.kp (KpB.of s1)
    refine ⟨_, rfl, p, c.Y, dx, _, _, rfl, o1, G.clY, G.shelf, fsY_shelf, z, rfl, .inl ⟨kz, .inl z1'⟩, _, rfl, _, DGet.k (k := .inl t) z1', ?_⟩
    refine ⟨fun σ' H' => H' = H1 ∧ (∃ lv, σ' = [some (.ref p), some (.int t), some (.ref kn), some (.ref td), some (.ref r), some (.ref nl), lv, none]) ∧ ¬ y.sh t = some (x'.1, x'.2, ns), ?_, ?_⟩
    · rcases z2.val t with ⟨q1, q2⟩ | ⟨e, lv, q1, q2, hlot⟩
      · rw [q2]
        refine ⟨_, rfl, _, rfl, iteF (iteF ⟨rfl, ⟨_, rfl⟩, ?_⟩)⟩
        rw [← z3, q1]
        exact fun z => nomatch z
      · rw [q2]
        have hlot1 := hlot.kp (KpB.of s1)
        have hlot2 := hlot1
        obtain ⟨q, dq, nn, rw', ll, kf', rfl, w1, w2, w3, w4, w5, w6, w7, w8⟩ := hlot2
        refine ⟨_, rfl, _, rfl, iteT ?_⟩
        refine ⟨_, rfl, q, dq, _, rfl, w1, fsL_no (by decide +kernel) (by decide +kernel) (by decide +kernel), _, rfl, _, rfl, _, _, nl, B, e, x'.1, x'.2, _, rfl, hlot1, hrec1, hgood, by omega, hnl1, _, rfl, ?_⟩
        refine ite2 (fun e1 => ?_) (fun e1 => ?_)
        · have ee : e = (x'.1, x'.2, ns) := by rw [of_decide_eq_true e1, hns]
          refine ⟨_, rfl, q, c.L, dq, _, _, rfl, w1, G.clL, G.number, fsL_number, ?_⟩
          subst ee
          have hw : wk x'.1 ns = some nn := w2
          have kk := k
          rw [hw] at kk
          have hsh : y.sh t = some (x'.1, x'.2, ns) := by rw [← z3, q1]
          refine kk H1 (fun b o _ _ e => s1 _ _ e) ?_ ?_
          · refine ((Y.same s1).le (Nat.le_refl _) (Nat.le_succ _)).eq ?_
            unfold shUp
            have : upF y.sh t (some (x'.1, x'.2, ns)) = y.sh := by
              funext u
              unfold upF
              by_cases hu : u = t
              · rw [if_pos hu, hu, hsh]
              · rw [if_neg hu]
            rw [this]
          · rw [if_pos hsh, List.append_nil]
            exact s1 _ _ htd
        · refine ⟨rfl, ⟨_, rfl⟩, ?_⟩
          rw [← z3, q1]
          intro z
          exact e1 (decide_eq_true (by rw [Option.some.inj z, hns]))
    · rintro σ' H' ⟨rfl, ⟨lv, rfl⟩, hns2⟩
      have h1' := s1 _ _ h1
      refine ⟨_, rfl, r, dr, _, rfl, h1', fsR_no (by decide +kernel) (by decide +kernel), _, rfl, _, kn, B, x'.1, x'.2, ns, N, rfl, hrec1, hgood, by omega, ⟨kN, s1 _ _ hkn, rN⟩, hall, fun H2 s2 => ?_⟩
      have s12 := s1.trans s2
      have kk := k
      cases hw : wk x'.1 ns with
      | none =>
        rw [hw] at kk
        refine ⟨_, rfl, _, rfl, iteF ?_⟩
        exact ⟨_, rfl, kk H2 s12⟩
      | some v =>
        rw [hw] at kk
        refine ⟨_, rfl, _, rfl, iteT ?_⟩
        refine ⟨_, rfl, _, rfl, _, rfl, fun q dq hq hdq hne => ?_⟩
        have s3 : Same H2 (upd (upd H2 dq (.own q)) q (.ins c.L dq [])) := fun b' o' e' => by rw [upd_ne (ne_of_none e' hq), upd_ne (ne_of_none e' hdq)]; exact e'
        refine ⟨q, dq, nl, v, .ref r, rfl, upd_same, rfl, ?_⟩
        rw [upd_upd]
        have s4 : Same H2 (upd (upd H2 dq (.own q)) q (.ins c.L dq (fsL v (.ref r) nl))) := fun b' o' e' => by rw [upd_ne (ne_of_none e' hq), upd_ne (ne_of_none e' hdq)]; exact e'
        have hq4 : (upd (upd H2 dq (.own q)) q (.ins c.L dq (fsL v (.ref r) nl))) q = some (.ins c.L dq (fsL v (.ref r) nl)) := upd_same
        revert s4 hq4
        generalize upd (upd H2 dq (.own q)) q (.ins c.L dq (fsL v (.ref r) nl)) = H4
        intro s4 hq4
        have s14 := s12.trans s4
        have Y4 := Y.same s14
        have hkl : kz.length = Z.length := z2.len
        refine ⟨_, rfl, p, c.Y, dx, _, _, rfl, s14 _ _ o, G.clY, G.shelf, fsY_shelf, _, rfl, z, _, rfl, .inl ⟨kz, .inl t, s14 _ _ z1, rfl, by omega, rfl⟩, ?_⟩
        have nlB : nl ∉ B := fun hz => hB nl hz hnl
        have hnew : LotAt c B H4 (.ref q) (x'.1, x'.2, ns) := ⟨q, dq, v, .ref r, nl, fun m => (fnd N m).getD 0, rfl, hq4, hw, hrec.kp (KpB.of s14), s4 _ _ (s2 _ _ hnl1), nlB, hns, hgood, h20⟩
        have Y5 := Y4.setZ (m' := m + 1) ((z2.imp fun _ _ q => q.kp (KpB.of s14)).put t hnew) (upF_set z3 t _) (nd_set Z t _ z4) (by have := len_set Z t (x'.1, x'.2, ns); omega)
        have ntz : td ≠ z := ne_of htd z1 (by intro q; cases q)
        have htd5 : (upd H4 z (.dK (putK kz (.inl t) (.ref q)))) td = some (.lst (ts.map V.int)) := by rw [upd_ne ntz]; exact s14 _ _ htd
        refine ⟨_, rfl, .inl ⟨rfl, _, SqL.of htd5⟩, _, rfl, td, _, _, rfl, rfl, htd5, by rw [List.length_map]; omega, ?_⟩
        refine ⟨_, rfl, kk _ (fun b o n1 n2 e => ?_) ?_ ?_⟩
        · rw [upd_ne n2, upd_ne n1]
          exact s14 _ _ e
        · refine Y5.kp (KpB.lst htd5 tdB) fun u o' hu e' => ?_
          have : u ≠ td := by
            obtain ⟨_, ⟨S, ⟨ks, s0, _⟩, _⟩, ⟨kr', R', r1', _⟩, ⟨kz', Z', z1'', _⟩, _⟩ := Y5
            rcases hu with rfl | rfl | rfl
            · exact ne_of s0 htd5 (by intro q; cases q)
            · exact ne_of r1' htd5 (by intro q; cases q)
            · exact ne_of z1'' htd5 (by intro q; cases q)
          rw [upd_ne this]
          exact e'
        · rw [upd_same, if_neg hns2, ints_snoc]
end
end Lw
set_option Elab.async false
set_option linter.all false
set_option maxRecDepth 100000
set_option maxHeartbeats 4000000
namespace Lw
open PySem L2 PyProof.Rows Yd
section
variable {P : Program} {w : World} {K : PySem.W.Frag} {mg : Str → Option Value} {base : Heap} {f : Addr} {fd : FuncData} {c : Pc}
theorem scAsk : FnScope ["self", "thing", "known", "trail", "told", "last", "making", "number"] ["self", "thing"] (defScope sYardAsk) := ⟨rfl, rfl, rfl, by decide +kernel, rfl, by decide +kernel, by decide +kernel⟩
structure AskI (c : Pc) (B : List Addr) (H : Hp) (p a b z kn trl tdl : Addr) (y : Ys) (t : Int) (n m : Nat) (acc : Acc Str) (tr : List Int) (H2 : Hp) : Prop where
  num : ∃ N, NumAt H2 kn N ∧ (∀ u, fnd N u = kno y acc u) ∧ N.length ≤ n + acc.length
  htrl : H2 trl = some (.lst (tr.map V.int))
  htdl : H2 tdl = some (.lst ((toldOf y.sh acc).map V.int))
  yd : YdAt c (trl :: tdl :: B) H2 p a b z { y with sh := shOf y.sh acc } n (m + acc.length)
  fr : But z H H2
theorem AskI.same {B : List Addr} {H : Hp} {p a b z kn trl tdl : Addr} {y : Ys} {t : Int} {n m : Nat} {acc : Acc Str} {tr : List Int} {H2 H3 : Hp} (h : AskI c B H p a b z kn trl tdl y t n m acc tr H2) (s : Same H2 H3) : AskI c B H p a b z kn trl tdl y t n m acc tr H3 :=
  ⟨let ⟨N, a, b⟩ := h.num; ⟨N, a.same s, b⟩, s _ _ h.htrl, s _ _ h.htdl, h.yd.same s, fun x o hx e => s _ _ (h.fr x o hx e)⟩
theorem told_len (sh : Shf Str) (acc : Acc Str) : (toldOf sh acc).length ≤ acc.length := by
  unfold toldOf
  rw [List.length_map]
  exact List.length_filter_le ..
theorem m_ask (F : AtM K c.Y "ask" "Yard.ask" sYardAsk f fd) (G : PgK K mg c) (B : Blt mg) (Du : Own P w K mg base "first_unknown" 1 ["things", "known"] (spFirst K)) (Df : MOwn P w K mg base c.Y "finish" 4 ["self", "thing", "known", "told"] (spFinish c)) :
    MOwn P w K mg base c.Y "ask" 5 ["self", "thing"] (spAsk c) := by
  refine F.own scAsk (fun _ _ _ _ _ _ us hl => match us, hl with | [_, _], _ => rfl) (fun vs H Q E h => ?_) (fun cdv A outer s H vs Q E hr h => ?_)
  · obtain ⟨Bs, p, a, b, z, y, n, m, t, rfl, _⟩ := h
    rfl
  · obtain ⟨Bs, p, a, b, z, y, n, m, t, rfl, Y, hBs, W, hn, hm, k⟩ := h
    have sc := scAsk
    have hu := units_of hr
    have hu1 := Nat.lt_of_le_of_lt (Nat.add_le_add_left (by decide : 1 ≤ 64) _) hu
    have big := lineM
    have hr1 : Room 1 _ := hr.mono (by decide)
    have z4 : 4 ≤ sizeLine := by omega
    have z3 : 3 ≤ sizeLine := by omega
    have Y' := Y
    obtain ⟨⟨dx, o⟩, ⟨S, ⟨ks, s0, s1⟩, s2, s3⟩, _, _, ab, az, bz⟩ := Y'
    have oz : p ≠ z := by obtain ⟨_, _, _, ⟨kz, Z, z1, _⟩, _⟩ := Y; exact ne_of o z1 (by intro q; cases q)
    obtain ⟨kys, q1, q2, q3⟩ := W.key
    obtain ⟨n0, M0⟩ := Mch.start (g := y.g) (keys := kys) (fun u x e => q2 u x e) (by omega) t
    have Ou : Out y.g [] t [] (visit y.g 300 [] t []) := W.out (by omega) t
    have hask : ask y t = ({ y with sh := shOf y.sh (visit y.g 300 [] t []).2 }, match (visit y.g 300 [] t []).1 with
      | .ok v => .made v (toldOf y.sh (visit y.g 300 [] t []).2)
      | .error e => .fails (whyW e.1) e.2 (toldOf y.sh (visit y.g 300 [] t []).2)) := rfl
    have Gf := Ou.good
    revert M0 hask Gf
    generalize visit y.g 300 [] t [] = res
    intro M0 hask Gf
    refine ⟨_, (pss_cons (ps_set (i := 2) sc.nd rfl (Or.inl rfl) (pe_callTy call_dictD rfl B.dict boot_dict (pa_cons (pe_fld (pv 0) rfl) pa_nil)))
      (pss_cons (ps_set (i := 3) sc.nd rfl (Or.inl rfl) (pe_lst (pa_cons (pv 1) pa_nil)))
      (pss_cons (ps_set (i := 4) sc.nd rfl (Or.inl rfl) (pe_lst pa_nil))
      (pss_cons (ps_while PassesOwn.never (pt_cmp (pc_dnotin hu1 (pv 1) (pv 2))) (pss_cons (ps_set (i := 5) sc.nd rfl (Or.inl rfl) (pe_ix ix_list (pv 3) (pe_un un_neg pe_int) (fun _ _ => rfl)))
      (pss_cons (ps_if (pt_cmpR op_in_seq (pv 5) (pe_slice sl_list (pv 3) po_none (po_some (pe_un un_neg pe_int))) (by with_unfolding_all rfl)) (pss_one (ps_ret (pe_tup (pa_cons pe_str (pa_cons pe_str (pa_cons (pv 3) (pa_cons (pv 4) pa_nil))))))) pss_nil)
      (pss_cons (ps_if (pt_cmp (pc_dnotin hu1 (pv 5) (pe_fld (pv 0) rfl))) (pss_one (ps_ret (pe_tup (pa_cons pe_str (pa_cons pe_str (pa_cons (pv 3) (pa_cons (pv 4) pa_nil))))))) pss_nil)
      (pss_cons (ps_set (i := 6) sc.nd rfl (Or.inl rfl) (pe_own Du hr1 rfl (pa_cons (pe_fld (pe_dget hu1 (pe_fld (pv 0) rfl) (pv 5) (fun _ _ => rfl)) rfl) (pa_cons (pv 2) pa_nil))))
      (pss_cons (ps_if (pt_cmp (pc_notN (pv 6))) (pss_cons (ps_expr (pe_bm PySem.F.plainAttrs_list PySem.F.slot_list_append PySem.F.type_list_append mt_append (pv 3) (pa_cons (pv 6) pa_nil)))
      (pss_one ps_continue)) pss_nil)
      (pss_cons (ps_set (i := 7) sc.nd rfl (Or.inl rfl) (pe_mth Df (pv 0) hr pass0 (pa_cons (pv 5) (pa_cons (pv 2) (pa_cons (pv 4) pa_nil)))))
      (pss_cons (ps_if (pt_cmp (pc_isN (pv 7))) (pss_one (ps_ret (pe_tup (pa_cons pe_str (pa_cons pe_str (pa_cons (pv 3) (pa_cons (pv 4) pa_nil))))))) pss_nil)
      (pss_cons (ps_dput hu1 (pv 2) (pv 5) (pv 7) rfl)
      (pss_one (ps_expr (pe_bm0 PySem.F.plainAttrs_list PySem.F.slot_list_pop PySem.F.type_list_pop mt_pop (pv 3)))))))))))))
      (pss_one (ps_ret (pe_tup (pa_cons pe_str (pa_cons (pe_dget hu1 (pv 2) (pv 1) (fun _ _ => rfl)) (pa_cons (pv 4) pa_nil)))))))))), ?_⟩
    refine ⟨_, rfl, p, c.Y, dx, _, _, rfl, o, G.clY, G.sources, fsY_sources, a, ks, rfl, .inl s0, fun kn hkn => ?_⟩
    refine ⟨_, rfl, by show 1 ≤ sizeLine; omega, fun trl htrl => ?_⟩
    refine ⟨by show 0 ≤ sizeLine; omega, fun tdl htdl => ?_⟩
    have sk := Same.upd hkn (o := .dK ks)
    have st := Same.upd htrl (o := .lst [.int t])
    have sd := Same.upd htdl (o := .lst [])
    have s123 := (sk.trans st).trans sd
    have kn0 := hkn
    have trl0 : H trl = none := sk.free htrl
    have tdl0 : H tdl = none := (sk.trans st).free htdl
    have nkt : kn ≠ trl := fun q => by rw [← q, upd_same] at htrl; cases htrl
    have hkn3 := sd _ _ (st _ _ (upd_same (H := H) (a := kn) (o := .dK ks)))
    have htr3 := sd _ _ (upd_same (H := upd H kn (.dK ks)) (a := trl) (o := .lst [.int t]))
    have htd3 : (upd (upd (upd H kn (.dK ks)) trl (.lst [.int t])) tdl (.lst [])) tdl = some (.lst []) := upd_same
    have ntd : trl ≠ tdl := fun q => by rw [← q, upd_same] at htdl; cases htdl
    revert s123 hkn3 htr3 htd3
    generalize upd (upd (upd H kn (.dK ks)) trl (.lst [.int t])) tdl (.lst []) = H0
    intro s123 hkn3 htr3 htd3
    have YB : YdAt c (trl :: tdl :: Bs) H0 p a b z y n m := (Y.off (B' := trl :: tdl :: Bs) fun l xs hnb hl => by
      intro q
      rcases List.mem_cons.mp q with q | q
      · rw [q, trl0] at hl; cases hl
      rcases List.mem_cons.mp q with q | q
      · rw [q, tdl0] at hl; cases hl
      · exact hnb q).same s123
    refine ⟨fun mm σ H2 => ∃ (acc : Acc Str) (tr : List Int) (v5 v6 v7 : Option V), σ = [some (.ref p), some (.int t), some (.ref kn), some (.ref trl), some (.ref tdl), v5, v6, v7] ∧ Mch y.g t mm acc tr res ∧ AskI c Bs H p a b z kn trl tdl y t n m acc tr H2,
      ⟨n0, [], [t], none, none, none, rfl, M0, ⟨⟨S, ⟨ks, hkn3, s1⟩, fun u => by rw [s2]; unfold kno; cases y.S u <;> rfl, by omega⟩, htr3, htd3, YB, But.of s123⟩⟩, ?_⟩
    rintro mm σ H2 ⟨acc, tr, v5, v6, v7, rfl, M, I⟩
    have Gacc : Good y.g acc := by
      obtain ⟨nw, e⟩ := M.pre
      rw [e] at Gf
      exact Gf.left
    have hal := good_len W Gacc
    have I' := I
    obtain ⟨⟨N, ⟨kN, hkN, rN⟩, fN, lN⟩, htr, htd, YI, fr⟩ := I'
    have o2 : H2 p = some (.ins c.Y dx (fsY a b z)) := fr _ _ oz o
    have fin : ∀ (v : V) (H3 : Hp), Same H2 H3 → res.2 = acc → AnsNew H H3 v (ask y t).2 → Q v H3 := fun v H3 s3 e q => by
      refine k v H3 (fun x o' _ _ n3 e' => s3 _ _ (fr x o' n3 e')) ?_ q
      rw [hask, e]
      exact (((YI.same s3).off (B' := Bs) fun _ _ hnb _ q => hnb (List.mem_cons_of_mem _ (List.mem_cons_of_mem _ q))).le (Nat.le_refl _) (by omega))
    have err : ∀ (why : Why) (H3 : Hp) (tpl : Addr), Same H2 H3 → H3 tpl = none → res = (.error (why, tr), acc) → Q (.ref tpl) (upd H3 tpl (.tup [.str "fails", .str (whyW why), .ref trl, .ref tdl])) := fun why H3 tpl s3 hn3 e => by
      have s4 := Same.upd hn3 (o := .tup [.str "fails", .str (whyW why), .ref trl, .ref tdl])
      refine fin _ _ (s3.trans s4) (by rw [e]) ?_
      rw [hask, e]
      exact ⟨tpl, trl, tdl, rfl, upd_same, s4 _ _ (s3 _ _ htr), s4 _ _ (s3 _ _ htd), trl0, tdl0⟩
    refine ⟨_, rfl, _, rfl, kn, _, rfl, DGet.k (k := .inl t) hkN, _, rfl, ?_⟩
    rw [rN.has t, fN]
    by_cases hdone : ∃ v, Has y.g acc t v
    · obtain ⟨v, hv⟩ := hdone
      have hkv := kno_has Gacc hv
      have hres : res = (.ok v, acc) := by
        cases M with
        | done h =>
          have := (kno_has Gacc h).symm.trans hkv
          cases this
          rfl
        | ring u _ => rw [kno_uk u] at hkv; cases hkv
        | miss u _ _ => rw [kno_uk u] at hkv; cases hkv
        | push u _ _ _ _ _ => rw [kno_uk u] at hkv; cases hkv
        | noway u _ _ _ _ => rw [kno_uk u] at hkv; cases hkv
        | make u _ _ _ _ _ => rw [kno_uk u] at hkv; cases hkv
      rw [hkv]
      refine iteF ?_
      rcases rN.val t with ⟨g1, g2⟩ | ⟨n', v', g1, g2, g3⟩
      · rw [fN, hkv] at g1; cases g1
      have en : n' = v := by rw [fN, hkv] at g1; exact (Option.some.inj g1).symm
      subst en
      subst g3
      refine ⟨_, rfl, _, rfl, kn, _, rfl, by rw [← g2]; exact DGet.k (k := .inl t) hkN, _, rfl, z3, fun tpl htpl => ?_⟩
      have s4 := Same.upd htpl (o := .tup [.str "made", .int n', .ref tdl])
      refine fin _ _ s4 (by rw [hres]) ?_
      rw [hask, hres]
      exact ⟨tpl, tdl, rfl, upd_same, s4 _ _ htd, tdl0⟩
    have uk : Uk y.g acc t := by
      cases M with
      | done h => exact absurd ⟨_, h⟩ hdone
      | ring u _ => exact u
      | miss u _ _ => exact u
      | push u _ _ _ _ _ => exact u
      | noway u _ _ _ _ => exact u
      | make u _ _ _ _ _ => exact u
    rw [kno_uk uk]
    refine iteT ⟨_, fun _ _ h => h, ?_⟩
    obtain ⟨p', l, rfl⟩ : ∃ p' l, tr = p' ++ [l] := by
      cases M with
      | done h => exact absurd ⟨_, h⟩ hdone
      | ring _ _ => exact ⟨_, _, rfl⟩
      | miss _ _ _ => exact ⟨_, _, rfl⟩
      | push _ _ _ _ _ _ => exact ⟨_, _, rfl⟩
      | noway _ _ _ _ _ => exact ⟨_, _, rfl⟩
      | make _ _ _ _ _ _ => exact ⟨_, _, rfl⟩
    refine ⟨_, rfl, _, rfl, trl, _, _, _, rfl, rfl, SqL.of htr, by rw [List.map_append]; exact atI_last _ _, ?_⟩
    refine ⟨_, rfl, _, rfl, _, rfl, _, rfl, trl, _, rfl, SqL.of htr, fun sl hsl => ?_⟩
    have s2a := Same.upd hsl (o := .lst (cutV ((p' ++ [l]).map V.int) none (some (-1))))
    have hcut : (upd H2 sl (.lst (cutV ((p' ++ [l]).map V.int) none (some (-1))))) sl = some (.lst (p'.map V.int)) := by rw [upd_same, cut_last]
    revert s2a hcut
    generalize upd H2 sl (.lst (cutV ((p' ++ [l]).map V.int) none (some (-1)))) = H3
    intro s2a hcut
    refine ⟨sl, _, rfl, .inl (SqL.of hcut), rfl, flat_ints _, _, rfl, ?_⟩
    rw [if_neg (by decide : ¬ (false = true)), in_ints]
    by_cases hin : l ∈ p'
    · rw [decide_eq_true hin]
      refine iteT ?_
      refine ⟨_, rfl, _, rfl, z4, fun tpl htpl => ?_⟩
      have hres : res = (.error (.ring, p' ++ [l]), acc) := by
        generalize etr : p' ++ [l] = tr at M
        cases M with
        | done h => exact absurd ⟨_, h⟩ hdone
        | ring _ _ => rfl
        | miss _ hx _ => obtain ⟨rfl, e⟩ := List.append_inj' etr rfl; cases e; exact absurd hin hx
        | push _ hx _ _ _ _ => obtain ⟨rfl, e⟩ := List.append_inj' etr rfl; cases e; exact absurd hin hx
        | noway _ hx _ _ _ => obtain ⟨rfl, e⟩ := List.append_inj' etr rfl; cases e; exact absurd hin hx
        | make _ hx _ _ _ _ => obtain ⟨rfl, e⟩ := List.append_inj' etr rfl; cases e; exact absurd hin hx
      exact err .ring H3 tpl s2a htpl hres
    rw [decide_eq_false hin]
    refine iteF ?_
    have I3 := I.same s2a
    have I3' := I3
    obtain ⟨⟨N3, ⟨kN3, hkN3, rN3⟩, fN3, lN3⟩, htr3', htd3', Y3, fr3⟩ := I3'
    have o3 := s2a _ _ o2
    have hB3 : ∀ x ∈ Bs, H3 x ≠ none := fun x hx' => by
      cases q : H x with
      | none => exact absurd q (hBs x hx')
      | some o' =>
        by_cases e : x = z
        · obtain ⟨_, _, _, ⟨kz3, Z3, zz1, _⟩, _⟩ := id Y3
          rw [e, zz1]; exact Option.some_ne_none _
        · rw [fr3 x o' e q]; exact Option.some_ne_none _
    obtain ⟨_, _, ⟨kr, R, r1, r2, r3, r4⟩, ⟨kz3, Z3, zz1, _⟩, _⟩ := id Y3
    have r3' : ∀ u, fnd R u = y.R u := r3
    refine ⟨_, rfl, _, rfl, p, c.Y, dx, _, _, rfl, o3, G.clY, G.recipes, fsY_recipes, b, _, rfl, DGet.k (k := .inl l) r1, _, rfl, ?_⟩
    rw [r2.has l, r3']
    generalize etr : p' ++ [l] = tr at M
    cases M with
    | done h => exact absurd ⟨_, h⟩ hdone
    | ring _ hx => obtain ⟨rfl, e⟩ := List.append_inj' etr rfl; cases e; exact absurd hx hin
    | miss _ hx hR =>
      obtain ⟨rfl, e⟩ := List.append_inj' etr rfl
      cases e
      rw [show y.R l = none from hR]
      refine iteT ?_
      refine ⟨_, rfl, _, rfl, z4, fun tpl htpl => ?_⟩
      exact err .missing H3 tpl s2a htpl rfl
    | @push _ _ _ s' ms mk n' _ _ hx hR hfu hp M' =>
      obtain ⟨rfl, e⟩ := List.append_inj' etr rfl
      cases e
      have hR' : y.R l = some (s', ms) := hR
      rw [hR']
      refine iteF ?_
      rcases r2.val l with ⟨g1, _⟩ | ⟨x', rv, g1, g2, hrec⟩
      · rw [r3', hR'] at g1; cases g1
      have ex : x' = (s', ms) := by rw [r3', hR'] at g1; exact (Option.some.inj g1).symm
      subst ex
      obtain ⟨r, dr, tp, tm, ll, rfl, h1, h2, h3, h4, h5⟩ := hrec
      refine ⟨_, rfl, p, c.Y, dx, _, _, rfl, o3, G.clY, G.recipes, fsY_recipes, _, rfl, b, _, rfl, by rw [← g2]; exact DGet.k (k := .inl l) r1, r, c.R, dr, _, _, rfl, h1, G.clR, G.steps, fsR_steps, _, rfl, ll, kn, _, N3, rfl, SqL.of h4, ⟨kN3, hkN3, rN3⟩, ?_⟩
      have hf2 : (dd ms).find? (fun m => (fnd N3 m).isNone) = some mk := by
        rw [show (fun m => (fnd N3 m).isNone) = Yd.unk y.g acc from funext fun u => by rw [fN3, kno_unk], dd_find']
        exact hfu
      rw [show (dd (s', ms).2).find? (fun m => (fnd N3 m).isNone) = some mk from hf2]
      refine ⟨_, rfl, _, rfl, iteT ?_⟩
      refine ⟨_, rfl, .inl ⟨rfl, _, SqL.of htr3'⟩, _, rfl, trl, _, _, rfl, rfl, htr3', by rw [List.length_map, List.length_append, List.length_singleton]; omega, ?_⟩
      refine ⟨n', Nat.lt_succ_self _, acc, p' ++ [l] ++ [mk], _, _, _, rfl, M', ?_⟩
      have kb : KpB (trl :: tdl :: Bs) H3 (upd H3 trl (.lst ((p' ++ [l]).map V.int ++ [V.int mk]))) := KpB.lst htr3' (by simp)
      have nk : kn ≠ trl := nkt
      refine ⟨⟨N3, ⟨kN3, by rw [upd_ne nk]; exact hkN3, rN3⟩, fN3, lN3⟩, by rw [upd_same, ints_snoc (p' ++ [l]) mk]; rfl, by rw [upd_ne (Ne.symm ntd)]; exact htd3', Y3.kp kb fun u o' hu' e' => ?_, fun x o' hx' e' => ?_⟩
      · have : u ≠ trl := by
          obtain ⟨_, ⟨S', ⟨ks', s0', _⟩, _⟩, ⟨kr', R', r1', _⟩, ⟨kz', Z', z1'', _⟩, _⟩ := id Y3
          rcases hu' with rfl | rfl | rfl
          · exact ne_of s0' htr3' (by intro q; cases q)
          · exact ne_of r1' htr3' (by intro q; cases q)
          · exact ne_of z1'' htr3' (by intro q; cases q)
        rw [upd_ne this]
        exact e'
      · rw [upd_ne (ne_of_none e' trl0)]
        exact fr3 x o' hx' e'
    | @noway _ _ _ s' ms ns _ hx hR hall hw =>
      obtain ⟨rfl, e⟩ := List.append_inj' etr rfl
      cases e
      have hR' : y.R l = some (s', ms) := hR
      rw [hR']
      refine iteF ?_
      rcases r2.val l with ⟨g1, _⟩ | ⟨x', rv, g1, g2, hrec⟩
      · rw [r3', hR'] at g1; cases g1
      have ex : x' = (s', ms) := by rw [r3', hR'] at g1; exact (Option.some.inj g1).symm
      subst ex
      obtain ⟨r, dr, tp, tm, ll, rfl, h1, h2, h3, h4, h5⟩ := hrec
      refine ⟨_, rfl, p, c.Y, dx, _, _, rfl, o3, G.clY, G.recipes, fsY_recipes, _, rfl, b, _, rfl, by rw [← g2]; exact DGet.k (k := .inl l) r1, r, c.R, dr, _, _, rfl, h1, G.clR, G.steps, fsR_steps, _, rfl, ll, kn, _, N3, rfl, SqL.of h4, ⟨kN3, hkN3, rN3⟩, ?_⟩
      have hall' : All2 (fun m n => fnd N3 m = some n) ms ns := hall.imp fun m n q => by rw [fN3]; exact kno_has Gacc q
      have hf2 : (dd ms).find? (fun m => (fnd N3 m).isNone) = none := by
        rw [dd_find']
        refine List.find?_eq_none.mpr fun u hu' => ?_
        obtain ⟨q, hq⟩ := hall'.mem u hu'
        rw [hq]; simp
      rw [show (dd (s', ms).2).find? (fun m => (fnd N3 m).isNone) = none from hf2]
      refine ⟨_, rfl, _, rfl, iteF ?_⟩
      have hsr := W.srt l (s', ms) hR'
      have nkz : kn ≠ z := by
        obtain ⟨_, _, _, ⟨kzz, Zz, zzz, _⟩, _⟩ := Y
        exact (ne_of_none zzz kn0).symm
      refine ⟨_, rfl, p, dx, _, rfl, o3, fsY_no (by decide +kernel) (by decide +kernel) (by decide +kernel), _, rfl, _, rfl, _, rfl, p, a, b, z, kn, tdl, trl :: tdl :: Bs, _, n, m + acc.length, l, (s', ms), ns, toldOf y.sh acc, N3, rfl, Y3, by omega, hR', hsr.1, hsr.2, ⟨kN3, hkN3, rN3⟩, nkz, hall', htd3', by simp, ?_, by have := told_len y.sh acc; omega, ?_⟩
      · intro x hx'
        rcases List.mem_cons.mp hx' with q | q
        · rw [q, htr3']; exact Option.some_ne_none _
        rcases List.mem_cons.mp q with q | q
        · rw [q, htd3']; exact Option.some_ne_none _
        · exact hB3 x q
      rw [show wk (s', ms).1 ns = none from hw]
      intro H4 s4
      refine ⟨_, rfl, _, rfl, iteT ?_⟩
      refine ⟨_, rfl, _, rfl, z4, fun tpl htpl => ?_⟩
      exact err .noway H4 tpl (s2a.trans s4) htpl rfl
    | @make _ _ _ s' ms ns v n' _ _ hx hR hall hw M' =>
      obtain ⟨rfl, e⟩ := List.append_inj' etr rfl
      cases e
      have hR' : y.R l = some (s', ms) := hR
      rw [hR']
      refine iteF ?_
      rcases r2.val l with ⟨g1, _⟩ | ⟨x', rv, g1, g2, hrec⟩
      · rw [r3', hR'] at g1; cases g1
      have ex : x' = (s', ms) := by rw [r3', hR'] at g1; exact (Option.some.inj g1).symm
      subst ex
      obtain ⟨r, dr, tp, tm, ll, rfl, h1, h2, h3, h4, h5⟩ := hrec
      refine ⟨_, rfl, p, c.Y, dx, _, _, rfl, o3, G.clY, G.recipes, fsY_recipes, _, rfl, b, _, rfl, by rw [← g2]; exact DGet.k (k := .inl l) r1, r, c.R, dr, _, _, rfl, h1, G.clR, G.steps, fsR_steps, _, rfl, ll, kn, _, N3, rfl, SqL.of h4, ⟨kN3, hkN3, rN3⟩, ?_⟩
      have hall' : All2 (fun m n => fnd N3 m = some n) ms ns := hall.imp fun m n q => by rw [fN3]; exact kno_has Gacc q
      have hf2 : (dd ms).find? (fun m => (fnd N3 m).isNone) = none := by
        rw [dd_find']
        refine List.find?_eq_none.mpr fun u hu' => ?_
        obtain ⟨q, hq⟩ := hall'.mem u hu'
        rw [hq]; simp
      rw [show (dd (s', ms).2).find? (fun m => (fnd N3 m).isNone) = none from hf2]
      refine ⟨_, rfl, _, rfl, iteF ?_⟩
      have hsr := W.srt l (s', ms) hR'
      have nkz : kn ≠ z := by
        obtain ⟨_, _, _, ⟨kzz, Zz, zzz, _⟩, _⟩ := Y
        exact (ne_of_none zzz kn0).symm
      refine ⟨_, rfl, p, dx, _, rfl, o3, fsY_no (by decide +kernel) (by decide +kernel) (by decide +kernel), _, rfl, _, rfl, _, rfl, p, a, b, z, kn, tdl, trl :: tdl :: Bs, _, n, m + acc.length, l, (s', ms), ns, toldOf y.sh acc, N3, rfl, Y3, by omega, hR', hsr.1, hsr.2, ⟨kN3, hkN3, rN3⟩, nkz, hall', htd3', by simp, ?_, by have := told_len y.sh acc; omega, ?_⟩
      · intro x hx'
        rcases List.mem_cons.mp hx' with q | q
        · rw [q, htr3']; exact Option.some_ne_none _
        rcases List.mem_cons.mp q with q | q
        · rw [q, htd3']; exact Option.some_ne_none _
        · exact hB3 x q
      rw [show wk (s', ms).1 ns = some v from hw]
      intro H4 fr4 Y4 htd4
      have Gn : Good y.g (acc ++ [⟨l, s', ms, ns, v⟩]) := by
        obtain ⟨nw, e⟩ := M'.pre
        rw [e] at Gf
        exact Gf.left
      obtain ⟨gl1, gl2, _⟩ := Gn.last
      have gl1' : y.S l = none := gl1
      have gl2' : lookV acc l = none := gl2
      have hfv : findV acc l = none := by
        have := lookV_find l acc
        rw [gl2'] at this
        cases q : findV acc l with
        | none => rfl
        | some w => rw [q] at this; cases this
      have hal2 := good_len W Gn
      rw [List.length_append, List.length_singleton] at hal2
      have nkd : kn ≠ tdl := ne_of hkN3 htd3' (by intro q; cases q)
      have ntz : trl ≠ z := ne_of htr3' zz1 (by intro q; cases q)
      have hkN4 := fr4 kn _ nkz nkd hkN3
      have htr4 := fr4 trl _ ntz ntd htr3'
      refine ⟨_, rfl, _, rfl, iteF ?_⟩
      have hkl : kN3.length = N3.length := rN3.len
      refine ⟨_, rfl, _, rfl, _, rfl, kn, _, rfl, .inl ⟨kN3, .inl l, hkN4, rfl, by omega, rfl⟩, ?_⟩
      have htr5 : (upd H4 kn (.dK (putK kN3 (.inl l) (.int v)))) trl = some (.lst ((p' ++ [l]).map V.int)) := by rw [upd_ne nkt.symm]; exact htr4
      refine ⟨_, rfl, .inl ⟨rfl, _, SqL.of htr5⟩, trl, _, .int l, rfl, rfl, htr5, by rw [ints_snoc]; exact snoc_last _ _, ?_⟩
      rw [ints_snoc, List.dropLast_concat]
      refine ⟨n', Nat.lt_succ_self _, acc ++ [⟨l, s', ms, ns, v⟩], p', _, _, _, rfl, M', ?_⟩
      have ysh : shUp { y with sh := shOf y.sh acc } l (s', ms) ns = { y with sh := shOf y.sh (acc ++ [⟨l, s', ms, ns, v⟩]) } := by
        unfold shUp
        rw [shOf_snoc y.sh acc ⟨l, s', ms, ns, v⟩ hfv]
        rfl
      rw [ysh] at Y4
      obtain ⟨_, ⟨S5, ⟨ks5, t1, _⟩, _⟩, ⟨kr5, R5, t2, _⟩, ⟨kz5, Z5, t3, _⟩, _⟩ := id Y4
      have n1 : kn ≠ a := by
        have := s123 _ _ s0
        exact (ne_of_none s0 kn0).symm
      have n2 : kn ≠ b := by
        obtain ⟨_, _, ⟨krr, Rr, rrr, _⟩, _⟩ := Y
        exact (ne_of_none rrr kn0).symm
      have fin4 : ∀ x o', x ≠ kn → x ≠ trl → H4 x = some o' → (upd (upd H4 kn (.dK (putK kN3 (.inl l) (.int v)))) trl (.lst (p'.map V.int))) x = some o' := fun x o' e1 e2 e3 => by rw [upd_ne e2, upd_ne e1]; exact e3
      refine ⟨⟨setA N3 l v, ⟨_, by rw [upd_ne nkt]; exact upd_same, rN3.put l rfl⟩, fun u => ?_, ?_⟩, upd_same, ?_, ?_, ?_⟩
      · rw [fnd_set, kno_snoc gl1' gl2' u, fN3]
      · have := len_set N3 l v
        rw [List.length_append, List.length_singleton]
        omega
      · rw [fin4 _ _ (Ne.symm nkd) (Ne.symm ntd) htd4]
        congr 3
        rw [toldOf_snoc]
        congr 1
        have : shOf y.sh acc l = y.sh l := by unfold shOf; rw [hfv]
        show (if shOf y.sh acc l = some (s', ms, ns) then ([] : List Int) else [l]) = if y.sh l = some (s', ms, ns) then [] else [l]
        rw [this]
      · have kb : KpB (trl :: tdl :: Bs) H4 (upd (upd H4 kn (.dK (putK kN3 (.inl l) (.int v)))) trl (.lst (p'.map V.int))) := (KpB.dict hkN4).trans (KpB.lst htr5 (by simp))
        have Y5 := Y4.kp kb fun u o' hu' e' => fin4 u o' (by
          rcases hu' with rfl | rfl | rfl
          · exact Ne.symm n1
          · exact Ne.symm n2
          · exact Ne.symm nkz) (by
          rcases hu' with rfl | rfl | rfl
          · exact ne_of t1 htr4 (by intro q; cases q)
          · exact ne_of t2 htr4 (by intro q; cases q)
          · exact ne_of t3 htr4 (by intro q; cases q)) e'
        rw [List.length_append, List.length_singleton]
        exact Y5.le (Nat.le_refl _) (by omega)
      · intro x o' hx' e'
        have e1 : x ≠ kn := ne_of_none e' kn0
        have e2 : x ≠ trl := ne_of_none e' trl0
        have e3 : x ≠ tdl := ne_of_none e' tdl0
        exact fin4 x o' e1 e2 (fr4 x o' hx' e3 (fr3 x o' hx' e'))
end
end Lw
set_option Elab.async false
set_option linter.all false
set_option maxRecDepth 100000
namespace Lw
open PySem L2 PyProof.Rows
structure Fnd (K : PySem.W.Frag) (x : Str) (st : Stmt) : Prop where
  ex : ∃ (f : Addr) (oc : Value) (od an : Option Addr) (osl : Array (Option Value)) (kV doc pm cdv ct : Value), PySem.W.nsIn K mainGlobals x = some (some (.ref f)) ∧
    K.lookup f = some ⟨oc, od, .func (PySem.W.fnOf x x (defArgs st) (defBody st) (defScope st) .none kV doc pm an cdv ct), osl⟩ ∧ PySem.W.codeIn K cdv x = true ∧ PySem.W.keepIn K (.ref f) = true
theorem fnd_ {K : PySem.W.Frag} {x : Str} {st : Stmt} {f : Addr} {oc : Value} {od an : Option Addr} {osl : Array (Option Value)} {kV doc pm cdv ct : Value} (e : PySem.W.nsIn K mainGlobals x = some (some (.ref f)))
    (l : K.lookup f = some ⟨oc, od, .func (PySem.W.fnOf x x (defArgs st) (defBody st) (defScope st) .none kV doc pm an cdv ct), osl⟩) (c : PySem.W.codeIn K cdv x = true) (k : PySem.W.keepIn K (.ref f) = true) : Fnd K x st :=
  ⟨f, oc, od, an, osl, kV, doc, pm, cdv, ct, e, l, c, k⟩
theorem Fnd.at {K : PySem.W.Frag} {mg : Str → Option Value} {h : Heap} {x : Str} {st : Stmt} (F : Fnd K x st) (X : K.In h) (G : h.Ns mainGlobals mg) : ∃ f fd, At K mg x st f fd := by
  obtain ⟨f, oc, od, an, osl, kV, doc, pm, cdv, ct, e, l, c, k⟩ := F.ex
  exact ⟨f, _, ⟨fun_mk l c k, PySem.W.mg_of X G e⟩⟩
structure FndC (K : PySem.W.Frag) (x : Str) (C : Addr) : Prop where
  ns : PySem.W.nsIn K mainGlobals x = some (some (.ref C))
  pg : PySem.W.plainGet K C Str.empty = true
  hd : PySem.W.hasDictIn K C = true
  po : PySem.W.plainOver K C = true
  sa : PySem.W.findIn K (.ref C) "__setattr__" = some (some (.builtin "object.__setattr__"))
  mak : PySem.W.makesIn K C = true
  kc : PySem.W.keepIn K (.ref C) = true
theorem FndC.cls {K : PySem.W.Frag} {x : Str} {C : Addr} (h : FndC K x C) : Cls K C := ⟨h.pg, h.hd, h.po, h.sa⟩
structure FndM (K : PySem.W.Frag) (C : Addr) (m qual : Str) (st : Stmt) : Prop where
  ex : ∃ (f : Addr) (oc : Value) (od an : Option Addr) (osl : Array (Option Value)) (kV doc pm cdv ct : Value), PySem.W.findIn K (.ref C) m = some (some (.ref f)) ∧ PySem.W.isFn K (.ref f) = true ∧
    K.lookup f = some ⟨oc, od, .func (PySem.W.fnOf m qual (defArgs st) (defBody st) (defScope st) .none kV doc pm an cdv ct), osl⟩ ∧ PySem.W.codeIn K cdv qual = true ∧ PySem.W.keepIn K (.ref f) = true
theorem fndM_ {K : PySem.W.Frag} {C : Addr} {m qual : Str} {st : Stmt} {f : Addr} {oc : Value} {od an : Option Addr} {osl : Array (Option Value)} {kV doc pm cdv ct : Value} (e : PySem.W.findIn K (.ref C) m = some (some (.ref f))) (i : PySem.W.isFn K (.ref f) = true)
    (l : K.lookup f = some ⟨oc, od, .func (PySem.W.fnOf m qual (defArgs st) (defBody st) (defScope st) .none kV doc pm an cdv ct), osl⟩) (c : PySem.W.codeIn K cdv qual = true) (k : PySem.W.keepIn K (.ref f) = true) : FndM K C m qual st :=
  ⟨f, oc, od, an, osl, kV, doc, pm, cdv, ct, e, i, l, c, k⟩
theorem FndM.at {K : PySem.W.Frag} {C : Addr} {m qual : Str} {st : Stmt} (F : FndM K C m qual st) (c : Cls K C) : ∃ f fd, AtM K C m qual st f fd := by
  obtain ⟨f, oc, od, an, osl, kV, doc, pm, cdv, ct, e, i, l, cc, k⟩ := F.ex
  exact ⟨f, _, ⟨c, fun_mk l cc k, ⟨e, i, k⟩⟩⟩
theorem FndM.init {K : PySem.W.Frag} {mg : Str → Option Value} {h : Heap} {C : Addr} {x qual : Str} {st : Stmt} (F : FndM K C "__init__" qual st) (c : FndC K x C) (X : K.In h) (G : h.Ns mainGlobals mg) : ∃ f fd, AtI K mg C x qual st f fd := by
  obtain ⟨f, oc, od, an, osl, kV, doc, pm, cdv, ct, e, i, l, cc, k⟩ := F.ex
  exact ⟨f, _, ⟨c.cls, fun_mk l cc k, ⟨c.mak, e, i, c.kc⟩, PySem.W.mg_of X G c.ns⟩⟩
structure FndX (K : PySem.W.Frag) (x : Str) (C : Addr) : Prop where
  ns : PySem.W.nsIn K mainGlobals x = some (some (.ref C))
  ex : ExcC K C
  sb : PySem.W.subIn K (.ref C) (.type "BaseException") = some true
  ty : PySem.W.typeIn K (.ref C) = some (.type "type")
  cd : ∃ cd, PySem.W.clsIn K C = some cd
theorem fndX_ {K : PySem.W.Frag} {x : Str} {C : Addr} {cd : ClassData} (ns : PySem.W.nsIn K mainGlobals x = some (some (.ref C))) (ex : ExcC K C) (sb : PySem.W.subIn K (.ref C) (.type "BaseException") = some true) (ty : PySem.W.typeIn K (.ref C) = some (.type "type")) (c : PySem.W.clsIn K C = some cd) : FndX K x C := ⟨ns, ex, sb, ty, cd, c⟩
theorem FndX.exm {K : PySem.W.Frag} {x : Str} {C D : Addr} {b : Bool} (h : FndX K x C) (s : PySem.W.subIn K (.ref D) (.ref C) = some b) : PySem.W.exmOne K (.ref D) (.ref C) = some b := by
  obtain ⟨cd, hcd⟩ := h.cd
  unfold PySem.W.exmOne
  rw [h.sb, if_pos (by rfl)]
  show (if ((PySem.W.clsIn K C).isSome && PySem.W.typeIn K (.ref C) == some (.type "type")) = true then PySem.W.subIn K (.ref D) (.ref C) else none) = some b
  rw [hcd, h.ty, if_pos (by rfl), s]
theorem sorts_ {K : PySem.W.Frag} {mg : Str → Option Value} {h : Heap} {a : Addr} {od : Option Addr} {n : Nat} {sl : Array (Option Value)} {t1 t2 t3 : Tok} (X : K.In h) (G : h.Ns mainGlobals mg) (e : PySem.W.nsIn K mainGlobals "SORTS" = some (some (.ref a)))
    (l : K.lookup a = some ⟨.type "tuple", od, .seq #[.str "sum" t1, .str "most" t2, .str "take" t3] n, sl⟩) : ∃ a, mg "SORTS" = some (.ref a) ∧ ∀ H, SqT K H a [.str "sum", .str "most", .str "take"] :=
  ⟨a, PySem.W.mg_of X G e, fun _ => .inr ⟨_, _, _, l, rfl, rfl, (by show 3 ≤ sizeLine; decide), .cons ⟨_, rfl⟩ (.cons ⟨_, rfl⟩ (.cons ⟨_, rfl⟩ .nil))⟩⟩
end Lw
set_option Elab.async false
set_option linter.all false
set_option maxRecDepth 100000
set_option maxHeartbeats 4000000
namespace Lw
open PySem L2 PyProof.Rows
structure ExcK0 (K : PySem.W.Frag) (C : Addr) : Prop where
  ga : PySem.W.findIn K (.ref C) "__getattribute__" = some (some (.builtin "BaseException.__getattribute__"))
  gh : PySem.W.findIn K (.ref C) "__getattr__" = some none
  cl : PySem.W.findIn K (.ref C) "__class__" = some (some (.builtin "object.__class__"))
  mo : PySem.W.mroIn K C (.type "object") = some true
  mb : PySem.W.mroIn K C (.type "BaseException") = some true
  cd : ∃ c d k s, K.lookup C = some ⟨c, d, .cls k, s⟩
theorem excK0_ {K : PySem.W.Frag} {C : Addr} {c : Value} {d : Option Addr} {k : ClassData} {s : Array (Option Value)} (ga : PySem.W.findIn K (.ref C) "__getattribute__" = some (some (.builtin "BaseException.__getattribute__"))) (gh : PySem.W.findIn K (.ref C) "__getattr__" = some none)
    (cl : PySem.W.findIn K (.ref C) "__class__" = some (some (.builtin "object.__class__"))) (mo : PySem.W.mroIn K C (.type "object") = some true) (mb : PySem.W.mroIn K C (.type "BaseException") = some true) (l : K.lookup C = some ⟨c, d, .cls k, s⟩) : ExcK0 K C := ⟨ga, gh, cl, mo, mb, c, d, k, s, l⟩
theorem kit_val {K : PySem.W.Frag} {C : Addr} (s : PySem.W.subIn K (.ref C) (.type "ValueError") = some true) : PySem.W.kitOne K (.ref C) (.type "ValueError") = some true := by
  unfold PySem.W.kitOne PySem.W.kitCls
  have n : ¬ (Value.ref C == Value.type "ValueError") = true := fun q => by have e := beq_iff_eq.mp q; cases e
  rw [if_neg n]
  show (if PySem.W.kitMeta "ValueError" = true then PySem.W.subIn K (.ref C) (.type "ValueError") else none) = some true
  rw [if_pos (by decide +kernel), s]
theorem kit_self {K : PySem.W.Frag} {D : Addr} : PySem.W.kitOne K (.ref D) (.ref D) = some true := by
  unfold PySem.W.kitOne
  rw [if_pos (beq_iff_eq.mpr rfl)]
theorem kit_ne {K : PySem.W.Frag} {x : Str} {C D : Addr} (h : FndX K x D) (t : PySem.W.subIn K (.ref D) (.ref D) = some true) (s : PySem.W.subIn K (.ref C) (.ref D) = some false) : PySem.W.kitOne K (.ref C) (.ref D) = some false := by
  obtain ⟨cd, hcd⟩ := h.cd
  unfold PySem.W.kitOne PySem.W.kitCls
  rw [if_neg (fun q => by have e := Value.ref.inj (beq_iff_eq.mp q); subst e; rw [s] at t; cases t)]
  show (if ((PySem.W.clsIn K D).isSome && PySem.W.typeIn K (.ref D) == some (.type "type")) = true then PySem.W.subIn K (.ref C) (.ref D) else none) = some false
  rw [hcd, h.ty, if_pos (by rfl), s]
theorem seven {α : Type} {a0 a1 a2 a3 a4 a5 a6 : α} {P : Nat → α → Prop} (h0 : P 0 a0) (h1 : P 1 a1) (h2 : P 2 a2) (h3 : P 3 a3) (h4 : P 4 a4) (h5 : P 5 a5) (h6 : P 6 a6) : ∀ (i : Nat) (C : α), [a0, a1, a2, a3, a4, a5, a6][i]? = some C → P i C
  | 0, _, h => by cases h; exact h0
  | 1, _, h => by cases h; exact h1
  | 2, _, h => by cases h; exact h2
  | 3, _, h => by cases h; exact h3
  | 4, _, h => by cases h; exact h4
  | 5, _, h => by cases h; exact h5
  | 6, _, h => by cases h; exact h6
  | _ + 7, _, h => nomatch h
theorem all_mk {l : PySem.W.OpenLaw} {w : World} {K : PySem.W.Frag} {h : Heap} {mg : Str → Option Value} {fa cR cL cY eHR eNS eSO eIS eNR eNT eF eY aS : Addr} {odS : Option Addr} {nS : Nat} {slS : Array (Option Value)} {t1 t2 t3 : Tok} (X : K.In h) (G : h.Ns mainGlobals mg) (hfa : mg "law" = some (.ref fa))
    (F0 : Fnd K "_wall" sWall)
    (F1 : Fnd K "check_sort" sCheckSort)
    (F2 : Fnd K "taken" sTaken)
    (F3 : Fnd K "worked" sWorked)
    (F4 : Fnd K "each_once" sEachOnce)
    (F5 : Fnd K "first_unknown" sFirstUnknown)
    (F6 : Fnd K "change" sChange)
    (F7 : Fnd K "change_answer" sChangeAnswer)
    (F8 : Fnd K "answer_to" sAnswerTo)
    (F9 : Fnd K "answers" sAnswers)
    (F10 : Fnd K "_law_upto" sUpto)
    (F11 : Fnd K "_law_draw" sDraw)
    (F12 : Fnd K "_law_whole" sWhole)
    (F13 : Fnd K "_law_at" sAt)
    (F14 : Fnd K "_law_one_deed" sOneDeed)
    (F15 : Fnd K "_law_renamed" sRenamed)
    (F16 : Fnd K "_law_yard_deeds" sYardDeeds)
    (F17 : Fnd K "_law_work" sWork)
    (F18 : Fnd K "_law_changed" sChanged)
    (F19 : Fnd K "_law_knowable" sKnowable)
    (F20 : Fnd K "_law_whole_row" sWholeRow)
    (F21 : Fnd K "_law_is_answer" sIsAnswer)
    (F22 : Fnd K "_law_done" sDone)
    (F23 : Fnd K "_law_answered" sAnswered)
    (F24 : Fnd K "_law_told_right" sToldRight)
    (F25 : Fnd K "_law_copy" sCopy)
    (F26 : Fnd K "_law_told_is" sToldIs)
    (F27 : Fnd K "law" sLaw)
    (b0 : PySem.W.nsIn K mainGlobals "len" = some none)
    (b1 : PySem.W.nsIn K mainGlobals "isinstance" = some none)
    (b2 : PySem.W.nsIn K mainGlobals "int" = some none)
    (b3 : PySem.W.nsIn K mainGlobals "bool" = some none)
    (b4 : PySem.W.nsIn K mainGlobals "str" = some none)
    (b5 : PySem.W.nsIn K mainGlobals "list" = some none)
    (b6 : PySem.W.nsIn K mainGlobals "tuple" = some none)
    (b7 : PySem.W.nsIn K mainGlobals "dict" = some none)
    (b8 : PySem.W.nsIn K mainGlobals "set" = some none)
    (b9 : PySem.W.nsIn K mainGlobals "sum" = some none)
    (b10 : PySem.W.nsIn K mainGlobals "max" = some none)
    (b11 : PySem.W.nsIn K mainGlobals "sorted" = some none)
    (b12 : PySem.W.nsIn K mainGlobals "range" = some none)
    (b13 : PySem.W.nsIn K mainGlobals "ValueError" = some none)
    (C0 : FndC K "Recipe" cR)
    (C1 : FndC K "Lot" cL)
    (C2 : FndC K "Yard" cY)
    (M0 : FndM K cR "__init__" "Recipe.__init__" sRecipeInit)
    (M1 : FndM K cR "made_of" "Recipe.made_of" sRecipeMadeOf)
    (M2 : FndM K cL "__init__" "Lot.__init__" sLotInit)
    (M3 : FndM K cL "is_fit" "Lot.is_fit" sLotIsFit)
    (M4 : FndM K cY "__init__" "Yard.__init__" sYardInit)
    (M5 : FndM K cY "set_source" "Yard.set_source" sYardSetSource)
    (M6 : FndM K cY "drop_source" "Yard.drop_source" sYardDropSource)
    (M7 : FndM K cY "set_recipe" "Yard.set_recipe" sYardSetRecipe)
    (M8 : FndM K cY "drop_recipe" "Yard.drop_recipe" sYardDropRecipe)
    (M9 : FndM K cY "lose" "Yard.lose" sYardLose)
    (M10 : FndM K cY "ask" "Yard.ask" sYardAsk)
    (M11 : FndM K cY "finish" "Yard.finish" sYardFinish)
    (M12 : FndM K cY "make" "Yard.make" sYardMake)
    (a0 : PySem.W.findIn K (.ref cR) "pair" = some none)
    (a1 : PySem.W.findIn K (.ref cR) "steps" = some none)
    (a2 : PySem.W.findIn K (.ref cL) "number" = some none)
    (a3 : PySem.W.findIn K (.ref cL) "recipe" = some none)
    (a4 : PySem.W.findIn K (.ref cL) "numbers" = some none)
    (a5 : PySem.W.findIn K (.ref cY) "sources" = some none)
    (a6 : PySem.W.findIn K (.ref cY) "recipes" = some none)
    (a7 : PySem.W.findIn K (.ref cY) "shelf" = some none)
    (X0 : FndX K "HasRecipe" eHR)
    (X1 : FndX K "NoSource" eNS)
    (X2 : FndX K "NoSort" eSO)
    (X3 : FndX K "IsSource" eIS)
    (X4 : FndX K "NoRecipe" eNR)
    (X5 : FndX K "NotThere" eNT)
    (s00 : PySem.W.subIn K (.ref eHR) (.ref eHR) = some true)
    (s10 : PySem.W.subIn K (.ref eNS) (.ref eHR) = some false)
    (s11 : PySem.W.subIn K (.ref eNS) (.ref eNS) = some true)
    (s20 : PySem.W.subIn K (.ref eSO) (.ref eHR) = some false)
    (s21 : PySem.W.subIn K (.ref eSO) (.ref eNS) = some false)
    (s22 : PySem.W.subIn K (.ref eSO) (.ref eSO) = some true)
    (s30 : PySem.W.subIn K (.ref eIS) (.ref eHR) = some false)
    (s31 : PySem.W.subIn K (.ref eIS) (.ref eNS) = some false)
    (s32 : PySem.W.subIn K (.ref eIS) (.ref eSO) = some false)
    (s33 : PySem.W.subIn K (.ref eIS) (.ref eIS) = some true)
    (s40 : PySem.W.subIn K (.ref eNR) (.ref eHR) = some false)
    (s41 : PySem.W.subIn K (.ref eNR) (.ref eNS) = some false)
    (s42 : PySem.W.subIn K (.ref eNR) (.ref eSO) = some false)
    (s43 : PySem.W.subIn K (.ref eNR) (.ref eIS) = some false)
    (s44 : PySem.W.subIn K (.ref eNR) (.ref eNR) = some true)
    (s50 : PySem.W.subIn K (.ref eNT) (.ref eHR) = some false)
    (s51 : PySem.W.subIn K (.ref eNT) (.ref eNS) = some false)
    (s52 : PySem.W.subIn K (.ref eNT) (.ref eSO) = some false)
    (s53 : PySem.W.subIn K (.ref eNT) (.ref eIS) = some false)
    (s54 : PySem.W.subIn K (.ref eNT) (.ref eNR) = some false)
    (s55 : PySem.W.subIn K (.ref eNT) (.ref eNT) = some true)
    (X6 : FndX K "Fails" eF)
    (X7 : FndX K "YardError" eY)
    (kgt : PySem.W.specialIn K (.builtin "object.__class__") "__get__" = some (some (.builtin "getset_descriptor.__get__")))
    (ktk : PySem.W.takesIn K (.builtin "object.__class__") = some true)
    (y0 : PySem.W.subIn K (.ref eSO) (.ref eY) = some true)
    (v0 : PySem.W.subIn K (.ref eSO) (.type "ValueError") = some true)
    (k0 : ExcK0 K eSO)
    (q00 : PySem.W.subIn K (.ref eSO) (.ref eSO) = some true)
    (q01 : PySem.W.subIn K (.ref eSO) (.ref eHR) = some false)
    (q02 : PySem.W.subIn K (.ref eSO) (.ref eIS) = some false)
    (q03 : PySem.W.subIn K (.ref eSO) (.ref eNS) = some false)
    (q04 : PySem.W.subIn K (.ref eSO) (.ref eNR) = some false)
    (q05 : PySem.W.subIn K (.ref eSO) (.ref eNT) = some false)
    (q06 : PySem.W.subIn K (.ref eSO) (.ref eF) = some false)
    (y1 : PySem.W.subIn K (.ref eHR) (.ref eY) = some true)
    (v1 : PySem.W.subIn K (.ref eHR) (.type "ValueError") = some true)
    (k1 : ExcK0 K eHR)
    (q10 : PySem.W.subIn K (.ref eHR) (.ref eSO) = some false)
    (q11 : PySem.W.subIn K (.ref eHR) (.ref eHR) = some true)
    (q12 : PySem.W.subIn K (.ref eHR) (.ref eIS) = some false)
    (q13 : PySem.W.subIn K (.ref eHR) (.ref eNS) = some false)
    (q14 : PySem.W.subIn K (.ref eHR) (.ref eNR) = some false)
    (q15 : PySem.W.subIn K (.ref eHR) (.ref eNT) = some false)
    (q16 : PySem.W.subIn K (.ref eHR) (.ref eF) = some false)
    (y2 : PySem.W.subIn K (.ref eIS) (.ref eY) = some true)
    (v2 : PySem.W.subIn K (.ref eIS) (.type "ValueError") = some true)
    (k2 : ExcK0 K eIS)
    (q20 : PySem.W.subIn K (.ref eIS) (.ref eSO) = some false)
    (q21 : PySem.W.subIn K (.ref eIS) (.ref eHR) = some false)
    (q22 : PySem.W.subIn K (.ref eIS) (.ref eIS) = some true)
    (q23 : PySem.W.subIn K (.ref eIS) (.ref eNS) = some false)
    (q24 : PySem.W.subIn K (.ref eIS) (.ref eNR) = some false)
    (q25 : PySem.W.subIn K (.ref eIS) (.ref eNT) = some false)
    (q26 : PySem.W.subIn K (.ref eIS) (.ref eF) = some false)
    (y3 : PySem.W.subIn K (.ref eNS) (.ref eY) = some true)
    (v3 : PySem.W.subIn K (.ref eNS) (.type "ValueError") = some true)
    (k3 : ExcK0 K eNS)
    (q30 : PySem.W.subIn K (.ref eNS) (.ref eSO) = some false)
    (q31 : PySem.W.subIn K (.ref eNS) (.ref eHR) = some false)
    (q32 : PySem.W.subIn K (.ref eNS) (.ref eIS) = some false)
    (q33 : PySem.W.subIn K (.ref eNS) (.ref eNS) = some true)
    (q34 : PySem.W.subIn K (.ref eNS) (.ref eNR) = some false)
    (q35 : PySem.W.subIn K (.ref eNS) (.ref eNT) = some false)
    (q36 : PySem.W.subIn K (.ref eNS) (.ref eF) = some false)
    (y4 : PySem.W.subIn K (.ref eNR) (.ref eY) = some true)
    (v4 : PySem.W.subIn K (.ref eNR) (.type "ValueError") = some true)
    (k4 : ExcK0 K eNR)
    (q40 : PySem.W.subIn K (.ref eNR) (.ref eSO) = some false)
    (q41 : PySem.W.subIn K (.ref eNR) (.ref eHR) = some false)
    (q42 : PySem.W.subIn K (.ref eNR) (.ref eIS) = some false)
    (q43 : PySem.W.subIn K (.ref eNR) (.ref eNS) = some false)
    (q44 : PySem.W.subIn K (.ref eNR) (.ref eNR) = some true)
    (q45 : PySem.W.subIn K (.ref eNR) (.ref eNT) = some false)
    (q46 : PySem.W.subIn K (.ref eNR) (.ref eF) = some false)
    (y5 : PySem.W.subIn K (.ref eNT) (.ref eY) = some true)
    (v5 : PySem.W.subIn K (.ref eNT) (.type "ValueError") = some true)
    (k5 : ExcK0 K eNT)
    (q50 : PySem.W.subIn K (.ref eNT) (.ref eSO) = some false)
    (q51 : PySem.W.subIn K (.ref eNT) (.ref eHR) = some false)
    (q52 : PySem.W.subIn K (.ref eNT) (.ref eIS) = some false)
    (q53 : PySem.W.subIn K (.ref eNT) (.ref eNS) = some false)
    (q54 : PySem.W.subIn K (.ref eNT) (.ref eNR) = some false)
    (q55 : PySem.W.subIn K (.ref eNT) (.ref eNT) = some true)
    (q56 : PySem.W.subIn K (.ref eNT) (.ref eF) = some false)
    (y6 : PySem.W.subIn K (.ref eF) (.ref eY) = some true)
    (v6 : PySem.W.subIn K (.ref eF) (.type "ValueError") = some true)
    (k6 : ExcK0 K eF)
    (q60 : PySem.W.subIn K (.ref eF) (.ref eSO) = some false)
    (q61 : PySem.W.subIn K (.ref eF) (.ref eHR) = some false)
    (q62 : PySem.W.subIn K (.ref eF) (.ref eIS) = some false)
    (q63 : PySem.W.subIn K (.ref eF) (.ref eNS) = some false)
    (q64 : PySem.W.subIn K (.ref eF) (.ref eNR) = some false)
    (q65 : PySem.W.subIn K (.ref eF) (.ref eNT) = some false)
    (q66 : PySem.W.subIn K (.ref eF) (.ref eF) = some true)
    (S0 : PySem.W.nsIn K mainGlobals "SORTS" = some (some (.ref aS)))
    (S1 : K.lookup aS = some ⟨.type "tuple", odS, .seq #[.str "sum" t1, .str "most" t2, .str "take" t3] nS, slS⟩) :
    ∃ fd : FuncData, (∀ (s : Shared) (v : Value), BindsTo s fd ⟨[v], []⟩ [("_law_script", v)]) ∧ ∀ base : Heap, K.In base → base.Ns mainGlobals mg → FnOk l.prog w K mg base CX0 41 fa fd ["_law_script"] (spLaw K) := by
  have B : Blt mg := ⟨PySem.W.mg_none_of X G b0, PySem.W.mg_none_of X G b1, PySem.W.mg_none_of X G b2, PySem.W.mg_none_of X G b3, PySem.W.mg_none_of X G b4, PySem.W.mg_none_of X G b5, PySem.W.mg_none_of X G b6, PySem.W.mg_none_of X G b7, PySem.W.mg_none_of X G b8, PySem.W.mg_none_of X G b9, PySem.W.mg_none_of X G b10, PySem.W.mg_none_of X G b11, PySem.W.mg_none_of X G b12, PySem.W.mg_none_of X G b13⟩
  obtain ⟨f0, d0, A0⟩ := F0.at X G
  obtain ⟨f1, d1, A1⟩ := F1.at X G
  obtain ⟨f2, d2, A2⟩ := F2.at X G
  obtain ⟨f3, d3, A3⟩ := F3.at X G
  obtain ⟨f4, d4, A4⟩ := F4.at X G
  obtain ⟨f5, d5, A5⟩ := F5.at X G
  obtain ⟨f6, d6, A6⟩ := F6.at X G
  obtain ⟨f7, d7, A7⟩ := F7.at X G
  obtain ⟨f8, d8, A8⟩ := F8.at X G
  obtain ⟨f9, d9, A9⟩ := F9.at X G
  obtain ⟨f10, d10, A10⟩ := F10.at X G
  obtain ⟨f11, d11, A11⟩ := F11.at X G
  obtain ⟨f12, d12, A12⟩ := F12.at X G
  obtain ⟨f13, d13, A13⟩ := F13.at X G
  obtain ⟨f14, d14, A14⟩ := F14.at X G
  obtain ⟨f15, d15, A15⟩ := F15.at X G
  obtain ⟨f16, d16, A16⟩ := F16.at X G
  obtain ⟨f17, d17, A17⟩ := F17.at X G
  obtain ⟨f18, d18, A18⟩ := F18.at X G
  obtain ⟨f19, d19, A19⟩ := F19.at X G
  obtain ⟨f20, d20, A20⟩ := F20.at X G
  obtain ⟨f21, d21, A21⟩ := F21.at X G
  obtain ⟨f22, d22, A22⟩ := F22.at X G
  obtain ⟨f23, d23, A23⟩ := F23.at X G
  obtain ⟨f24, d24, A24⟩ := F24.at X G
  obtain ⟨f25, d25, A25⟩ := F25.at X G
  obtain ⟨f26, d26, A26⟩ := F26.at X G
  obtain ⟨f27, d27, A27⟩ := F27.at X G
  obtain ⟨g0, h0, N0⟩ := M0.init C0 X G
  obtain ⟨g1, h1, N1⟩ := M1.at C0.cls
  obtain ⟨g2, h2, N2⟩ := M2.init C1 X G
  obtain ⟨g3, h3, N3⟩ := M3.at C1.cls
  obtain ⟨g4, h4, N4⟩ := M4.init C2 X G
  obtain ⟨g5, h5, N5⟩ := M5.at C2.cls
  obtain ⟨g6, h6, N6⟩ := M6.at C2.cls
  obtain ⟨g7, h7, N7⟩ := M7.at C2.cls
  obtain ⟨g8, h8, N8⟩ := M8.at C2.cls
  obtain ⟨g9, h9, N9⟩ := M9.at C2.cls
  obtain ⟨g10, h10, N10⟩ := M10.at C2.cls
  obtain ⟨g11, h11, N11⟩ := M11.at C2.cls
  obtain ⟨g12, h12, N12⟩ := M12.at C2.cls
  have Gk : PgK K mg ⟨cR, cL, cY, eHR, eNS, eSO, eIS, eNR, eNT⟩ := ⟨C0.cls, a0, a1, C1.cls, a2, a3, a4, C2.cls, a5, a6, a7, sorts_ X G S0 S1, PySem.W.mg_of X G X0.ns, PySem.W.mg_of X G X1.ns, PySem.W.mg_of X G X2.ns, PySem.W.mg_of X G X3.ns, PySem.W.mg_of X G X4.ns, PySem.W.mg_of X G X5.ns, X0.ex, X1.ex, X2.ex, X3.ex, X4.ex, X5.ex⟩
  have Gx : PgX K ⟨cR, cL, cY, eHR, eNS, eSO, eIS, eNR, eNT⟩ := ⟨X0.exm s00, X0.exm s10, X1.exm s11, X0.exm s20, X1.exm s21, X2.exm s22, X0.exm s30, X1.exm s31, X2.exm s32, X3.exm s33, X0.exm s40, X1.exm s41, X2.exm s42, X3.exm s43, X4.exm s44, X0.exm s50, X1.exm s51, X2.exm s52, X3.exm s53, X4.exm s54, X5.exm s55⟩
  have e := hfa.symm.trans A27.mg
  cases e
  obtain ⟨oc, od, kV, doc, pm, an, cdv, ct, osl, rfl, lk, hcd⟩ := A27.fn.ex
  refine ⟨PySem.W.fnOf "law" "law" (defArgs sLaw) (defBody sLaw) (defScope sLaw) .none kV doc pm an cdv ct, fun s v => .of_eq rfl, fun base _ _ => ?_⟩
  have P1 : OwnX l.prog w K mg base "check_sort" 1 ["sort"] (spCheck ⟨cR, cL, cY, eHR, eNS, eSO, eIS, eNR, eNT⟩) := own_check A1 Gk
  have P2 : Own l.prog w K mg base "taken" 1 ["numbers"] (spTaken K) := own_taken A2 B
  have P3 : OwnX l.prog w K mg base "worked" 2 ["sort", "numbers"] (spWorked K) := own_worked A3 B P1 P2
  have P4 : Own l.prog w K mg base "each_once" 1 ["things"] (spOnce K) := own_once A4 B
  have P5 : Own l.prog w K mg base "first_unknown" 1 ["things", "known"] (spFirst K) := own_first A5 B
  have P6 : MkC l.prog w K mg base cR "Recipe" 2 ["self", "sort", "makings"] (spRecInit ⟨cR, cL, cY, eHR, eNS, eSO, eIS, eNR, eNT⟩ K) := mk_recipe (c := ⟨cR, cL, cY, eHR, eNS, eSO, eIS, eNR, eNT⟩) N0 B Gk P4
  have P7 : MOwn l.prog w K mg base cR "made_of" 3 ["self", "known"] (spMade ⟨cR, cL, cY, eHR, eNS, eSO, eIS, eNR, eNT⟩) := m_made (c := ⟨cR, cL, cY, eHR, eNS, eSO, eIS, eNR, eNT⟩) N1 Gk P3
  have P8 : MkC l.prog w K mg base cL "Lot" 1 ["self", "number", "recipe", "numbers"] (spLotInit ⟨cR, cL, cY, eHR, eNS, eSO, eIS, eNR, eNT⟩) := mk_lot (c := ⟨cR, cL, cY, eHR, eNS, eSO, eIS, eNR, eNT⟩) N2 Gk
  have P9 : MOwn l.prog w K mg base cL "is_fit" 1 ["self", "recipe", "numbers"] (spFits ⟨cR, cL, cY, eHR, eNS, eSO, eIS, eNR, eNT⟩) := m_fit (c := ⟨cR, cL, cY, eHR, eNS, eSO, eIS, eNR, eNT⟩) N3 Gk
  have P10 : MkC l.prog w K mg base cY "Yard" 1 ["self"] (spYdInit ⟨cR, cL, cY, eHR, eNS, eSO, eIS, eNR, eNT⟩) := mk_yard (c := ⟨cR, cL, cY, eHR, eNS, eSO, eIS, eNR, eNT⟩) N4 Gk
  have P11 : MOwnX l.prog w K mg base cY "set_source" 1 ["self", "thing", "number"] (spSetS ⟨cR, cL, cY, eHR, eNS, eSO, eIS, eNR, eNT⟩) := m_setS (c := ⟨cR, cL, cY, eHR, eNS, eSO, eIS, eNR, eNT⟩) N5 Gk
  have P12 : MOwnX l.prog w K mg base cY "drop_source" 1 ["self", "thing"] (spDropS ⟨cR, cL, cY, eHR, eNS, eSO, eIS, eNR, eNT⟩) := m_dropS (c := ⟨cR, cL, cY, eHR, eNS, eSO, eIS, eNR, eNT⟩) N6 Gk
  have P13 : MOwnX l.prog w K mg base cY "set_recipe" 4 ["self", "thing", "sort", "makings"] (spSetR ⟨cR, cL, cY, eHR, eNS, eSO, eIS, eNR, eNT⟩) := m_setR (c := ⟨cR, cL, cY, eHR, eNS, eSO, eIS, eNR, eNT⟩) N7 Gk P1 P6
  have P14 : MOwnX l.prog w K mg base cY "drop_recipe" 1 ["self", "thing"] (spDropR ⟨cR, cL, cY, eHR, eNS, eSO, eIS, eNR, eNT⟩) := m_dropR (c := ⟨cR, cL, cY, eHR, eNS, eSO, eIS, eNR, eNT⟩) N8 Gk
  have P15 : MOwnX l.prog w K mg base cY "lose" 1 ["self", "thing"] (spLose ⟨cR, cL, cY, eHR, eNS, eSO, eIS, eNR, eNT⟩) := m_lose (c := ⟨cR, cL, cY, eHR, eNS, eSO, eIS, eNR, eNT⟩) N9 Gk
  have P16 : MOwn l.prog w K mg base cY "finish" 4 ["self", "thing", "known", "told"] (spFinish ⟨cR, cL, cY, eHR, eNS, eSO, eIS, eNR, eNT⟩) := m_finish (c := ⟨cR, cL, cY, eHR, eNS, eSO, eIS, eNR, eNT⟩) N11 Gk P9 P7 P8
  have P17 : MOwn l.prog w K mg base cY "ask" 5 ["self", "thing"] (spAsk ⟨cR, cL, cY, eHR, eNS, eSO, eIS, eNR, eNT⟩) := m_ask (c := ⟨cR, cL, cY, eHR, eNS, eSO, eIS, eNR, eNT⟩) N10 Gk B P5 P16
  have P18 : OwnX l.prog w K mg base "change" 5 ["yard", "deed"] (spChange ⟨cR, cL, cY, eHR, eNS, eSO, eIS, eNR, eNT⟩) := own_change A6 Gk P11 P12 P13 P14 P15
  have P19 : Own l.prog w K mg base "change_answer" 6 ["yard", "deed"] (spChgAns ⟨cR, cL, cY, eHR, eNS, eSO, eIS, eNR, eNT⟩) := own_chgAns A7 Gk Gx P18
  have P20 : Own l.prog w K mg base "answer_to" 7 ["yard", "deed"] (spAnsTo ⟨cR, cL, cY, eHR, eNS, eSO, eIS, eNR, eNT⟩) := own_ansTo A8 Gk P17 P19
  have P21 : Own l.prog w K mg base "answers" 8 ["deeds"] spAnswers := own_answers A9 Gk P10 P20
  have Dan : Own l.prog w K mg base "answers" 40 ["deeds"] spAnswers := OwnC.mono P21 (by decide)
  have Dw : Own l.prog w K mg base "_law_whole" 1 ["_law_found"] spWhole := own_whole A12 B
  have Dr : Own l.prog w K mg base "_law_whole_row" 2 ["_law_found"] spRow := own_row A20 B Dw
  have Dk : Own l.prog w K mg base "_law_work" 1 ["_law_sort", "_law_amounts"] (spWork K) := own_work A17 B
  have Dd : Own l.prog w K mg base "_law_draw" 1 ["_law_number", "_law_prime", "_law_many"] spDraw := own_draw A11
  have Do : Own l.prog w K mg base "_law_one_deed" 2 ["_law_way", "_law_rest"] spOneDeed := own_one A14 B Dd
  have Dn : Own l.prog w K mg base "_law_renamed" 1 ["_law_deed", "_law_often", "_law_shift"] spRenamed2 := own_renamed A15 B
  have Dyd : Own l.prog w K mg base "_law_yard_deeds" 3 ["_law_cells", "_law_first"] (spDeeds2 K) := own_deeds A16 B Do Dn
  have P22 : MOwnX l.prog w K mg base cY "make" 6 ["self", "thing"] (spMake ⟨cR, cL, cY, eHR, eNS, eSO, eIS, eNR, eNT⟩ eF) := m_make (c := ⟨cR, cL, cY, eHR, eNS, eSO, eIS, eNR, eNT⟩) N12 Gk (PySem.W.mg_of X G X6.ns) X6.ex P17
  have U : ∀ C ∈ [eSO, eHR, eIS, eNS, eNR, eNT, eF], PySem.W.exmOne K (.ref C) (.ref eY) = some true ∧ PySem.W.kitOne K (.ref C) (.type "ValueError") = some true ∧ ExcK K C := List.forall_mem_cons.mpr ⟨⟨X7.exm y0, kit_val v0, ⟨k0.ga, k0.gh, k0.cl, kgt, ktk, k0.mo, k0.mb, k0.cd⟩⟩, List.forall_mem_cons.mpr ⟨⟨X7.exm y1, kit_val v1, ⟨k1.ga, k1.gh, k1.cl, kgt, ktk, k1.mo, k1.mb, k1.cd⟩⟩, List.forall_mem_cons.mpr ⟨⟨X7.exm y2, kit_val v2, ⟨k2.ga, k2.gh, k2.cl, kgt, ktk, k2.mo, k2.mb, k2.cd⟩⟩, List.forall_mem_cons.mpr ⟨⟨X7.exm y3, kit_val v3, ⟨k3.ga, k3.gh, k3.cl, kgt, ktk, k3.mo, k3.mb, k3.cd⟩⟩, List.forall_mem_cons.mpr ⟨⟨X7.exm y4, kit_val v4, ⟨k4.ga, k4.gh, k4.cl, kgt, ktk, k4.mo, k4.mb, k4.cd⟩⟩, List.forall_mem_cons.mpr ⟨⟨X7.exm y5, kit_val v5, ⟨k5.ga, k5.gh, k5.cl, kgt, ktk, k5.mo, k5.mb, k5.cd⟩⟩, List.forall_mem_cons.mpr ⟨⟨X7.exm y6, kit_val v6, ⟨k6.ga, k6.gh, k6.cl, kgt, ktk, k6.mo, k6.mb, k6.cd⟩⟩, fun _ h => nomatch h⟩⟩⟩⟩⟩⟩⟩
  have T : ∀ (i j : Nat) (C D : Addr), [eSO, eHR, eIS, eNS, eNR, eNT, eF][i]? = some C → [eSO, eHR, eIS, eNS, eNR, eNT, eF][j]? = some D → PySem.W.kitOne K (.ref C) (.ref D) = some (decide (i = j)) := fun i j C D hi hj => seven (P := fun i C => ∀ (j : Nat) (D : Addr), [eSO, eHR, eIS, eNS, eNR, eNT, eF][j]? = some D → PySem.W.kitOne K (.ref C) (.ref D) = some (decide (i = j))) (seven (P := fun j D => PySem.W.kitOne K (.ref eSO) (.ref D) = some (decide (0 = j))) kit_self (kit_ne X0 q11 q01) (kit_ne X3 q22 q02) (kit_ne X1 q33 q03) (kit_ne X4 q44 q04) (kit_ne X5 q55 q05) (kit_ne X6 q66 q06)) (seven (P := fun j D => PySem.W.kitOne K (.ref eHR) (.ref D) = some (decide (1 = j))) (kit_ne X2 q00 q10) kit_self (kit_ne X3 q22 q12) (kit_ne X1 q33 q13) (kit_ne X4 q44 q14) (kit_ne X5 q55 q15) (kit_ne X6 q66 q16)) (seven (P := fun j D => PySem.W.kitOne K (.ref eIS) (.ref D) = some (decide (2 = j))) (kit_ne X2 q00 q20) (kit_ne X0 q11 q21) kit_self (kit_ne X1 q33 q23) (kit_ne X4 q44 q24) (kit_ne X5 q55 q25) (kit_ne X6 q66 q26)) (seven (P := fun j D => PySem.W.kitOne K (.ref eNS) (.ref D) = some (decide (3 = j))) (kit_ne X2 q00 q30) (kit_ne X0 q11 q31) (kit_ne X3 q22 q32) kit_self (kit_ne X4 q44 q34) (kit_ne X5 q55 q35) (kit_ne X6 q66 q36)) (seven (P := fun j D => PySem.W.kitOne K (.ref eNR) (.ref D) = some (decide (4 = j))) (kit_ne X2 q00 q40) (kit_ne X0 q11 q41) (kit_ne X3 q22 q42) (kit_ne X1 q33 q43) kit_self (kit_ne X5 q55 q45) (kit_ne X6 q66 q46)) (seven (P := fun j D => PySem.W.kitOne K (.ref eNT) (.ref D) = some (decide (5 = j))) (kit_ne X2 q00 q50) (kit_ne X0 q11 q51) (kit_ne X3 q22 q52) (kit_ne X1 q33 q53) (kit_ne X4 q44 q54) kit_self (kit_ne X6 q66 q56)) (seven (P := fun j D => PySem.W.kitOne K (.ref eF) (.ref D) = some (decide (6 = j))) (kit_ne X2 q00 q60) (kit_ne X0 q11 q61) (kit_ne X3 q22 q62) (kit_ne X1 q33 q63) (kit_ne X4 q44 q64) (kit_ne X5 q55 q65) kit_self) i C hi j D hj
  have Gy : PgY K mg ⟨cR, cL, cY, eHR, eNS, eSO, eIS, eNR, eNT⟩ eY eF := ⟨PySem.W.mg_of X G X7.ns, PySem.W.mg_of X G X6.ns, X6.ex, U, T⟩
  have Ddn : OwnX l.prog w K mg base "_law_done" 7 ["_law_yard", "_law_deed"] (spDone ⟨cR, cL, cY, eHR, eNS, eSO, eIS, eNR, eNT⟩ eF) := own_done (c := ⟨cR, cL, cY, eHR, eNS, eSO, eIS, eNR, eNT⟩) A22 B P22 P11 P12 P13 P14 P15
  have Dad : Own l.prog w K mg base "_law_answered" 8 ["_law_yard", "_law_deed"] (spAnsd ⟨cR, cL, cY, eHR, eNS, eSO, eIS, eNR, eNT⟩) := own_answered (c := ⟨cR, cL, cY, eHR, eNS, eSO, eIS, eNR, eNT⟩) A23 B Gk Gy Ddn
  exact ok_law (c := ⟨cR, cL, cY, eHR, eNS, eSO, eIS, eNR, eNT⟩) A27 B Gk (own_at A13 B) (own_upto A10 B) Dyd (own_copy A25 B) (own_changedB A18 B) (own_knowable A19 B Dk) (own_isAnswer A21 B Dw Dr) (own_told A24 B) Dw (own_toldIs A26 B) Dad P10 Dan
theorem walk {l : PySem.W.OpenLaw} {q : Program} {loose : List Str} {XP : (Str → Option Value) → Heap → Prop} {YP : World → Heap → Prop} {d : DefRec} {K : Params → PySem.W.Frag} (hn : l.most = some 63) (hdf : d.params.defaults = [])
    (hY : ∀ (w : World) (h : Heap), YP w h → (K w.params).In h)
    (F : ∀ (w : World) (mg : Str → Option Value) (fa : Addr) (h : Heap), (K w.params).In h → h.Ns mainGlobals mg → mg d.name = some (.ref fa) →
      ∃ fd : FuncData, (∀ (s : Shared) (u : Value), BindsTo s fd ⟨[u], []⟩ [("_law_script", u)]) ∧ ∀ base : Heap, (K w.params).In base → base.Ns mainGlobals mg → FnOk l.prog w (K w.params) mg base CX0 41 fa fd ["_law_script"] (spLaw (K w.params))) :
    PySem.W.WalkO q loose XP YP l.row.toRowW d [] (fun f vs => PySem.call f vs) :=
  L2.walk_ofK (n := 63) (k := 41) (x := "_law_script") (CX := CX0) (sp := spLaw) hn (by decide) hdf ⟨rfl, by decide, by decide, rfl⟩ hY F (fun K H a ns hl _ hS => ⟨a, ns, rfl, hS, hl, fun _ => rfl⟩) fun _ _ _ _ z => z
end Lw
namespace PySem.W.Fast
def tw3318188123355017404 := ()
def tw6022365508545599305 := ()
def tw3614239883909143230 := ()
def tw5505053292565335732 := ()
def tw11743784904125963207 := ()
def tw6783883284431638403 := ()
def tw17574634931398488807 := ()
def tw2839839325560132816 := ()
def tw7352381131867143052 := ()
def tw3842182777377703978 := ()
def tw12931160845054847784 := ()
def tw13074034133188186893 := ()
def tw18286431848683120999 := ()
def tw9090302110114039362 := ()
def tw3822435258118385135 := ()
def tw13812237563279894429 := ()
def tw9207470115351719826 := ()
def tw1789229573696223456 := ()
def tw8853388655517216219 := ()
def tw8948777862404671407 := ()
def tw11267842776411001917 := ()
def tw2414568336652148080 := ()
def tw7399715727037536101 := ()
def tw8979432301866565704 := ()
def tw15569921070591580724 := ()
def tw2969908614355550248 := ()
def tw15913287420243083841 := ()
def tw18152189311210181960 := ()
def tw5533032413760200022 := ()
def tw5191828455833953337 := ()
def tw5837444543697037674 := ()
def tw6415083981504108403 := ()
def tw3334830838074801930 := ()
def tw9990768638200222558 := ()
def tw1893479812899536546 := ()
def tw11545851395818217124 := ()
def tw10154818818339002335 := ()
def tw7145961787470391994 := ()
def tw18325652501536165712 := ()
def tw11956129784727287041 := ()
def tw1854529769229652960 := ()
def tw17084118730979953128 := ()
def tw13143292366768104226 := ()
def tw15741238524171673196 := ()
def tw460860333565928979 := ()
def tw13121182221534531480 := ()
def tw648420754712759897 := ()
def tw2741611303495789657 := ()
def tw6936148436300669383 := ()
def tw6497547573772738739 := ()
def tw15505548735503613112 := ()
def tw12149906966118799433 := ()
def tw11638697075370725205 := ()
def tw16827971515659892788 := ()
def tw15570021506427103545 := ()
def tw3709767788461307027 := ()
def tw17201782587594938833 := ()
def tw16592321371215507986 := ()
def tw8137931062504381361 := ()
def tw4557237102776872813 := ()
def tw16685493454404231148 := ()
def tw3572607453999727438 := ()
def tw9323088239957761497 := ()
def tw10968839760633263475 := ()
def tw11860303703269042455 := ()
def tw11604992990049546845 := ()
def tw18190837509098194697 := ()
def tw9523033224409137674 := ()
def tw5626396079106916247 := ()
def tw12100753533443507289 := ()
def tw3515746164318683868 := ()
def tw7456872110981149171 := ()
def tw9038310320427817190 := ()
def tw2338765464940134096 := ()
def tw14516467348605280869 := ()
def tw10312096040300223604 := ()
def tw9368856050768096565 := ()
def tw7034967134514999606 := ()
def tw2277761006587698864 := ()
def tw17567476911968469519 := ()
def tw5594963894175219526 := ()
def tw14565712161569331443 := ()
def tw9021659787231564942 := ()
def tw599173388812971312 := ()
def tw16806111206739850008 := ()
def tw813283615091701294 := ()
def tw12240162541210037721 := ()
def tw12677232940827422019 := ()
def tw14450077252748965299 := ()
def tw14598971672805886476 := ()
def tw6756855520741457669 := ()
def tw14429322626384082199 := ()
def tw10660096785407869403 := ()
def tw15014329571857313495 := ()
def tw2352337755961098493 := ()
def tw18238343784876665253 := ()
def tw15582083647135238565 := ()
def tw12238247867648417672 := ()
def tw5072673681955623385 := ()
def tw12680629086712297712 := ()
def tw16717867788884977796 := ()
def tw4629012950880585280 := ()
def tw1762932828504873984 := ()
def tw9843361227856613731 := ()
def tw15867377247619953157 := ()
def tw10040724986662986476 := ()
def tw8791087647766052939 := ()
def tw1455956391014456845 := ()
def tw13235075652709354369 := ()
def tw2909538288957577487 := ()
def tw423631881827011951 := ()
def tw6498714296745582908 := ()
def tw16838748638766529932 := ()
def tw9888008609679042474 := ()
def tw1472634613270715458 := ()
def tw6851276442643729608 := ()
def tw2483739162341511940 := ()
def tw12929148729578044961 := ()
def tw8623956561833234338 := ()
def tw13716550268632952973 := ()
def tw14343819262280653132 := ()
def tw2090301897705524611 := ()
def tw6037331054559743317 := ()
def tw13093594167787065006 := ()
def tw883267744972454416 := ()
def tw6306676579484025068 := ()
def tw16162883193055154610 := ()
def tw17517356532464014727 := ()
def tw1397091568493606557 := ()
def tw15052538365616558238 := ()
def tw6385160631528704573 := ()
def tw4654551182158637208 := ()
def tw8058026251066747775 := ()
def tw13415272737845769542 := ()
def tw6680095106165711286 := ()
def tw17850499340784536827 := ()
def tw8332453904835392475 := ()
def tw15068997294494397615 := ()
def tw12004609432965894333 := ()
def tw11346189180438053524 := ()
def tw13123588799599105358 := ()
def tw6027985837233147843 := ()
def tw17732738718963113144 := ()
def tw12368198078744296559 := ()
def tw10455629315902233511 := ()
def tw117067843984695072 := ()
def tw18351250722318080640 := ()
def tw4901706331767205054 := ()
def tw3442248353084402735 := ()
def tw5770059798204612704 := ()
def tw6369214848956876869 := ()
def tw5385319008479329718 := ()
def tw6563059417343399965 := ()
def tw2453769731717842462 := ()
def tw13382210284286892311 := ()
def tw16137659502977817685 := ()
def tw15051248606980311640 := ()
def tw1900647575627632609 := ()
def tw4045524698423899108 := ()
def tw13691669940954757660 := ()
def tw14820552686262201673 := ()
def tw2354102220342804529 := ()
def tw15728728161359588844 := ()
def tw17661950595994915538 := ()
def tw15744763306024746653 := ()
def tw4659961206661234978 := ()
def tw11677756435627148473 := ()
def tw5141567428050987955 := ()
def tw1778217684310577166 := ()
def tw10694383266330192766 := ()
def tw7004989657909115118 := ()
def tw5462162163058986149 := ()
def tw16069528592993678812 := ()
def tw12284078591663698032 := ()
def tw8452773189917912876 := ()
def tw17397952317937639816 := ()
def tw14945352396302700216 := ()
def tw12077166784474707371 := ()
def tw7866662649669301824 := ()
def tw14761590264788654129 := ()
def tw6699367824225499444 := ()
def tw17337083313134871534 := ()
def tw12212092518485256062 := ()
def tw6336182972494142045 := ()
def tw7811730479655901034 := ()
def tw4245100481891877306 := ()
def tw2977703628641310181 := ()
def tw4084689965423499068 := ()
def tw7515589131185838615 := ()
def tw6208733739549729631 := ()
def tw8291162202090552732 := ()
def tw5759895818041500493 := ()
def tw10528522117256850517 := ()
def tw2141655331569652946 := ()
def tw4697659967743290139 := ()
def tw16659800012934704806 := ()
def tw11538319419032219810 := ()
def tw16915175016532142490 := ()
def tw7424206864360717877 := ()
def tw18258722512168105240 := ()
def tw7680175539819477511 := ()
def tw12371240248796535138 := ()
def tw2929267694563097005 := ()
def tw12387326462030458440 := ()
def tw3638368473299168243 := ()
def tw4982188602789973571 := ()
def tw11878646964204230564 := ()
def tw16409133519441727813 := ()
def tw965714814595087514 := ()
def tw10554948722679057010 := ()
def tw1397287147801694335 := ()
def tw13277973553739281728 := ()
def tw9401492342782622693 := ()
def tw8470563535881229852 := ()
def tw10093109438000509586 := ()
def tw8826005898309432916 := ()
def tw4911158739245348130 := ()
def tw4538764608775575835 := ()
def tw3541802625778905735 := ()
def tw14615582836628685447 := ()
def tw6878697420691566634 := ()
def tw15845448758834923621 := ()
def tw16679256343728965375 := ()
def tw6783363090478017198 := ()
def tw5604351999142509946 := ()
def tw10688646163349387188 := ()
def tw1689231077721013349 := ()
def tw3601798320719368089 := ()
def tw3771835328866368325 := ()
def tw2758878310780083903 := ()
def tw5594739736971254565 := ()
def tw14755413033751238332 := ()
def tw9536567197278797603 := ()
def tw15784858444770220175 := ()
def tw7805893897543003227 := ()
def tw9236693083939270354 := ()
def tw17158553821323309719 := ()
def tw6822890610492254453 := ()
def tw3006272841595710713 := ()
def tw4884384767807613645 := ()
def tw213115477964007838 := ()
def tw4852478044402102410 := ()
def tw1344162498991432093 := ()
def tw16064380338276413409 := ()
def tw5587790189157709290 := ()
def tw7177864262461347687 := ()
def tw10058907999431292110 := ()
def tw17243180751285677863 := ()
def tw9041658108227670990 := ()
def tw8441077126648996042 := ()
def tw3558470111517908243 := ()
def tw9854861075541426265 := ()
def tw14796984435260121769 := ()
def tw13596651619937870542 := ()
def tw15908651117247178660 := ()
def tw1390223065627249796 := ()
def tw17421981880736010441 := ()
def tw15578649525556814375 := ()
def tw17684812055025356480 := ()
def tw8334274019439274837 := ()
def tw17218894437604434955 := ()
def tw6681705174009054913 := ()
def tw10891159155189575621 := ()
def tw12897840038488246745 := ()
def tw12925476629330101189 := ()
def tw12224200442679047950 := ()
def tw15159999593493473456 := ()
def tw5566824682478597209 := ()
def tw15495530464622881645 := ()
def tw3418527549853402952 := ()
def tw10441834409574960181 := ()
def tw1536433022815586347 := ()
def tw10835732335308132508 := ()
def tw4443948024962482302 := ()
def tw15667212057100603461 := ()
def tw16397216639059876682 := ()
def tw7126301213249699469 := ()
def tw14239475222351335596 := ()
def tw10146424708679570979 := ()
def tw7228621128573250870 := ()
def tw15591522233900632739 := ()
def tw4448034750599552661 := ()
def tw16430051630534171539 := ()
def tw14455372476716855 := ()
def tw15215507694253956573 := ()
def tw7729849170922658 := ()
def tw9469368689321144709 := ()
def tw1111351134112009308 := ()
def tw17638593845036543239 := ()
def tw17306859242072439237 := ()
def tw13812073008199392596 := ()
def tw4962154721506468661 := ()
def tw9203512687621100613 := ()
def tw1986017683012820950 := ()
def tw7318454818736920139 := ()
def tw15658597246739058384 := ()
def tw16530338557744228336 := ()
def tw3440236233642281444 := ()
def tw15245577319996149555 := ()
def tw11085252198361902065 := ()
def tw2173963239732484836 := ()
def tw9219347304493825834 := ()
def tw12101217202261680666 := ()
def tw15506787068514628937 := ()
def tw7929702356235885600 := ()
def tw13565906980428917924 := ()
def tw991884134663459793 := ()
def tw16766321922064733327 := ()
def tw11990142235639270155 := ()
def tw16235188545611085889 := ()
def tw14883480368367248854 := ()
def tw2953144482161950027 := ()
def tw3594156958867182834 := ()
def tw10826747435308968555 := ()
def tw4690968078153962836 := ()
def tw10505354750455964667 := ()
def tw16480594773119214994 := ()
def tw9648619306928767062 := ()
def tw16884161425146174853 := ()
def tw2024100922283544621 := ()
def tw694725641378174459 := ()
def tw2294494098333840217 := ()
def tw16323781946149829782 := ()
def tw15231850073122428864 := ()
def tw5009521192017664842 := ()
def tw4101082423463508763 := ()
def tw16317764497347873341 := ()
def tw5585480470461166886 := ()
def tw5188464782399049764 := ()
def tw3718788935609229904 := ()
def tw1121643906332345390 := ()
def tw15749829238556196229 := ()
def tw6331060779567885627 := ()
def tw15941164687578756987 := ()
def tw13444082370613726826 := ()
def tw13534360996322785605 := ()
def tw15598783232673396071 := ()
def tw6274593507482196370 := ()
def tw16213241438014169056 := ()
def tw11466234829099305725 := ()
def tw14562724180851426459 := ()
def tw15763096403519113490 := ()
def tw3366518161880367762 := ()
def tw14424110997804019579 := ()
def tw9200792827573000052 := ()
def tw17625267080684576758 := ()
def tw5113833500697113888 := ()
def tw9857028099427205353 := ()
def tw9417824665071845013 := ()
def tw18016366327289257788 := ()
def tw3263381417066020974 := ()
def tw7487128552021047179 := ()
def tw14523900547019874751 := ()
def tw10577782444878452028 := ()
def tw57956850736747940 := ()
def tw9841841069050819120 := ()
def tw4595099532168926272 := ()
def tw10434229914830104120 := ()
def tw2190374692869227685 := ()
def tw2802642823219222171 := ()
def tw621384256503437663 := ()
def tw15199899268354953515 := ()
def tw8135134212149628273 := ()
def tw5187257725556892932 := ()
def tw1740448969707472180 := ()
def tw4723766453407459635 := ()
def tw14107448569905892302 := ()
def tw2363566270425924400 := ()
def tw5462589915583669857 := ()
def tw14998549811966184584 := ()
def tw9707813819679616825 := ()
def tw13692944232373360410 := ()
def tw13797887201186636403 := ()
def tw9656273305102977010 := ()
def tw12539296894251787108 := ()
def tw15530883464590180075 := ()
def tw2934586752696776441 := ()
def tw18338526094144852469 := ()
def tw11973986110648433492 := ()
def tw13216870590112030476 := ()
def tw18115548869456162757 := ()
def tw16783333177071693300 := ()
def tw17262185526624028583 := ()
def tw5318491352018618703 := ()
def tw182371772553992703 := ()
def tw11145160143527140390 := ()
def tw3068754678220215377 := ()
def tw17153297092132895795 := ()
def tw8662750234327758881 := ()
def tw9488040814552686823 := ()
def tw10603885517185032365 := ()
def tw7319293231583499652 := ()
def tw8164343762097976644 := ()
def tw14809634119372945984 := ()
def tw6309736188022231618 := ()
def tw271899813074436584 := ()
def tw16681585364171935444 := ()
def tw9339438807844860767 := ()
def tw4629770923530144020 := ()
def tw2826218556838729265 := ()
def tw10211161038280205599 := ()
def tw5334053810137071299 := ()
def tw5258880416213155466 := ()
def tw228182277353946502 := ()
def tw2969551440538897701 := ()
def tw55054936577156432 := ()
def tw16330274640422661026 := ()
def tw13284975875247994606 := ()
def tw5686569733702659673 := ()
def tw10691803894314846717 := ()
def tw12129346037736141746 := ()
def tw3905410167576076771 := ()
def tw9479108669600820546 := ()
def tw4535120079168617070 := ()
def tw13070818536904674454 := ()
def tw579396076475342873 := ()
def tw14044690035187966736 := ()
def tw11519151931094133831 := ()
def tw1304408214591506580 := ()
def tw10852360049637252126 := ()
def tw7659785373568459744 := ()
def tw18170838854368121260 := ()
def tw4051133905217631804 := ()
def tw18244626597751661462 := ()
end PySem.W.Fast
open PySem PySem.W PyProof.Rows
set_option maxRecDepth 100000 in
set_option maxHeartbeats 0 in
theorem PySem.Challenge.cw_makeyard_k09_by_hand_holds : PySem.Challenge.rw_makeyard_k09_by_hand.Holds := by
  w_on; o_law; k_head; (case hw => w_witness2)
  k_fill
  refine Lw.walk (l := PySem.Challenge.rw_makeyard_k09_by_hand) rfl rfl (fun w h Y => PySem.W.kIn_of Y) ?F
  case F =>
    intro w mg fa h KX G hmg
    refine' Lw.all_mk KX G hmg ?zF0 ?zF1 ?zF2 ?zF3 ?zF4 ?zF5 ?zF6 ?zF7 ?zF8 ?zF9 ?zF10 ?zF11 ?zF12 ?zF13 ?zF14 ?zF15 ?zF16 ?zF17 ?zF18 ?zF19 ?zF20 ?zF21 ?zF22 ?zF23 ?zF24 ?zF25 ?zF26 ?zF27 ?zb0 ?zb1 ?zb2 ?zb3 ?zb4 ?zb5 ?zb6 ?zb7 ?zb8 ?zb9 ?zb10 ?zb11 ?zb12 ?zb13 ?zC0 ?zC1 ?zC2 ?zM0 ?zM1 ?zM2 ?zM3 ?zM4 ?zM5 ?zM6 ?zM7 ?zM8 ?zM9 ?zM10 ?zM11 ?zM12 ?za0 ?za1 ?za2 ?za3 ?za4 ?za5 ?za6 ?za7 ?zX0 ?zX1 ?zX2 ?zX3 ?zX4 ?zX5 ?zs00 ?zs10 ?zs11 ?zs20 ?zs21 ?zs22 ?zs30 ?zs31 ?zs32 ?zs33 ?zs40 ?zs41 ?zs42 ?zs43 ?zs44 ?zs50 ?zs51 ?zs52 ?zs53 ?zs54 ?zs55 ?zX6 ?zX7 ?zkgt ?zktk ?zy0 ?zv0 ?zk0 ?zq00 ?zq01 ?zq02 ?zq03 ?zq04 ?zq05 ?zq06 ?zy1 ?zv1 ?zk1 ?zq10 ?zq11 ?zq12 ?zq13 ?zq14 ?zq15 ?zq16 ?zy2 ?zv2 ?zk2 ?zq20 ?zq21 ?zq22 ?zq23 ?zq24 ?zq25 ?zq26 ?zy3 ?zv3 ?zk3 ?zq30 ?zq31 ?zq32 ?zq33 ?zq34 ?zq35 ?zq36 ?zy4 ?zv4 ?zk4 ?zq40 ?zq41 ?zq42 ?zq43 ?zq44 ?zq45 ?zq46 ?zy5 ?zv5 ?zk5 ?zq50 ?zq51 ?zq52 ?zq53 ?zq54 ?zq55 ?zq56 ?zy6 ?zv6 ?zk6 ?zq60 ?zq61 ?zq62 ?zq63 ?zq64 ?zq65 ?zq66 ?zS0 ?zS1
    (case zF0 => (refine' Lw.fnd_ ?zqe ?zql ?zqc ?zqk; (case zqe => k_is); (case zql => k_is); (case zqc => k_is); (case zqk => k_is)))
    (case zF1 => (refine' Lw.fnd_ ?zqe ?zql ?zqc ?zqk; (case zqe => k_is); (case zql => k_is); (case zqc => k_is); (case zqk => k_is)))
    (case zF2 => (refine' Lw.fnd_ ?zqe ?zql ?zqc ?zqk; (case zqe => k_is); (case zql => k_is); (case zqc => k_is); (case zqk => k_is)))
    (case zF3 => (refine' Lw.fnd_ ?zqe ?zql ?zqc ?zqk; (case zqe => k_is); (case zql => k_is); (case zqc => k_is); (case zqk => k_is)))
    (case zF4 => (refine' Lw.fnd_ ?zqe ?zql ?zqc ?zqk; (case zqe => k_is); (case zql => k_is); (case zqc => k_is); (case zqk => k_is)))
    (case zF5 => (refine' Lw.fnd_ ?zqe ?zql ?zqc ?zqk; (case zqe => k_is); (case zql => k_is); (case zqc => k_is); (case zqk => k_is)))
    (case zF6 => (refine' Lw.fnd_ ?zqe ?zql ?zqc ?zqk; (case zqe => k_is); (case zql => k_is); (case zqc => k_is); (case zqk => k_is)))
    (case zF7 => (refine' Lw.fnd_ ?zqe ?zql ?zqc ?zqk; (case zqe => k_is); (case zql => k_is); (case zqc => k_is); (case zqk => k_is)))
    (case zF8 => (refine' Lw.fnd_ ?zqe ?zql ?zqc ?zqk; (case zqe => k_is); (case zql => k_is); (case zqc => k_is); (case zqk => k_is)))
    (case zF9 => (refine' Lw.fnd_ ?zqe ?zql ?zqc ?zqk; (case zqe => k_is); (case zql => k_is); (case zqc => k_is); (case zqk => k_is)))
    (case zF10 => (refine' Lw.fnd_ ?zqe ?zql ?zqc ?zqk; (case zqe => k_is); (case zql => k_is); (case zqc => k_is); (case zqk => k_is)))
    (case zF11 => (refine' Lw.fnd_ ?zqe ?zql ?zqc ?zqk; (case zqe => k_is); (case zql => k_is); (case zqc => k_is); (case zqk => k_is)))
    (case zF12 => (refine' Lw.fnd_ ?zqe ?zql ?zqc ?zqk; (case zqe => k_is); (case zql => k_is); (case zqc => k_is); (case zqk => k_is)))
    (case zF13 => (refine' Lw.fnd_ ?zqe ?zql ?zqc ?zqk; (case zqe => k_is); (case zql => k_is); (case zqc => k_is); (case zqk => k_is)))
    (case zF14 => (refine' Lw.fnd_ ?zqe ?zql ?zqc ?zqk; (case zqe => k_is); (case zql => k_is); (case zqc => k_is); (case zqk => k_is)))
    (case zF15 => (refine' Lw.fnd_ ?zqe ?zql ?zqc ?zqk; (case zqe => k_is); (case zql => k_is); (case zqc => k_is); (case zqk => k_is)))
    (case zF16 => (refine' Lw.fnd_ ?zqe ?zql ?zqc ?zqk; (case zqe => k_is); (case zql => k_is); (case zqc => k_is); (case zqk => k_is)))
    (case zF17 => (refine' Lw.fnd_ ?zqe ?zql ?zqc ?zqk; (case zqe => k_is); (case zql => k_is); (case zqc => k_is); (case zqk => k_is)))
    (case zF18 => (refine' Lw.fnd_ ?zqe ?zql ?zqc ?zqk; (case zqe => k_is); (case zql => k_is); (case zqc => k_is); (case zqk => k_is)))
    (case zF19 => (refine' Lw.fnd_ ?zqe ?zql ?zqc ?zqk; (case zqe => k_is); (case zql => k_is); (case zqc => k_is); (case zqk => k_is)))
    (case zF20 => (refine' Lw.fnd_ ?zqe ?zql ?zqc ?zqk; (case zqe => k_is); (case zql => k_is); (case zqc => k_is); (case zqk => k_is)))
    (case zF21 => (refine' Lw.fnd_ ?zqe ?zql ?zqc ?zqk; (case zqe => k_is); (case zql => k_is); (case zqc => k_is); (case zqk => k_is)))
    (case zF22 => (refine' Lw.fnd_ ?zqe ?zql ?zqc ?zqk; (case zqe => k_is); (case zql => k_is); (case zqc => k_is); (case zqk => k_is)))
    (case zF23 => (refine' Lw.fnd_ ?zqe ?zql ?zqc ?zqk; (case zqe => k_is); (case zql => k_is); (case zqc => k_is); (case zqk => k_is)))
    (case zF24 => (refine' Lw.fnd_ ?zqe ?zql ?zqc ?zqk; (case zqe => k_is); (case zql => k_is); (case zqc => k_is); (case zqk => k_is)))
    (case zF25 => (refine' Lw.fnd_ ?zqe ?zql ?zqc ?zqk; (case zqe => k_is); (case zql => k_is); (case zqc => k_is); (case zqk => k_is)))
    (case zF26 => (refine' Lw.fnd_ ?zqe ?zql ?zqc ?zqk; (case zqe => k_is); (case zql => k_is); (case zqc => k_is); (case zqk => k_is)))
    (case zF27 => (refine' Lw.fnd_ ?zqe ?zql ?zqc ?zqk; (case zqe => k_is); (case zql => k_is); (case zqc => k_is); (case zqk => k_is)))
    (case zb0 => k_is)
    (case zb1 => k_is)
    (case zb2 => k_is)
    (case zb3 => k_is)
    (case zb4 => k_is)
    (case zb5 => k_is)
    (case zb6 => k_is)
    (case zb7 => k_is)
    (case zb8 => k_is)
    (case zb9 => k_is)
    (case zb10 => k_is)
    (case zb11 => k_is)
    (case zb12 => k_is)
    (case zb13 => k_is)
    (case zC0 => (refine' Lw.FndC.mk ?zq1 ?zq2 ?zq3 ?zq4 ?zq5 ?zq6 ?zq7; (case zq1 => k_is); (case zq2 => k_is); (case zq3 => k_is); (case zq4 => k_is); (case zq5 => k_is); (case zq6 => k_is); (case zq7 => k_is)))
    (case zC1 => (refine' Lw.FndC.mk ?zq1 ?zq2 ?zq3 ?zq4 ?zq5 ?zq6 ?zq7; (case zq1 => k_is); (case zq2 => k_is); (case zq3 => k_is); (case zq4 => k_is); (case zq5 => k_is); (case zq6 => k_is); (case zq7 => k_is)))
    (case zC2 => (refine' Lw.FndC.mk ?zq1 ?zq2 ?zq3 ?zq4 ?zq5 ?zq6 ?zq7; (case zq1 => k_is); (case zq2 => k_is); (case zq3 => k_is); (case zq4 => k_is); (case zq5 => k_is); (case zq6 => k_is); (case zq7 => k_is)))
    (case zM0 => (refine' Lw.fndM_ ?zqe ?zqi ?zql ?zqc ?zqk; (case zqe => k_is); (case zqi => k_is); (case zql => k_is); (case zqc => k_is); (case zqk => k_is)))
    (case zM1 => (refine' Lw.fndM_ ?zqe ?zqi ?zql ?zqc ?zqk; (case zqe => k_is); (case zqi => k_is); (case zql => k_is); (case zqc => k_is); (case zqk => k_is)))
    (case zM2 => (refine' Lw.fndM_ ?zqe ?zqi ?zql ?zqc ?zqk; (case zqe => k_is); (case zqi => k_is); (case zql => k_is); (case zqc => k_is); (case zqk => k_is)))
    (case zM3 => (refine' Lw.fndM_ ?zqe ?zqi ?zql ?zqc ?zqk; (case zqe => k_is); (case zqi => k_is); (case zql => k_is); (case zqc => k_is); (case zqk => k_is)))
    (case zM4 => (refine' Lw.fndM_ ?zqe ?zqi ?zql ?zqc ?zqk; (case zqe => k_is); (case zqi => k_is); (case zql => k_is); (case zqc => k_is); (case zqk => k_is)))
    (case zM5 => (refine' Lw.fndM_ ?zqe ?zqi ?zql ?zqc ?zqk; (case zqe => k_is); (case zqi => k_is); (case zql => k_is); (case zqc => k_is); (case zqk => k_is)))
    (case zM6 => (refine' Lw.fndM_ ?zqe ?zqi ?zql ?zqc ?zqk; (case zqe => k_is); (case zqi => k_is); (case zql => k_is); (case zqc => k_is); (case zqk => k_is)))
    (case zM7 => (refine' Lw.fndM_ ?zqe ?zqi ?zql ?zqc ?zqk; (case zqe => k_is); (case zqi => k_is); (case zql => k_is); (case zqc => k_is); (case zqk => k_is)))
    (case zM8 => (refine' Lw.fndM_ ?zqe ?zqi ?zql ?zqc ?zqk; (case zqe => k_is); (case zqi => k_is); (case zql => k_is); (case zqc => k_is); (case zqk => k_is)))
    (case zM9 => (refine' Lw.fndM_ ?zqe ?zqi ?zql ?zqc ?zqk; (case zqe => k_is); (case zqi => k_is); (case zql => k_is); (case zqc => k_is); (case zqk => k_is)))
    (case zM10 => (refine' Lw.fndM_ ?zqe ?zqi ?zql ?zqc ?zqk; (case zqe => k_is); (case zqi => k_is); (case zql => k_is); (case zqc => k_is); (case zqk => k_is)))
    (case zM11 => (refine' Lw.fndM_ ?zqe ?zqi ?zql ?zqc ?zqk; (case zqe => k_is); (case zqi => k_is); (case zql => k_is); (case zqc => k_is); (case zqk => k_is)))
    (case zM12 => (refine' Lw.fndM_ ?zqe ?zqi ?zql ?zqc ?zqk; (case zqe => k_is); (case zqi => k_is); (case zql => k_is); (case zqc => k_is); (case zqk => k_is)))
    (case za0 => k_is)
    (case za1 => k_is)
    (case za2 => k_is)
    (case za3 => k_is)
    (case za4 => k_is)
    (case za5 => k_is)
    (case za6 => k_is)
    (case za7 => k_is)
    (case zX0 => (refine' Lw.fndX_ ?zqn ?zqx ?zqs ?zqt ?zqc; (case zqn => k_is); (case zqx => (show PySem.W.excIn _ _ _ _ = true; k_exc)); (case zqs => k_is); (case zqt => k_is); (case zqc => k_is)))
    (case zX1 => (refine' Lw.fndX_ ?zqn ?zqx ?zqs ?zqt ?zqc; (case zqn => k_is); (case zqx => (show PySem.W.excIn _ _ _ _ = true; k_exc)); (case zqs => k_is); (case zqt => k_is); (case zqc => k_is)))
    (case zX2 => (refine' Lw.fndX_ ?zqn ?zqx ?zqs ?zqt ?zqc; (case zqn => k_is); (case zqx => (show PySem.W.excIn _ _ _ _ = true; k_exc)); (case zqs => k_is); (case zqt => k_is); (case zqc => k_is)))
    (case zX3 => (refine' Lw.fndX_ ?zqn ?zqx ?zqs ?zqt ?zqc; (case zqn => k_is); (case zqx => (show PySem.W.excIn _ _ _ _ = true; k_exc)); (case zqs => k_is); (case zqt => k_is); (case zqc => k_is)))
    (case zX4 => (refine' Lw.fndX_ ?zqn ?zqx ?zqs ?zqt ?zqc; (case zqn => k_is); (case zqx => (show PySem.W.excIn _ _ _ _ = true; k_exc)); (case zqs => k_is); (case zqt => k_is); (case zqc => k_is)))
    (case zX5 => (refine' Lw.fndX_ ?zqn ?zqx ?zqs ?zqt ?zqc; (case zqn => k_is); (case zqx => (show PySem.W.excIn _ _ _ _ = true; k_exc)); (case zqs => k_is); (case zqt => k_is); (case zqc => k_is)))
    (case zs00 => k_is)
    (case zs10 => k_is)
    (case zs11 => k_is)
    (case zs20 => k_is)
    (case zs21 => k_is)
    (case zs22 => k_is)
    (case zs30 => k_is)
    (case zs31 => k_is)
    (case zs32 => k_is)
    (case zs33 => k_is)
    (case zs40 => k_is)
    (case zs41 => k_is)
    (case zs42 => k_is)
    (case zs43 => k_is)
    (case zs44 => k_is)
    (case zs50 => k_is)
    (case zs51 => k_is)
    (case zs52 => k_is)
    (case zs53 => k_is)
    (case zs54 => k_is)
    (case zs55 => k_is)
    (case zX6 => (refine' Lw.fndX_ ?zqn ?zqx ?zqs ?zqt ?zqc; (case zqn => k_is); (case zqx => (show PySem.W.excIn _ _ _ _ = true; k_exc)); (case zqs => k_is); (case zqt => k_is); (case zqc => k_is)))
    (case zX7 => (refine' Lw.fndX_ ?zqn ?zqx ?zqs ?zqt ?zqc; (case zqn => k_is); (case zqx => (show PySem.W.excIn _ _ _ _ = true; k_exc)); (case zqs => k_is); (case zqt => k_is); (case zqc => k_is)))
    (case zkgt => k_is)
    (case zktk => k_is)
    (case zy0 => k_is)
    (case zv0 => k_is)
    (case zk0 => (refine' Lw.excK0_ ?zqa ?zqh ?zqc ?zqm ?zqb ?zql; (case zqa => k_is); (case zqh => k_is); (case zqc => k_is); (case zqm => k_is); (case zqb => k_is); (case zql => k_is)))
    (case zq00 => k_is)
    (case zq01 => k_is)
    (case zq02 => k_is)
    (case zq03 => k_is)
    (case zq04 => k_is)
    (case zq05 => k_is)
    (case zq06 => k_is)
    (case zy1 => k_is)
    (case zv1 => k_is)
    (case zk1 => (refine' Lw.excK0_ ?zqa ?zqh ?zqc ?zqm ?zqb ?zql; (case zqa => k_is); (case zqh => k_is); (case zqc => k_is); (case zqm => k_is); (case zqb => k_is); (case zql => k_is)))
    (case zq10 => k_is)
    (case zq11 => k_is)
    (case zq12 => k_is)
    (case zq13 => k_is)
    (case zq14 => k_is)
    (case zq15 => k_is)
    (case zq16 => k_is)
    (case zy2 => k_is)
    (case zv2 => k_is)
    (case zk2 => (refine' Lw.excK0_ ?zqa ?zqh ?zqc ?zqm ?zqb ?zql; (case zqa => k_is); (case zqh => k_is); (case zqc => k_is); (case zqm => k_is); (case zqb => k_is); (case zql => k_is)))
    (case zq20 => k_is)
    (case zq21 => k_is)
    (case zq22 => k_is)
    (case zq23 => k_is)
    (case zq24 => k_is)
    (case zq25 => k_is)
    (case zq26 => k_is)
    (case zy3 => k_is)
    (case zv3 => k_is)
    (case zk3 => (refine' Lw.excK0_ ?zqa ?zqh ?zqc ?zqm ?zqb ?zql; (case zqa => k_is); (case zqh => k_is); (case zqc => k_is); (case zqm => k_is); (case zqb => k_is); (case zql => k_is)))
    (case zq30 => k_is)
    (case zq31 => k_is)
    (case zq32 => k_is)
    (case zq33 => k_is)
    (case zq34 => k_is)
    (case zq35 => k_is)
    (case zq36 => k_is)
    (case zy4 => k_is)
    (case zv4 => k_is)
    (case zk4 => (refine' Lw.excK0_ ?zqa ?zqh ?zqc ?zqm ?zqb ?zql; (case zqa => k_is); (case zqh => k_is); (case zqc => k_is); (case zqm => k_is); (case zqb => k_is); (case zql => k_is)))
    (case zq40 => k_is)
    (case zq41 => k_is)
    (case zq42 => k_is)
    (case zq43 => k_is)
    (case zq44 => k_is)
    (case zq45 => k_is)
    (case zq46 => k_is)
    (case zy5 => k_is)
    (case zv5 => k_is)
    (case zk5 => (refine' Lw.excK0_ ?zqa ?zqh ?zqc ?zqm ?zqb ?zql; (case zqa => k_is); (case zqh => k_is); (case zqc => k_is); (case zqm => k_is); (case zqb => k_is); (case zql => k_is)))
    (case zq50 => k_is)
    (case zq51 => k_is)
    (case zq52 => k_is)
    (case zq53 => k_is)
    (case zq54 => k_is)
    (case zq55 => k_is)
    (case zq56 => k_is)
    (case zy6 => k_is)
    (case zv6 => k_is)
    (case zk6 => (refine' Lw.excK0_ ?zqa ?zqh ?zqc ?zqm ?zqb ?zql; (case zqa => k_is); (case zqh => k_is); (case zqc => k_is); (case zqm => k_is); (case zqb => k_is); (case zql => k_is)))
    (case zq60 => k_is)
    (case zq61 => k_is)
    (case zq62 => k_is)
    (case zq63 => k_is)
    (case zq64 => k_is)
    (case zq65 => k_is)
    (case zq66 => k_is)
    (case zS0 => k_is)
    (case zS1 => k_is)
