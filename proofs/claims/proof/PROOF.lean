import PyProof.Rows.All
import Wide.All
import OpenK.AllK
import Wide.FinOn
import PyProof.EqAt
import PyProof.EqKinds
import PyProof.TupleCall
import KE.BitLaws
import Open.SpecLaws
import KE.OsHead
import KE.OsGo
import KE.KMinKey
import PyProof.DictRoadsH
import PySi44
import PySem.Challenge.RW_stepjobs_s01_answers
set_option Elab.async false
set_option linter.all false
set_option maxRecDepth 100000
namespace L2
open PySem PySem.Spec PyProof.Rows
abbrev Key := Sum Int Str
def keyIs : Key → Value → Bool
  | .inl k, v => Value.isInt k v
  | .inr x, v => Value.isStrOf x v
def keyH (w : World) : Key → Int
  | .inl k => hashInt k
  | .inr x => hashStr w x
theorem keyIs_shape : ∀ {k : Key} {v : Value}, keyIs k v = true → (∃ i t, k = Sum.inl i ∧ v = Value.int i t) ∨ (∃ x t, k = Sum.inr x ∧ v = Value.str x t)
  | .inl i, v, h => by
    obtain ⟨t, e⟩ := Value.isInt_shape (k := i) (v := v) h
    exact .inl ⟨i, t, rfl, e⟩
  | .inr x, v, h => by
    obtain ⟨t, e⟩ := Value.isStrOf_shape (x := x) (v := v) h
    exact .inr ⟨x, t, rfl, e⟩
theorem keyIs_int (i : Int) (t : Tok) : keyIs (.inl i) (.int i t) = true := by simp [keyIs, Value.isInt]
theorem keyIs_str (x : Str) (t : Tok) : keyIs (.inr x) (.str x t) = true := by simp [keyIs, Value.isStrOf]
theorem key_ll (a b : Int) : decide ((Sum.inl a : Key) = Sum.inl b) = (a == b) := by
  by_cases e : a = b
  · subst e; simp
  · have h : ¬ (Sum.inl a : Key) = Sum.inl b := fun q => e (Sum.inl.inj q)
    rw [decide_eq_false h]
    exact (beq_eq_false_iff_ne.mpr e).symm
theorem key_rr (a b : Str) : decide ((Sum.inr a : Key) = Sum.inr b) = decide (a = b) := by
  by_cases e : a = b
  · subst e; simp
  · have h : ¬ (Sum.inr a : Key) = Sum.inr b := fun q => e (Sum.inr.inj q)
    rw [decide_eq_false h, decide_eq_false e]
theorem key_lr (a : Int) (b : Str) : decide ((Sum.inl a : Key) = Sum.inr b) = false := decide_eq_false (fun q => nomatch q)
theorem key_rl (a : Str) (b : Int) : decide ((Sum.inr a : Key) = Sum.inl b) = false := decide_eq_false (fun q => nomatch q)
def mixKind (prog : Program) (w : World) : PySem.KeyKind prog w Key where
  is := keyIs
  hash := keyH w
  inj := fun v a b ha hb => by
    rcases keyIs_shape ha with ⟨i, t, rfl, rfl⟩ | ⟨x, t, rfl, rfl⟩
    · rcases keyIs_shape hb with ⟨j, u, rfl, e⟩ | ⟨y, u, rfl, e⟩
      · injection e with e1 _; rw [e1]
      · exact nomatch e
    · rcases keyIs_shape hb with ⟨j, u, rfl, e⟩ | ⟨y, u, rfl, e⟩
      · exact nomatch e
      · injection e with e1 _; rw [e1]
  byValue := fun k v h => by
    rcases keyIs_shape h with ⟨i, t, rfl, rfl⟩ | ⟨x, t, rfl, rfl⟩ <;> rfl
  pyHash := fun hv h => by
    rcases keyIs_shape hv with ⟨i, t, rfl, rfl⟩ | ⟨x, t, rfl, rfl⟩
    · exact wpAny_pyHash_int h
    · exact wpAny_pyHash_str h
  eqBool := fun hu hv h => by
    rcases keyIs_shape hu with ⟨i, t, rfl, rfl⟩ | ⟨x, t, rfl, rfl⟩
    · rcases keyIs_shape hv with ⟨j, u, rfl, rfl⟩ | ⟨y, u, rfl, rfl⟩
      · rw [key_ll] at h; exact wpAny_eqBool_int h
      · rw [key_lr] at h; exact SeqAt.EqAt.int_str i t y u _ _ _ _ h
    · rcases keyIs_shape hv with ⟨j, u, rfl, rfl⟩ | ⟨y, u, rfl, rfl⟩
      · rw [key_rl] at h; exact SeqAt.EqAt.str_int x t j u _ _ _ _ h
      · rw [key_rr] at h; exact wpAny_eqBool_str h
  «strs» := fun k x t v h => by
    rcases keyIs_shape h with ⟨i, u, rfl, e⟩ | ⟨y, u, rfl, e⟩
    · exact nomatch e
    · injection e with e1 _
      subst e1
      cases v <;> rfl
theorem mixKind_int (prog : Program) (w : World) (i : Int) (t : Tok) : (mixKind prog w).is (.inl i) (.int i t) = true := keyIs_int i t
theorem mixKind_str (prog : Program) (w : World) (x : Str) (t : Tok) : (mixKind prog w).is (.inr x) (.str x t) = true := keyIs_str x t
end L2
namespace L2
open PySem PySem.Spec PyProof.Rows
inductive V where
  | non | bl (b : Bool) | int (i : Int) | str (x : Str) | byt (b : Array UInt8) | flt (b : UInt64) | ref (a : Addr) | ty (n : String)
  deriving DecidableEq
def RelV : V → Value → Prop
  | .non, u => u = Value.none
  | .bl b, u => u = Value.bool b
  | .int i, u => ∃ t, u = Value.int i t
  | .str x, u => ∃ t, u = Value.str x t
  | .byt b, u => ∃ t, u = Value.bytes b t
  | .flt b, u => ∃ t, u = Value.float b t
  | .ref a, u => u = Value.ref a
  | .ty n, u => u = Value.type n
abbrev Vals : List V → List Value → Prop := Paired RelV
theorem Vals.length {xs : List V} {us : List Value} (r : Vals xs us) : xs.length = us.length := Paired.length r
theorem Vals.get : ∀ {xs : List V} {us : List Value} {i : Nat} {x : V}, Vals xs us → xs[i]? = some x → ∃ u, us[i]? = some u ∧ RelV x u
  | _, _, _, _, .nil, e => by simp at e
  | _, _, 0, _, .cons r _, e => by simp at e; subst e; exact ⟨_, rfl, r⟩
  | _, _, i + 1, x, .cons _ t, e => by
    obtain ⟨u, h1, h2⟩ := Vals.get (i := i) (x := x) t (by simpa using e)
    exact ⟨u, by simpa using h1, h2⟩
theorem Vals.set {x : V} {u : Value} (r : RelV x u) : ∀ {xs : List V} {us : List Value} (i : Nat), Vals xs us → Vals (xs.set i x) (us.set i u)
  | _, _, _, .nil => .nil
  | _, _, 0, .cons _ t => .cons r t
  | _, _, i + 1, .cons q t => .cons q (Vals.set r i t)
theorem Vals.append : ∀ {xs ys : List V} {us ws : List Value}, Vals xs us → Vals ys ws → Vals (xs ++ ys) (us ++ ws)
  | _, _, _, _, .nil, s => s
  | _, _, _, _, .cons r t, s => .cons r (Vals.append t s)
theorem Vals.take : ∀ {xs : List V} {us : List Value} (n : Nat), Vals xs us → Vals (xs.take n) (us.take n)
  | _, _, 0, _ => .nil
  | _, _, _ + 1, .nil => .nil
  | _, _, n + 1, .cons r t => .cons r (Vals.take n t)
theorem Vals.drop : ∀ {xs : List V} {us : List Value} (n : Nat), Vals xs us → Vals (xs.drop n) (us.drop n)
  | _, _, 0, r => r
  | _, _, _ + 1, .nil => .nil
  | _, _, n + 1, .cons _ t => Vals.drop n t
theorem Vals.none_of : ∀ {xs : List V} {us : List Value} {i : Nat}, Vals xs us → xs[i]? = none → us[i]? = none := fun {xs us i} r e => by
  have h1 := r.length
  have h2 : xs.length ≤ i := List.getElem?_eq_none_iff.mp e
  exact List.getElem?_eq_none_iff.mpr (by omega)
def RelO : Option V → Option Value → Prop
  | some v, some u => RelV v u
  | none, none => True
  | _, _ => False
def KV {κ : Type} : List (κ × V) → List (κ × Value) → Prop := Paired fun (p : κ × V) (q : κ × Value) => p.1 = q.1 ∧ RelV p.2 q.2
def kV : Key → V
  | .inl i => .int i
  | .inr x => .str x
inductive HO where
  | lst (xs : List V)
  | tup (xs : List V)
  | dK (kvs : List (Key × V)) | dT (kvs : List (List Key × V))
  | set (S : Int → Bool) (n : Nat)
  | ins (C dx : Addr) (fs : List (Str × V))
  | own (x : Addr)
  | xd (fs : List (Str × V))
  | met (f x : Addr)
  | rng (lo hi : Int)
  | frz (o : Obj) (u : HO)
  | tbl (ps : Array Value)
  | ext (φ : Heap → Prop)
abbrev Hp := Addr → Option HO
def upd (H : Hp) (a : Addr) (o : HO) : Hp := fun b => if b = a then some o else H b
theorem upd_same {H : Hp} {a : Addr} {o : HO} : upd H a o a = some o := by unfold upd; rw [if_pos rfl]
theorem upd_ne {H : Hp} {a b : Addr} {o : HO} (h : b ≠ a) : upd H a o b = H b := by unfold upd; rw [if_neg h]
theorem upd_upd {H : Hp} {a : Addr} {o u : HO} : upd (upd H a o) a u = upd H a u := by
  funext b; unfold upd; split <;> rfl
theorem ne_of {H : Hp} {a b : Addr} {o u : HO} (h : H a = some o) (h' : H b = some u) (d : o ≠ u) : a ≠ b := by
  intro e; subst e; rw [h] at h'; exact d (Option.some.inj h')
theorem ne_of_none {H : Hp} {a b : Addr} {o : HO} (h : H a = some o) (h' : H b = none) : a ≠ b := by
  intro e; subst e; rw [h] at h'; cases h'
section
variable (P : Program) (w : World)
def ObjOk (H : Hp) (h : Heap) (a : Addr) : HO → Prop
  | .lst xs => xs.length ≤ sizeLine ∧ ∃ (its : List Value) (n : Nat), Vals xs its ∧ h.get? a = some { cls := .type "list", data := .seq its.toArray n }
  | .tup xs => xs.length ≤ sizeLine ∧ ∃ its : List Value, Vals xs its ∧ IsTup h a its.toArray
  | .dK kvs => kvs.length ≤ sizeLine ∧ (a == sysModules) = false ∧ ∃ vs, KV kvs vs ∧ h.DictOf (mixKind P w) a vs
  | .dT kvs => kvs.length ≤ sizeLine ∧ (a == sysModules) = false ∧ ∃ xs : List (List Key × Addr × Value),
      Paired (fun (p : List Key × V) (q : List Key × Addr × Value) => p.1 = q.1 ∧ H q.2.1 = some (.tup (p.1.map kV)) ∧ RelV p.2 q.2.2) kvs xs ∧
      ∃ o es ep, h.get? a = some o ∧ o.ExactDict ∧ o.data = .dict es ep ∧ es.toList = xs.map (entryOfKey (tupleKind (mixKind P w))) ∧ (xs.map (·.1)).Nodup
  | .set S n => h.SetOf (intKind P w) a S n
  | .ins C dx fs => H dx = some (.own a) ∧ fs.length ≤ 1000 ∧ dx ≠ a ∧ h.get? a = some (PySem.W.instObj C dx) ∧
      ∃ mA, h.Ns1 dx mA ∧ (∀ f, RelO (fs.lookup f) (mA f)) ∧ PySem.Within mA (fs.map (·.1))
  | .own _ => ∃ o, h.get? a = some o
  | .xd fs => ∃ mA, h.Ns1 a mA ∧ ∀ f, RelO (fs.lookup f) (mA f)
  | .rng lo hi => ∃ t u v, h.get? a = some { cls := .type "range", data := .fields #[.int lo t, .int hi u, .int 1 v] }
  | .frz o u => h.get? a = some o ∧ ObjOk H h a u
  | .tbl ps => h.get? a = some { cls := .none, data := .fields ps }
  | .met f x => h.get? a = some (PySem.W.methodObj (.ref f) (.ref x))
  | .ext φ => φ h ∧ (∃ o, h.get? a = some o) ∧ ∀ h1 h2 : Heap, φ h1 → (∀ o, h1.get? a = some o → h2.get? a = some o) → φ h2
def HOk (H : Hp) (h : Heap) : Prop := ∀ a o, H a = some o → ObjOk P w H h a o
end
section
variable {P : Program} {w : World} {H H' : Hp} {h h' : Heap} {a : Addr} {o : HO}
theorem ObjOk.lt (x : ObjOk P w H h a o) : a < h.objs.size := by
  cases o with
  | lst xs => obtain ⟨_, _, _, _, e⟩ := x; exact Heap.lt_size e
  | tup xs => obtain ⟨_, _, _, p⟩ := x; exact p.lt
  | dK kvs => obtain ⟨_, _, _, _, o, _, _, e, _⟩ := x; exact Heap.lt_size e
  | dT kvs => obtain ⟨_, _, _, _, o, _, _, e, _⟩ := x; exact Heap.lt_size e
  | set S n => obtain ⟨o, _, _, _, e, _⟩ := x; exact Heap.lt_size e
  | ins C dx fs => obtain ⟨_, _, _, e, _⟩ := x; exact Heap.lt_size e
  | own y => obtain ⟨_, e⟩ := x; exact Heap.lt_size e
  | xd fs => obtain ⟨_, ⟨_, _, _, e, _⟩, _⟩ := x; exact Heap.lt_size e
  | rng lo hi => obtain ⟨_, _, _, e⟩ := x; exact Heap.lt_size e
  | frz ob u => obtain ⟨e, _⟩ := x; exact Heap.lt_size e
  | tbl ps => exact Heap.lt_size (show h.get? a = some _ from x)
  | met f y => exact Heap.lt_size (show h.get? a = some _ from x)
  | ext φ => obtain ⟨_, ⟨_, e⟩, _⟩ := x; exact Heap.lt_size e
theorem Paired.mapP {α β : Type} {F G : α → β → Prop} : ∀ {l₁ : List α} {l₂ : List β}, Paired F l₁ l₂ → (∀ a b, F a b → G a b) → Paired G l₁ l₂
  | _, _, .nil, _ => .nil
  | _, _, .cons r t, f => .cons (f _ _ r) (Paired.mapP t f)
theorem ObjOk.stay (x : ObjOk P w H h a o) (k : ∀ b u, (b = a ∨ H b = some (.own a)) → h.get? b = some u → h'.get? b = some u)
    (ho : ∀ b, H b = some (.own a) → H' b = some (.own a)) (ht : ∀ b xs, H b = some (.tup xs) → H' b = some (.tup xs)) : ObjOk P w H' h' a o := by
  induction o with
  | lst xs => obtain ⟨z, its, n, r, e⟩ := x; exact ⟨z, its, n, r, k _ _ (.inl rfl) e⟩
  | tup xs => obtain ⟨z, its, r, ob, e, c⟩ := x; exact ⟨z, its, r, ob, k _ _ (.inl rfl) e, c⟩
  | dK kvs => obtain ⟨z, y, vs, r, ob, es, ep, e, c⟩ := x; exact ⟨z, y, vs, r, ob, es, ep, k _ _ (.inl rfl) e, c⟩
  | dT kvs =>
    obtain ⟨z, y, xs, r, ob, es, ep, e, c⟩ := x
    exact ⟨z, y, xs, Paired.mapP r fun p q z => ⟨z.1, ht _ _ z.2.1, z.2.2⟩, ob, es, ep, k _ _ (.inl rfl) e, c⟩
  | set S n => obtain ⟨ob, es, ep, t, e, c⟩ := x; exact ⟨ob, es, ep, t, k _ _ (.inl rfl) e, c⟩
  | ins C dx fs =>
    obtain ⟨d, z, ne, e, mA, ⟨od, es, ep, e2, c⟩, r⟩ := x
    exact ⟨ho _ d, z, ne, k _ _ (.inl rfl) e, mA, ⟨od, es, ep, k _ _ (.inr d) e2, c⟩, r⟩
  | own y => obtain ⟨ob, e⟩ := x; exact ⟨ob, k _ _ (.inl rfl) e⟩
  | xd fs => obtain ⟨mA, ⟨od, es, ep, e, c⟩, r⟩ := x; exact ⟨mA, ⟨od, es, ep, k _ _ (.inl rfl) e, c⟩, r⟩
  | rng lo hi => obtain ⟨t, u, v, e⟩ := x; exact ⟨t, u, v, k _ _ (.inl rfl) e⟩
  | frz ob u ih => obtain ⟨e, q⟩ := x; exact ⟨k _ _ (.inl rfl) e, ih q⟩
  | tbl ps =>
    have e : h.get? a = some { cls := .none, data := .fields ps } := x
    show h'.get? a = some { cls := .none, data := .fields ps }
    exact k a _ (.inl rfl) e
  | met f y =>
    have e : h.get? a = some (PySem.W.methodObj (.ref f) (.ref y)) := x
    show h'.get? a = some (PySem.W.methodObj (.ref f) (.ref y))
    exact k a _ (.inl rfl) e
  | ext φ => obtain ⟨p, ⟨o, e⟩, st⟩ := x; exact ⟨st _ _ p fun o q => k _ _ (.inl rfl) q, ⟨o, k _ _ (.inl rfl) e⟩, st⟩
theorem HOk.lt (x : HOk P w H h) (e : H a = some o) : a < h.objs.size := (x a o e).lt
theorem HOk.fresh (x : HOk P w H h) (e : h.objs.size ≤ a) : H a = none := by
  cases q : H a with
  | none => rfl
  | some u => exact absurd (Nat.lt_of_lt_of_le (x.lt q) e) (Nat.lt_irrefl _)
theorem HOk.kept (x : HOk P w H h) (k : ∀ b u, h.get? b = some u → h'.get? b = some u) : HOk P w H h' := fun a o e =>
  (x a o e).stay (fun b u _ q => k b u q) (fun _ q => q) fun _ _ q => q
theorem HOk.laid (x : HOk P w H h) (k : ∀ b u, h.get? b = some u → h'.get? b = some u) (hp : h.objs.size ≤ a) (new : ObjOk P w (upd H a o) h' a o) : HOk P w (upd H a o) h' := fun b u e => by
  have hn := x.fresh hp
  by_cases hb : b = a
  · subst hb; rw [upd_same] at e; cases e; exact new
  · rw [upd_ne hb] at e
    exact (x b u e).stay (fun c v _ q => k c v q) (fun c q => by rw [upd_ne (ne_of_none q hn)]; exact q) fun c xs q => by rw [upd_ne (ne_of_none q hn)]; exact q
end
def Rd (H : Hp) (a : Addr) (u : HO) : Prop := H a = some u ∨ ∃ o, H a = some (.frz o u)
theorem Rd.of {H : Hp} {a : Addr} {u : HO} (h : H a = some u) : Rd H a u := .inl h
theorem Rd.ok {P : Program} {w : World} {H : Hp} {h : Heap} {a : Addr} {u : HO} (r : Rd H a u) (x : HOk P w H h) : ObjOk P w H h a u := by
  rcases r with r | ⟨o, r⟩
  · exact x a u r
  · obtain ⟨_, q⟩ := x a _ r
    exact q
def Mut : Option HO → Prop
  | some (.lst _) => True
  | some (.dK _) => True
  | some (.dT _) => True
  | some (.set _ _) => True
  | some (.ins _ _ _) => True
  | some (.ext _) => True
  | _ => False
section
variable {P : Program} {w : World} {H : Hp} {h h' : Heap} {x e : Addr} {o' : HO}
theorem HOk.write (ok : HOk P w H h) (mu : Mut (H x)) (he : e = x ∨ H e = some (.own x)) (k : ∀ b u, b ≠ e → h.get? b = some u → h'.get? b = some u) (heo : ∃ u, h'.get? e = some u)
    (new : ObjOk P w (upd H x o') h' x o') : HOk P w (upd H x o') h' := fun b u q => by
  have nown : ∀ c y, H c = some (.own y) → c ≠ x := fun c y r z => by subst z; rw [r] at mu; exact mu
  have ntup : ∀ c xs, H c = some (.tup xs) → c ≠ x := fun c xs r z => by subst z; rw [r] at mu; exact mu
  by_cases hb : b = x
  · subst hb; rw [upd_same] at q; cases q; exact new
  · rw [upd_ne hb] at q
    by_cases hbe : b = e
    · have q' : H b = some (.own x) := by
        rcases he with z | z
        · exact absurd (hbe.trans z) hb
        · rw [hbe]; exact z
      rw [q] at q'; cases q'
      obtain ⟨v, hv⟩ := heo
      exact ⟨v, by rw [hbe]; exact hv⟩
    · refine (ok b u q).stay (fun c v hc r => k c v ?_ r) (fun c r => by rw [upd_ne (nown c b r)]; exact r) fun c xs r => by rw [upd_ne (ntup c xs r)]; exact r
      rcases hc with rfl | hc
      · exact hbe
      · rintro rfl
        rcases he with z | z
        · exact nown c b hc z
        · rw [hc] at z; cases z; exact hb rfl
end
structure Un (fs ex : List Addr) (H H' : Hp) (h h' : Heap) : Prop where
  keep : ∀ b o, h.get? b = some o → H b = none → b ∉ fs → b ∉ ex → h'.get? b = some o
  slot : ∀ b o, h.get? b = some o → H b = none → b ∈ fs → b ∉ ex → ∃ sl, h'.get? b = some { o with slots := sl }
  free : ∀ b o, h.get? b = some o → H b = none → b ∉ ex → H' b = none
  there : ∀ b o, h.get? b = some o → b ∉ ex → ∃ o', h'.get? b = some o'
  tups : ∀ b xs, H b = some (.tup xs) → H' b = some (.tup xs)
  frzs : ∀ b o u, H b = some (.frz o u) → H' b = some (.frz o u)
  tbls : ∀ b ps, H b = some (.tbl ps) → ∃ more, H' b = some (.tbl (ps ++ more))
section
variable {fs fs' ex ex' : List Addr} {H H1 H2 : Hp} {h h1 h2 h' : Heap} {a x e : Addr} {o : HO}
theorem Un.any (u : Un fs ex H H1 h h1) {b : Addr} {ob : Obj} (q : h.get? b = some ob) (n : H b = none) (hx : b ∉ ex) : ∃ sl, h1.get? b = some { ob with slots := sl } := by
  by_cases hb : b ∈ fs
  · exact u.slot b ob q n hb hx
  · exact ⟨ob.slots, u.keep b ob q n hb hx⟩
theorem Un.trans (a : Un fs ex H H1 h h1) (b : Un fs ex H1 H2 h1 h2) : Un fs ex H H2 h h2 where
  keep := fun c ob q n hc hx => b.keep c ob (a.keep c ob q n hc hx) (a.free c ob q n hx) hc hx
  slot := fun c ob q n hc hx => by
    obtain ⟨sl, e1⟩ := a.slot c ob q n hc hx
    obtain ⟨sl', e2⟩ := b.slot c _ e1 (a.free c ob q n hx) hc hx
    exact ⟨sl', e2⟩
  free := fun c ob q n hx => by
    obtain ⟨o', e1⟩ := a.there c ob q hx
    exact b.free c o' e1 (a.free c ob q n hx) hx
  there := fun c ob q hx => by
    obtain ⟨o', e1⟩ := a.there c ob q hx
    exact b.there c o' e1 hx
  tups := fun c xs q => b.tups c xs (a.tups c xs q)
  frzs := fun c ob xs q => b.frzs c ob xs (a.frzs c ob xs q)
  tbls := fun c ps q => by
    obtain ⟨m1, e1⟩ := a.tbls c ps q
    obtain ⟨m2, e2⟩ := b.tbls c _ e1
    exact ⟨m1 ++ m2, by rw [e2, Array.append_assoc]⟩
theorem Un.kept (k : ∀ b u, h.get? b = some u → h'.get? b = some u) : Un fs ex H H h h' :=
  ⟨fun b ob q _ _ _ => k b ob q, fun b ob q _ _ _ => ⟨ob.slots, k b ob q⟩, fun _ _ _ n _ => n, fun b ob q _ => ⟨ob, k b ob q⟩, fun _ _ q => q, fun _ _ _ q => q, fun _ ps q => ⟨#[], by rw [q]; simp⟩⟩
theorem Un.refl : Un fs ex H H h h := Un.kept fun _ _ q => q
theorem Un.laid (k : ∀ b u, h.get? b = some u → h'.get? b = some u) (hp : h.objs.size ≤ a) (hn : H a = none) : Un fs ex H (upd H a o) h h' where
  keep := fun b u q _ _ _ => k b u q
  slot := fun b u q _ _ _ => ⟨u.slots, k b u q⟩
  free := fun b u q n _ => by rw [upd_ne (Nat.ne_of_lt (Nat.lt_of_lt_of_le (Heap.lt_size q) hp))]; exact n
  there := fun b u q _ => ⟨u, k b u q⟩
  tups := fun b xs q => by rw [upd_ne (ne_of_none q hn)]; exact q
  frzs := fun b u xs q => by rw [upd_ne (ne_of_none q hn)]; exact q
  tbls := fun b ps q => ⟨#[], by rw [upd_ne (ne_of_none q hn), q]; simp⟩
theorem Un.write (mu : Mut (H x)) (he : e = x ∨ H e = some (.own x)) (k : ∀ b u, b ≠ e → h.get? b = some u → h'.get? b = some u) (heo : ∃ u, h'.get? e = some u) : Un fs ex H (upd H x o) h h' := by
  have hx : ∀ b, H b = none → b ≠ x := fun b n z => by subst z; rw [n] at mu; exact mu
  have hb : ∀ b, H b = none → b ≠ e := fun b n z => by
    subst z
    rcases he with r | r
    · exact hx b n r
    · rw [n] at r; cases r
  have hm : ∀ b u, H b = some u → ¬ Mut (some u) → b ≠ x := fun b u q nm z => by subst z; rw [q] at mu; exact nm mu
  refine ⟨fun b u q n _ _ => k b u (hb b n) q, fun b u q n _ _ => ⟨u.slots, k b u (hb b n) q⟩, fun b u q n _ => by rw [upd_ne (hx b n)]; exact n, fun b u q _ => ?_,
    fun b xs q => by rw [upd_ne (hm b _ q fun z => z)]; exact q, fun b u xs q => by rw [upd_ne (hm b _ q fun z => z)]; exact q, fun b ps q => ⟨#[], by rw [upd_ne (hm b _ q fun z => z), q]; simp⟩⟩
  by_cases hbe : b = e
  · subst hbe; exact heo
  · exact ⟨u, k b u hbe q⟩
theorem Un.mono (u : Un fs ex H H1 h h1) (hs : ∀ b ∈ fs, b ∈ fs') (hx : ∀ b ∈ ex, b ∈ ex') : Un fs' ex' H H1 h h1 :=
  ⟨fun b ob q n hb he => u.keep b ob q n (fun z => hb (hs b z)) fun z => he (hx b z), fun _ _ q n _ he => u.any q n fun z => he (hx _ z), fun b ob q n he => u.free b ob q n fun z => he (hx b z), fun b ob q he => u.there b ob q fun z => he (hx b z), u.tups, u.frzs, u.tbls⟩
end
def trk (h : Heap) (H : Hp) : List Addr := (List.range h.objs.size).filter fun a => (H a).isSome
def hidT (h : Heap) (H : Hp) : Heap := PySem.W.hideAll h (trk h H)
theorem hidT_size (h : Heap) (H : Hp) : (hidT h H).objs.size = h.objs.size := PySem.W.hideAll_size _ _
theorem hidT_get {h : Heap} {H : Hp} {b : Addr} {o : Obj} (e : h.get? b = some o) (n : H b = none) : (hidT h H).get? b = some o :=
  PySem.W.hideAll_get _ e fun hm => by
    have q : (H b).isSome = true := (List.mem_filter.mp hm).2
    rw [n] at q; simp at q
theorem of_hidT {h : Heap} {H : Hp} {b : Addr} {o : Obj} (e : (hidT h H).get? b = some o) : h.get? b = some o ∧ H b = none := by
  have e' : h.get? b = some o := PySem.W.of_hideAll (trk h H) e
  refine ⟨e', ?_⟩
  cases q : H b with
  | none => rfl
  | some x =>
    have hm : b ∈ trk h H := List.mem_filter.mpr ⟨List.mem_range.mpr (Heap.lt_size e'), by simp [q]⟩
    have z : (hidT h H).get? b = none := PySem.W.hideAll_none (trk h H) hm
    rw [z] at e; cases e
def allNews (g h : Heap) (L : Addr) : List (Addr × Obj) := (List.range h.objs.size).filterMap fun a => if a = L ∨ (g.get? a).isSome = true then none else (h.get? a).map fun o => (a, o)
def rest (g h : Heap) (L d : Addr) : List (Addr × Obj) := (allNews g h L).filter fun p => decide (p.1 ≠ d)
end L2
namespace L2
open PySem PySem.Spec PyProof.Rows
structure Mod (K : PySem.W.Frag) (mg : Str → Option Value) (base : Heap) : Prop where
  kin : K.In base
  glob : base.Ns mainGlobals mg
  blt : ∃ mb, base.Ns builtinsNs mb ∧ ∀ x : Str, x ≠ "__name__" → mb x = bootBuiltins x
  nolimit : base.NoLimit
structure Cx where
  prog : Program
  w : World
  K : PySem.W.Frag
  mg : Str → Option Value
  base : Heap
  A : Around
  N : List Str
  s_0 : Shared
  H_0 : Hp
  env : Env
  outer : List Env
  stack : List Env
  ex : List Addr
  fn : Str → Bool
  calm : Bool
  pn : List (Addr × Obj)
  xe : Value → Shared → Prop
def frs (l : List Env) : List Addr := l.filterMap (·.frame)
abbrev Cx.fs (X : Cx) : List Addr := frs X.outer
def Vis (sc : Scope) (x : Str) : Prop := sc.names.lookup x = some .local ∨ sc.names.lookup x = some .cell ∨ sc.names.lookup x = some .free
def Loc (sc : Scope) (x : Str) : Prop := sc.names.lookup x = some .local ∨ sc.names.lookup x = some .cell
def Look (env : Env) (h : Heap) (m : Str → Option Value) (x : Str) (u : Value) : Prop :=
  (env.kindOf x = some .local ∧ m x = some u) ∨ ((env.kindOf x = some .cell ∨ env.kindOf x = some .free) ∧ ∃ c, env.cells.lookup x = some c ∧ h.IsCell c (some u))
structure Cx.Ok (X : Cx) : Prop where
  mod : Mod X.K X.mg X.base
  kind : X.env.scope.kind = .function
  glob : X.env.globals = mainGlobals
  blt : X.env.builtins = builtinsNs
  above : X.s_0.heap.objs.size ≤ X.env.locals
  inj : ∀ x y c, X.env.cells.lookup x = some c → X.env.cells.lookup y = some c → x = y
  has : ∀ x, (X.env.kindOf x = some .cell ∨ X.env.kindOf x = some .free) → ∃ c, X.env.cells.lookup x = some c
  cab : ∀ x c, X.fn x = true → X.env.cells.lookup x = some c → X.s_0.heap.objs.size ≤ c
  hd : X.calm = true → X.A.handled = none
  frames : X.A.frames = some X.stack
  stk : X.stack = X.outer ∨ (X.stack = X.env :: X.outer ∧ X.env.frame = some X.env.locals)
  exf : ∀ b ∈ X.ex, b ≠ X.env.locals ∧ ∀ x c, X.env.cells.lookup x = some c → c ≠ b
  bs : ∀ b o, X.base.get? b = some o → X.s_0.heap.get? b = some o ∧ X.H_0 b = none
  bsz : X.base.objs.size ≤ X.s_0.heap.objs.size
  noex : ∀ b o, X.base.get? b = some o → b ∉ X.ex
  exfs : ∀ b ∈ X.ex, b ∉ X.fs
  funs : X.s_0.heap.FunFrames X.base X.outer
  frf : ∀ b ∈ X.fs, X.H_0 b = none
structure Inv (X : Cx) (pins : List (Addr × Obj)) (σ : List (Option V)) (H : Hp) (s : Shared) : Prop where
  ok : X.Ok
  os : s.os = X.s_0.os
  bare : AllBare s.gens
  base : Un X.fs X.ex X.H_0 H X.s_0.heap s.heap
  loc : ∃ m, s.heap.Ns X.env.locals m ∧ ∀ (i : Nat) (x : Str) (v : V), X.N[i]? = some x → σ[i]? = some (some v) → Vis X.env.scope x → ∃ u, RelV v u ∧ Look X.env s.heap m x u
  cell : ∀ x c, X.env.cells.lookup x = some c → ∃ v, s.heap.IsCell c v
  free : H X.env.locals = none
  freeC : ∀ x c, X.env.cells.lookup x = some c → H c = none
  pin : ∀ p ∈ X.pn ++ pins, s.heap.get? p.1 = some p.2 ∧ H p.1 = none ∧ p.1 ≠ X.env.locals ∧ p.1 ∉ X.fs ∧ ∀ v, p.2.data ≠ .cell v
  hok : HOk X.prog X.w H s.heap
  len : σ.length = X.N.length
section
variable {X : Cx} {pins : List (Addr × Obj)} {σ : List (Option V)} {H H' : Hp} {s : Shared} {h' : Heap}
theorem Cx.Ok.nofr (ok : X.Ok) {b : Addr} {o : Obj} (e : X.base.get? b = some o) : b ∉ X.fs := fun hb => by
  have := (ok.funs.mem hb).1
  rw [e] at this; cases this
theorem Inv.bs (I : Inv X pins σ H s) : ∀ b o, X.base.get? b = some o → s.heap.get? b = some o ∧ H b = none := fun b o e =>
  ⟨I.base.keep b o (I.ok.bs b o e).1 (I.ok.bs b o e).2 (I.ok.nofr e) (I.ok.noex b o e), I.base.free b o (I.ok.bs b o e).1 (I.ok.bs b o e).2 (I.ok.noex b o e)⟩
theorem Inv.bk (I : Inv X pins σ H s) : ∀ b o, X.base.get? b = some o → s.heap.get? b = some o := fun b o e => (I.bs b o e).1
theorem Inv.mod (I : Inv X pins σ H s) : Mod X.K X.mg X.base := I.ok.mod
theorem Inv.kIn (I : Inv X pins σ H s) : X.K.In s.heap := I.ok.mod.kin.keeps I.bk
theorem Inv.nolimit (I : Inv X pins σ H s) : s.heap.NoLimit := I.ok.mod.nolimit.keeps I.bk
theorem Inv.fr (I : Inv X pins σ H s) : ∃ m, Fr X.base X.env.locals s.heap m :=
  let ⟨m, hn, _⟩ := I.loc
  ⟨m, hn, I.bk, Nat.le_trans I.ok.bsz I.ok.above⟩
theorem Inv.lt (I : Inv X pins σ H s) : X.env.locals < s.heap.objs.size := let ⟨_, hn, _⟩ := I.loc; hn.lt
theorem Inv.sz (I : Inv X pins σ H s) : X.s_0.heap.objs.size ≤ s.heap.objs.size := Nat.le_trans I.ok.above (Nat.le_of_lt I.lt)
theorem Inv.nofs (I : Inv X pins σ H s) {a : Addr} (h : s.heap.objs.size ≤ a) : a ∉ X.fs := fun hb => by
  obtain ⟨_, o, ho, _⟩ := I.ok.funs.mem hb
  exact absurd (Nat.lt_of_lt_of_le (Heap.lt_size ho) (Nat.le_trans I.sz h)) (Nat.lt_irrefl _)
theorem Inv.cne (I : Inv X pins σ H s) : ∀ x c, X.env.cells.lookup x = some c → c ≠ X.env.locals := fun x c e z => by
  obtain ⟨v, o, ho, hd⟩ := I.cell x c e
  obtain ⟨m, ⟨o', es, ep, ho', hd', _⟩, _⟩ := I.loc
  rw [z, ho'] at ho; cases ho; rw [hd'] at hd; cases hd
theorem Inv.funs (I : Inv X pins σ H s) : s.heap.FunFrames X.base X.outer := by
  have all : ∀ (l : List Env), (∀ b ∈ frs l, b ∈ X.fs) → X.s_0.heap.FunFrames X.base l → s.heap.FunFrames X.base l := by
    intro l
    induction l with
    | nil => intro _ _; trivial
    | cons env r ih =>
      intro hs hl
      obtain ⟨hk, ⟨L, o, hf, hn, ho, hd⟩, hr⟩ := hl
      have hL : L ∈ X.fs := hs L (by unfold frs; rw [List.filterMap_cons, hf]; exact List.mem_cons_self)
      obtain ⟨sl, e⟩ := I.base.slot L o ho (I.ok.frf L hL) hL fun z => I.ok.exfs L z hL
      exact ⟨hk, ⟨L, _, hf, hn, e, hd⟩, ih (fun b hb => hs b (by unfold frs; rw [List.filterMap_cons, hf]; exact List.mem_cons_of_mem _ hb)) hr⟩
  exact all X.outer (fun _ hb => hb) I.ok.funs
theorem Inv.stack (I : Inv X pins σ H s) : s.heap.FunFrames X.base X.stack := by
  rcases I.ok.stk with e | ⟨e, hf⟩
  · rw [e]; exact I.funs
  · rw [e]
    obtain ⟨m, hn, _⟩ := I.loc
    refine .cons (by rw [I.ok.kind]; decide) hf hn ?_ I.funs
    exact Heap.get?_none_of_le (Nat.le_trans I.ok.bsz I.ok.above)
theorem Inv.stkSub (I : Inv X pins σ H s) : ∀ b ∈ frs X.stack, b ∈ X.env.locals :: X.fs := fun b hb => by
  rcases I.ok.stk with e | ⟨e, hf⟩
  · rw [e] at hb; exact List.mem_cons_of_mem _ hb
  · rw [e] at hb
    unfold frs at hb
    rw [List.filterMap_cons, hf] at hb
    exact hb
theorem Inv.stkFree (I : Inv X pins σ H s) : ∀ b ∈ frs X.stack, H b = none := fun b hb => by
  rcases List.mem_cons.mp (I.stkSub b hb) with e | hb
  · rw [e]; exact I.free
  · obtain ⟨_, o, ho, _⟩ := I.ok.funs.mem hb
    exact I.base.free b o ho (I.ok.frf b hb) fun z => I.ok.exfs b z hb
theorem Inv.step {g' : Array GenState} {t' : Nat} {d' : Drawn} {ch : List Addr} (I : Inv X pins σ H s)
    (hch : ∀ b ∈ ch, (b ∈ X.ex ∨ X.s_0.heap.objs.size ≤ b) ∧ b ≠ X.env.locals ∧ (∀ x c, X.env.cells.lookup x = some c → c ≠ b) ∧ ∀ p ∈ X.pn ++ pins, p.1 ≠ b)
    (keep : ∀ b o, b ≠ X.env.locals → b ∉ X.fs → b ∉ ch → s.heap.get? b = some o → H b = none → h'.get? b = some o)
    (slot : ∀ b o, b ≠ X.env.locals → b ∈ X.fs → b ∉ ch → s.heap.get? b = some o → H b = none → ∃ sl, h'.get? b = some { o with slots := sl }) (free : ∀ b o, b ∉ ch → s.heap.get? b = some o → H b = none → H' b = none)
    (there : ∀ b o, b ∉ ch → s.heap.get? b = some o → ∃ o', h'.get? b = some o')
    (tups : ∀ b xs, H b = some (.tup xs) → H' b = some (.tup xs)) (frzs : ∀ b o u, H b = some (.frz o u) → H' b = some (.frz o u)) (tbls : ∀ b ps, H b = some (.tbl ps) → ∃ more, H' b = some (.tbl (ps ++ more)))
    (ns : ∀ m, s.heap.Ns X.env.locals m → h'.Ns X.env.locals m) (hok : HOk X.prog X.w H' h') (hg : AllBare g') :
    Inv X pins σ H' { s with heap := h', gens := g', drawn := d', toks := t' } := by
  have neL : ∀ b o, X.s_0.heap.get? b = some o → b ≠ X.env.locals := fun b o e => Nat.ne_of_lt (Nat.lt_of_lt_of_le (Heap.lt_size e) I.ok.above)
  have neC : ∀ b o, X.s_0.heap.get? b = some o → b ∉ X.ex → b ∉ ch := fun b o e hx hb => by
    rcases (hch b hb).1 with z | z
    · exact hx z
    · exact absurd (Nat.lt_of_lt_of_le (Heap.lt_size e) z) (Nat.lt_irrefl _)
  have cellK : ∀ x c, X.env.cells.lookup x = some c → ∀ v, s.heap.IsCell c v → h'.IsCell c v := fun x c e v ⟨o, ho, hd⟩ => by
    have nch : c ∉ ch := fun z => (hch c z).2.2.1 x c e rfl
    by_cases hc : c ∈ X.fs
    · obtain ⟨sl, q⟩ := slot c o (I.cne x c e) hc nch ho (I.freeC x c e)
      exact ⟨_, q, hd⟩
    · exact ⟨o, keep c o (I.cne x c e) hc nch ho (I.freeC x c e), hd⟩
  refine ⟨I.ok, I.os, hg, ⟨fun b o e n hb hx => ?_, fun b o e n hb hx => ?_, fun b o e n hx => ?_, fun b o e hx => ?_, fun b xs e => tups b xs (I.base.tups b xs e), fun b o xs e => frzs b o xs (I.base.frzs b o xs e), fun b ps e => ?_⟩, ?_, fun x c e => ?_, ?_, fun x c e => ?_, fun p hp => ?_, hok, I.len⟩
  · exact keep b o (neL b o e) hb (neC b o e hx) (I.base.keep b o e n hb hx) (I.base.free b o e n hx)
  · obtain ⟨sl, e1⟩ := I.base.slot b o e n hb hx
    obtain ⟨sl', e2⟩ := slot b _ (neL b o e) hb (neC b o e hx) e1 (I.base.free b o e n hx)
    exact ⟨sl', e2⟩
  · obtain ⟨o', e1⟩ := I.base.there b o e hx
    exact free b o' (neC b o e hx) e1 (I.base.free b o e n hx)
  · obtain ⟨o', e1⟩ := I.base.there b o e hx
    exact there b o' (neC b o e hx) e1
  · obtain ⟨m1, e1⟩ := I.base.tbls b ps e
    obtain ⟨m2, e2⟩ := tbls b _ e1
    exact ⟨m1 ++ m2, by rw [e2, Array.append_assoc]⟩
  · obtain ⟨m, hn, hl⟩ := I.loc
    refine ⟨m, ns m hn, fun i x v e1 e2 e3 => ?_⟩
    obtain ⟨u, r, l⟩ := hl i x v e1 e2 e3
    refine ⟨u, r, ?_⟩
    rcases l with l | ⟨k, c, e, z⟩
    · exact .inl l
    · exact .inr ⟨k, c, e, cellK x c e _ z⟩
  · obtain ⟨v, z⟩ := I.cell x c e
    exact ⟨v, cellK x c e v z⟩
  · obtain ⟨m, ⟨o, _, _, ho, _⟩, _⟩ := I.loc
    exact free _ o (fun z => (hch _ z).2.1 rfl) ho I.free
  · obtain ⟨v, o, ho, hd⟩ := I.cell x c e
    exact free c o (fun z => (hch c z).2.2.1 x c e rfl) ho (I.freeC x c e)
  · obtain ⟨e, n, ne, nf, d⟩ := I.pin p hp
    have nch : p.1 ∉ ch := fun z => (hch p.1 z).2.2.2 p hp rfl
    exact ⟨keep p.1 p.2 ne nf nch e n, free p.1 p.2 nch e n, ne, nf, d⟩
theorem Inv.un {t' : Nat} (I : Inv X pins σ H s) (u : Un X.fs [] H H' s.heap h') (hok : HOk X.prog X.w H' h') : Inv X pins σ H' { s with heap := h', toks := t' } := by
  obtain ⟨m, ⟨o, es, ep, ho, r⟩, _⟩ := id I.loc
  obtain ⟨sl, hL⟩ := u.any ho I.free (by simp)
  exact I.step (g' := s.gens) (d' := s.drawn) (ch := []) (fun _ z => nomatch z) (fun b o _ hb _ e n => u.keep b o e n hb (by simp)) (fun b o _ hb _ e n => u.slot b o e n hb (by simp)) (fun b o _ e n => u.free b o e n (by simp)) (fun b o _ e => u.there b o e (by simp)) u.tups u.frzs u.tbls (fun m' hm => by
    obtain ⟨o', es', ep', ho', r'⟩ := hm
    rw [ho] at ho'; cases ho'
    exact ⟨_, es', ep', hL, r'⟩) hok I.bare
theorem Inv.call {g' : Array GenState} {t' : Nat} {d' : Drawn} {ch : List Addr} (I : Inv X pins σ H s) (u : Un (frs X.stack) ch H H' s.heap h') (hok : HOk X.prog X.w H' h') (hg : AllBare g')
    (hch : ∀ b ∈ ch, (b ∈ X.ex ∨ X.s_0.heap.objs.size ≤ b) ∧ b ≠ X.env.locals ∧ (∀ x c, X.env.cells.lookup x = some c → c ≠ b) ∧ ∀ p ∈ X.pn ++ pins, p.1 ≠ b) :
    Inv X pins σ H' { s with heap := h', gens := g', drawn := d', toks := t' } := by
  obtain ⟨m, ⟨o, es, ep, ho, r⟩, _⟩ := id I.loc
  obtain ⟨sl, hL⟩ := u.any ho I.free fun z => (hch _ z).2.1 rfl
  exact I.step (ch := ch) hch (fun b o hL hb hc e n => u.keep b o e n (fun z => (List.mem_cons.mp (I.stkSub b z)).elim hL hb) hc) (fun b o _ _ hc e n => u.any e n hc) (fun b o hc e n => u.free b o e n hc) (fun b o hc e => u.there b o e hc) u.tups u.frzs u.tbls (fun m' hm => by
    obtain ⟨o', es', ep', ho', r'⟩ := hm
    rw [ho] at ho'; cases ho'
    exact ⟨_, es', ep', hL, r'⟩) hok hg
theorem Inv.turned {t' : Nat} {it : Addr} (I : Inv X pins σ H s) (k : ∀ b o, b ≠ it → s.heap.get? b = some o → h'.get? b = some o) (hn : H it = none) (hL : it ≠ X.env.locals)
    (h1 : it ∈ X.ex ∨ X.s_0.heap.objs.size ≤ it) (h2 : ∀ x c, X.env.cells.lookup x = some c → c ≠ it) (h3 : ∀ p ∈ X.pn ++ pins, p.1 ≠ it) : Inv X pins σ H { s with heap := h', toks := t' } := by
  have nit : ∀ b u, H b = some u → b ≠ it := fun b u e z => by rw [z, hn] at e; cases e
  refine I.step (g' := s.gens) (d' := s.drawn) (ch := [it]) (fun b hb => ?_) (fun b o _ _ hc e _ => k b o (fun z => hc (by simp [z])) e) (fun b o _ _ hc e _ => ⟨o.slots, k b o (fun z => hc (by simp [z])) e⟩) (fun _ _ _ _ n => n)
    (fun b o hc e => ⟨o, k b o (fun z => hc (by simp [z])) e⟩) (fun _ _ e => e) (fun _ _ _ e => e) (fun b ps e => ⟨#[], by rw [e]; simp⟩) (fun m hm => ?_) (fun b u e => ?_) I.bare
  · have e : b = it := by simpa using hb
    subst e
    exact ⟨h1, hL, h2, h3⟩
  · obtain ⟨o, es, ep, ho, r⟩ := hm
    exact ⟨o, es, ep, k _ o (Ne.symm hL) ho, r⟩
  · refine (I.hok b u e).stay (fun c v hc q => k c v ?_ q) (fun _ q => q) fun _ _ q => q
    rcases hc with z | z
    · rw [z]; exact nit b u e
    · exact nit c _ z
theorem Inv.tok (I : Inv X pins σ H s) (t : Nat) : Inv X pins σ H { s with toks := t } := I.un (h' := s.heap) (t' := t) Un.refl I.hok
theorem Inv.kept {t' : Nat} (I : Inv X pins σ H s) (k : ∀ b u, s.heap.get? b = some u → h'.get? b = some u) : Inv X pins σ H { s with heap := h', toks := t' } := I.un (Un.kept k) (I.hok.kept k)
theorem Inv.laid {a : Addr} {o : HO} {t' : Nat} (I : Inv X pins σ H s) (k : ∀ b u, s.heap.get? b = some u → h'.get? b = some u) (hp : s.heap.objs.size ≤ a) (new : ObjOk X.prog X.w (upd H a o) h' a o) :
    Inv X pins σ (upd H a o) { s with heap := h', toks := t' } := I.un (Un.laid k hp (I.hok.fresh hp)) (I.hok.laid k hp new)
theorem Inv.write {x e : Addr} {o : HO} {t' : Nat} (I : Inv X pins σ H s) (mu : Mut (H x)) (he : e = x ∨ H e = some (.own x)) (k : ∀ b u, b ≠ e → s.heap.get? b = some u → h'.get? b = some u) (heo : ∃ u, h'.get? e = some u)
    (new : ObjOk X.prog X.w (upd H x o) h' x o) : Inv X pins σ (upd H x o) { s with heap := h', toks := t' } := I.un (Un.write mu he k heo) (I.hok.write mu he k heo new)
theorem Inv.weak {σ' : List (Option V)} (I : Inv X pins σ H s) (hl : σ'.length = σ.length) (w : ∀ (i : Nat) v, σ'[i]? = some (some v) → σ[i]? = some (some v)) : Inv X pins σ' H s :=
  ⟨I.ok, I.os, I.bare, I.base, let ⟨m, hn, hl'⟩ := I.loc; ⟨m, hn, fun i x v e1 e2 e3 => hl' i x v e1 (w i v e2) e3⟩, I.cell, I.free, I.freeC, I.pin, I.hok, hl.trans I.len⟩
theorem Inv.pins_of {pins' : List (Addr × Obj)} (I : Inv X pins σ H s) (h : ∀ p ∈ pins', s.heap.get? p.1 = some p.2 ∧ H p.1 = none ∧ p.1 ≠ X.env.locals ∧ p.1 ∉ X.fs ∧ ∀ v, p.2.data ≠ .cell v) : Inv X pins' σ H s :=
  ⟨I.ok, I.os, I.bare, I.base, I.loc, I.cell, I.free, I.freeC, fun p hp => (List.mem_append.mp hp).elim (fun z => I.pin p (List.mem_append_left _ z)) (h p), I.hok, I.len⟩
theorem nodup_ix {N : List Str} (hN : N.Nodup) {i j : Nat} {x : Str} (a : N[i]? = some x) (b : N[j]? = some x) : i = j := by
  obtain ⟨h1, e1⟩ := List.getElem?_eq_some_iff.mp a
  obtain ⟨h2, e2⟩ := List.getElem?_eq_some_iff.mp b
  exact (List.getElem_inj hN).mp (e1.trans e2.symm)
theorem store_ok2 {M : Model} {A : Around} {E : Value → Shared → Prop} {i : Nat} {x : Str} {v : V} {u : Value} {Q : Unit → Shared → Prop} (I : Inv X pins σ H s) (hN : X.N.Nodup) (hi : X.N[i]? = some x) (hx : Loc X.env.scope x) (r : RelV v u)
    (h : ∀ s', Inv X pins (σ.set i (some v)) H s' → (∃ a, Heap.SameBut a s.heap s'.heap ∧ (a = X.env.locals ∨ X.env.cells.lookup x = some a)) → Q () s') (hf : X.fn x = true ∨ X.env.scope.names.lookup x = some .local := by first | exact .inl rfl | exact .inr rfl | assumption) : wpAny M A (storeName X.env x u) Q E s := by
  obtain ⟨m, hn, hl⟩ := id I.loc
  have hcls : (X.env.scope.kind == .class || (X.env.scope.kind == .module && X.env.locals != X.env.globals)) = false := by rw [I.ok.kind]; rfl
  have hiσ : i < σ.length := by rw [I.len]; exact (List.getElem?_eq_some_iff.mp hi).1
  have cne := I.cne
  have tracked : ∀ {a : Addr} {h' : Heap}, (∃ o, s.heap.get? a = some o ∧ H a = none) → Heap.SameBut a s.heap h' → HOk X.prog X.w H h' := fun {a h'} ha hs b ob e => by
    obtain ⟨_, _, hfree⟩ := ha
    refine (I.hok b ob e).stay (fun c w' hc q => (hs.2 c ?_).trans q) (fun _ q => q) fun _ _ q => q
    rintro rfl
    rcases hc with rfl | hc
    · rw [hfree] at e; cases e
    · rw [hfree] at hc; cases hc
  rcases hx with hk | hk
  · refine wpAny_storeName_local hk hn (fun h' hn' hs => ?_) hcls
    obtain ⟨oL, _, _, hoL, _⟩ := id hn
    refine h _ ⟨I.ok, I.os, I.bare, ⟨fun b o e n hb hx => ?_, fun b o e n hb hx => ?_, I.base.free, fun b o e hx => ?_, I.base.tups, I.base.frzs, I.base.tbls⟩, ⟨_, hn', fun j y v' e1 e2 e3 => ?_⟩, fun y c e => ?_, I.free, I.freeC, fun p hp => ?_, tracked ⟨oL, hoL, I.free⟩ hs, by simpa using I.len⟩ ⟨_, hs, .inl rfl⟩
    · exact (hs.2 b (Nat.ne_of_lt (Nat.lt_of_lt_of_le (Heap.lt_size e) I.ok.above))).trans (I.base.keep b o e n hb hx)
    · obtain ⟨sl, e1⟩ := I.base.slot b o e n hb hx
      exact ⟨sl, (hs.2 b (Nat.ne_of_lt (Nat.lt_of_lt_of_le (Heap.lt_size e) I.ok.above))).trans e1⟩
    · obtain ⟨o', e1⟩ := I.base.there b o e hx
      exact ⟨o', (hs.2 b (Nat.ne_of_lt (Nat.lt_of_lt_of_le (Heap.lt_size e) I.ok.above))).trans e1⟩
    · by_cases hj : j = i
      · subst hj
        rw [hi] at e1; cases e1
        rw [List.getElem?_set_self hiσ] at e2
        cases e2
        exact ⟨u, r, .inl ⟨hk, by simp⟩⟩
      · rw [List.getElem?_set_ne (Ne.symm hj)] at e2
        obtain ⟨u', r', q⟩ := hl j y v' e1 e2 e3
        refine ⟨u', r', ?_⟩
        rcases q with ⟨k, e⟩ | ⟨k, c, e, z⟩
        · refine .inl ⟨k, ?_⟩
          have : y ≠ x := fun e => hj (nodup_ix hN e1 (e ▸ hi))
          simp [this, e]
        · exact .inr ⟨k, c, e, z.sameBut hs (cne y c e)⟩
    · obtain ⟨w', z⟩ := I.cell y c e
      exact ⟨w', z.sameBut hs (cne y c e)⟩
    · obtain ⟨e, n, ne, nf, d⟩ := I.pin p hp
      exact ⟨(hs.2 p.1 ne).trans e, n, ne, nf, d⟩
  · have hfn : X.fn x = true := by
      rcases hf with z | z
      · exact z
      · rw [z] at hk; cases hk
    obtain ⟨c, hc⟩ := I.ok.has x (.inl hk)
    obtain ⟨w', z⟩ := I.cell x c hc
    refine wpAny_storeName_cell I.ok.kind hk hc z (fun h' hc' hs => ?_)
    obtain ⟨oc, hoc, hocd⟩ := id z
    refine h { s with heap := h' } ⟨I.ok, I.os, I.bare, ⟨fun b o e n hb hx => ?_, fun b o e n hb hx => ?_, I.base.free, fun b o e hx => ?_, I.base.tups, I.base.frzs, I.base.tbls⟩, ⟨m, hn.sameBut hs (Ne.symm (cne x c hc)), fun j y v' e1 e2 e3 => ?_⟩, fun y c' e => ?_, I.free, I.freeC, fun p hp => ?_, tracked ⟨oc, hoc, I.freeC x c hc⟩ hs, by simpa using I.len⟩ ⟨c, hs, .inr hc⟩
    · exact (hs.2 b (Nat.ne_of_lt (Nat.lt_of_lt_of_le (Heap.lt_size e) (I.ok.cab x c hfn hc)))).trans (I.base.keep b o e n hb hx)
    · obtain ⟨sl, e1⟩ := I.base.slot b o e n hb hx
      exact ⟨sl, (hs.2 b (Nat.ne_of_lt (Nat.lt_of_lt_of_le (Heap.lt_size e) (I.ok.cab x c hfn hc)))).trans e1⟩
    · obtain ⟨o', e1⟩ := I.base.there b o e hx
      exact ⟨o', (hs.2 b (Nat.ne_of_lt (Nat.lt_of_lt_of_le (Heap.lt_size e) (I.ok.cab x c hfn hc)))).trans e1⟩
    · by_cases hj : j = i
      · subst hj
        rw [hi] at e1; cases e1
        rw [List.getElem?_set_self hiσ] at e2
        cases e2
        exact ⟨u, r, .inr ⟨.inl hk, c, hc, hc'⟩⟩
      · rw [List.getElem?_set_ne (Ne.symm hj)] at e2
        obtain ⟨u', r', q⟩ := hl j y v' e1 e2 e3
        refine ⟨u', r', ?_⟩
        rcases q with q | ⟨k, c', e, z'⟩
        · exact .inl q
        · refine .inr ⟨k, c', e, z'.sameBut hs ?_⟩
          rintro rfl
          exact hj (nodup_ix hN e1 (I.ok.inj _ _ _ e hc ▸ hi))
    · by_cases hcc : c' = c
      · subst hcc; exact ⟨_, hc'⟩
      · obtain ⟨w2, z2⟩ := I.cell y c' e
        exact ⟨w2, z2.sameBut hs hcc⟩
    · obtain ⟨e, n, ne, nf, d⟩ := I.pin p hp
      refine ⟨(hs.2 p.1 ?_).trans e, n, ne, nf, d⟩
      intro q
      rw [q, hoc] at e
      have q' : oc = p.2 := Option.some.inj e
      exact d w' (by rw [← q']; exact hocd)
theorem store_ok {M : Model} {A : Around} {E : Value → Shared → Prop} {i : Nat} {x : Str} {v : V} {u : Value} {Q : Unit → Shared → Prop} (I : Inv X pins σ H s) (hN : X.N.Nodup) (hi : X.N[i]? = some x) (hx : Loc X.env.scope x) (r : RelV v u)
    (h : ∀ s', Inv X pins (σ.set i (some v)) H s' → Q () s') (hf : X.fn x = true ∨ X.env.scope.names.lookup x = some .local := by first | exact .inl rfl | exact .inr rfl | assumption) : wpAny M A (storeName X.env x u) Q E s :=
  store_ok2 I hN hi hx r (fun s' I' _ => h s' I') hf
theorem Inv.call' {s' : Shared} {ch : List Addr} (I : Inv X pins σ H s) (ho : s'.os = s.os) (u : Un (frs X.stack) ch H H' s.heap s'.heap) (hok : HOk X.prog X.w H' s'.heap) (hg : AllBare s'.gens)
    (hch : ∀ b ∈ ch, (b ∈ X.ex ∨ X.s_0.heap.objs.size ≤ b) ∧ b ≠ X.env.locals ∧ (∀ x c, X.env.cells.lookup x = some c → c ≠ b) ∧ ∀ p ∈ X.pn ++ pins, p.1 ≠ b) : Inv X pins σ H' s' := by
  obtain ⟨h', g', d', t', o'⟩ := s'
  have e : o' = s.os := ho
  subst e
  exact I.call (g' := g') (t' := t') (d' := d') u hok hg hch
end
abbrev XK := Value → Option Addr → Hp → Prop
abbrev St := List (Option V)
abbrev VK := V → Hp → Prop
abbrev TE := St → Hp → VK → Prop
abbrev TT := St → Hp → (Bool → Hp → Prop) → Prop
abbrev TA := St → Hp → (List V → Hp → Prop) → Prop
structure Ends where
  nx : St → Hp → Prop
  rt : VK
  bk : St → Hp → Prop := fun _ _ => False
  ct : St → Hp → Prop := fun _ _ => False
abbrev TS := Ends → St → Hp → Prop
def EP (X : Cx) (pins : List (Addr × Obj)) (σ : St) (Q : VK) (u : Value) (s' : Shared) : Prop := ∃ v H', Inv X pins σ H' s' ∧ RelV v u ∧ Q v H'
def TP (X : Cx) (pins : List (Addr × Obj)) (σ : St) (Q : Bool → Hp → Prop) (b : Bool) (s' : Shared) : Prop := ∃ H', Inv X pins σ H' s' ∧ Q b H'
def AP (X : Cx) (pins : List (Addr × Obj)) (σ : St) (Q : List V → Hp → Prop) (us : List Value) (s' : Shared) : Prop := ∃ vs H', Inv X pins σ H' s' ∧ Vals vs us ∧ Q vs H'
def SP (X : Cx) (pins : List (Addr × Obj)) (D : Ends) (f : Flow) (s' : Shared) : Prop :=
  match f with
  | .next => ∃ σ' H', Inv X pins σ' H' s' ∧ D.nx σ' H'
  | .brk => ∃ σ' H', Inv X pins σ' H' s' ∧ D.bk σ' H'
  | .cont => ∃ σ' H', Inv X pins σ' H' s' ∧ D.ct σ' H'
  | .ret u => ∃ v σ' H', Inv X pins σ' H' s' ∧ RelV v u ∧ D.rt v H'
def PE (X : Cx) (e : Expr) (t : TE) : Prop :=
  ∀ (pins : List (Addr × Obj)) (s : Shared) (σ : St) (H : Hp) (Q : VK), Inv X pins σ H s → t σ H Q → wpAny (model X.prog X.w) X.A (eval e X.env) (EP X pins σ Q) X.xe s
def PT (X : Cx) (e : Expr) (t : TT) : Prop :=
  ∀ (pins : List (Addr × Obj)) (s : Shared) (σ : St) (H : Hp) (Q : Bool → Hp → Prop), Inv X pins σ H s → t σ H Q → wpAny (model X.prog X.w) X.A (isTrue e X.env (eval e X.env)) (TP X pins σ Q) X.xe s
def PW (X : Cx) (e : Expr) (t : TT) : Prop :=
  ∀ (whole : Sem Value) (pins : List (Addr × Obj)) (s : Shared) (σ : St) (H : Hp) (Q : Bool → Hp → Prop), Inv X pins σ H s → t σ H Q → wpAny (model X.prog X.w) X.A (isTrue e X.env whole) (TP X pins σ Q) X.xe s
theorem PW.pt {X : Cx} {e : Expr} {t : TT} (h : PW X e t) : PT X e t := h _
def PA (X : Cx) (es : List Expr) (t : TA) : Prop :=
  ∀ (pos : Pos) (pins : List (Addr × Obj)) (s : Shared) (σ : St) (H : Hp) (Q : List V → Hp → Prop), Inv X pins σ H s → t σ H Q → wpAny (model X.prog X.w) X.A (spliced (backTo pos (starEach es X.env))) (AP X pins σ Q) X.xe s
def PS (X : Cx) (st : Stmt) (t : TS) : Prop :=
  ∀ (pins : List (Addr × Obj)) (s : Shared) (σ : St) (H : Hp) (D : Ends), Inv X pins σ H s → t D σ H → wpAny (model X.prog X.w) X.A (exec st X.env) (SP X pins D) X.xe s
def PSs (X : Cx) (st : List Stmt) (t : TS) : Prop :=
  ∀ (pins : List (Addr × Obj)) (s : Shared) (σ : St) (H : Hp) (D : Ends), Inv X pins σ H s → t D σ H → wpAny (model X.prog X.w) X.A (execs st X.env) (SP X pins D) X.xe s
theorem thn {α : Type} {t : Sem α} {Q Q' : α → Shared → Prop} {M : Model} {A : Around} {E : Value → Shared → Prop} {s : Shared} (h : wpAny M A t Q E s) (hQ : ∀ a s, Q a s → Q' a s) : wpAny M A t Q' E s := wpAny_mono h hQ fun _ _ x => x
end L2
namespace L2
open PySem PySem.Spec PyProof.Rows
section
variable {X : Cx}
theorem bin {a b : Expr} {ta tb : TE} (ha : PE X a ta) (hb : PE X b tb) {pins : List (Addr × Obj)} {s : Shared} {σ : St} {H : Hp} {R : V → V → Hp → Prop} (I : Inv X pins σ H s) (h : ta σ H fun x H1 => tb σ H1 fun y H2 => R x y H2)
    {α : Type} {Q : α → Shared → Prop} {f : Value → Value → Sem α}
    (hf : ∀ v u s2 x y H2, Inv X pins σ H2 s2 → RelV x v → RelV y u → R x y H2 → wpAny (model X.prog X.w) X.A (f v u) Q X.xe s2) :
    wpAny (model X.prog X.w) X.A (eval a X.env) (fun v s₁ => wpAny (model X.prog X.w) X.A (eval b X.env) (fun u s₂ => wpAny (model X.prog X.w) X.A (f v u) Q X.xe s₂) X.xe s₁) X.xe s := by
  refine thn (ha pins s σ H _ I h) fun v s1 ⟨x, H1, I1, r1, q1⟩ => ?_
  refine thn (hb pins s1 σ H1 _ I1 q1) fun u s2 ⟨y, H2, I2, r2, q2⟩ => ?_
  exact hf v u s2 x y H2 I2 r1 r2 q2
def tVar (i : Nat) : TE := fun σ H Q => ∃ v, σ[i]? = some (some v) ∧ Q v H
def tC (v : V) : TE := fun _ H Q => Q v H
theorem pe_var {i : Nat} {x : Str} {pos : Pos} (hN : X.N[i]? = some x) (hv : Vis X.env.scope x) (hd : (x == ("__debug__" : Str)) = false := by decide) (hcd : (x == ("__classdict__" : Str)) = false := by decide) : PE X (.Name x pos) (tVar i) := by
  intro pins s σ H Q I h
  obtain ⟨v, e, h⟩ := h
  obtain ⟨m, hn, hl⟩ := I.loc
  obtain ⟨u, r, l⟩ := hl i x v hN e hv
  have fin : EP X pins σ Q u s := ⟨v, H, I, r, h⟩
  rcases l with ⟨hk, hm⟩ | ⟨hk, c, hc, hcell⟩
  · exact wpAny_Name (wpAny_loadName_local I.ok.kind hk hn hm fin) hd
  · rcases hk with hk | hk
    · exact wpAny_Name (wpAny_loadName_cell I.ok.kind hk hc hcell fin) hd
    · exact wpAny_Name (wpAny_loadName_free I.ok.kind hk hc hcell fin hcd) hd
theorem pe_int {i j pos} : PE X (.Constant (.int i) j pos) (tC (.int i)) := fun _ _ _ H _ I h => wpAny_Constant_int ⟨.int i, H, I.tok _, ⟨_, rfl⟩, h⟩
theorem pe_bl {b j pos} : PE X (.Constant (.bool b) j pos) (tC (.bl b)) := fun _ _ _ H _ I h => Constant_bool ⟨.bl b, H, I, rfl, h⟩
def Gl (X : Cx) (x : Str) : Prop := X.env.kindOf x = some .globalImplicit
theorem ld_glob {E : Value → Shared → Prop} {pins : List (Addr × Obj)} {s : Shared} {σ : St} {H : Hp} {x : Str} {u : Value} {pos : Pos} {Q : Value → Shared → Prop} (I : Inv X pins σ H s) (hg : Gl X x) (hm : X.mg x = some u) (h : Q u s)
    (hd : (x == ("__debug__" : Str)) = false := by decide) : wpAny (model X.prog X.w) X.A (eval (.Name x pos) X.env) Q E s :=
  Calls.Name_function_global I.ok.kind hg (Calls.loadGlobal_global (by rw [I.ok.glob]; exact I.mod.glob.keeps I.bk) hm h) hd
theorem ld_blt {E : Value → Shared → Prop} {pins : List (Addr × Obj)} {s : Shared} {σ : St} {H : Hp} {x : Str} {u : Value} {pos : Pos} {Q : Value → Shared → Prop} (I : Inv X pins σ H s) (hg : Gl X x) (hm : X.mg x = none) (hv : bootBuiltins x = some u) (h : Q u s)
    (hn : x ≠ "__name__" := by decide) (hd : (x == ("__debug__" : Str)) = false := by decide) : wpAny (model X.prog X.w) X.A (eval (.Name x pos) X.env) Q E s := by
  obtain ⟨mb, h1, h2⟩ := I.mod.blt
  exact Calls.Name_function_global I.ok.kind hg (Calls.loadGlobal_builtin (by rw [I.ok.glob]; exact I.mod.glob.keeps I.bk) hm (by rw [I.ok.blt]; exact h1.keeps I.bk) ((h2 x hn).trans hv) h) hd
theorem pe_glob {x : Str} {v : V} {u : Value} {pos : Pos} (hg : Gl X x) (hm : X.mg x = some u) (r : RelV v u) (hd : (x == ("__debug__" : Str)) = false := by decide) : PE X (.Name x pos) (tC v) :=
  fun _ _ _ H _ I h => ld_glob I hg hm ⟨v, H, I, r, h⟩ hd
variable {a b : Expr} {ta tb : TE} {pos : Pos}
def tB (t : TE) : TT := fun σ H Q => t σ H fun x H1 => ∃ c, x = .bl c ∧ Q c H1
theorem pt_val {e : Expr} {t : TE} (h : PE X e t) (he : ∀ whole, isTrue e X.env whole = (do let v ← whole; standAt e.pos; holding [v] (truthy v)) := by intro _; rfl) : PT X e (tB t) := by
  intro pins s σ H Q I hw
  refine isTrue_plain (thn (h pins s σ H _ I hw) fun v s1 ⟨x, H1, I1, r1, q1⟩ => ?_) (he _)
  obtain ⟨d, rfl, q⟩ := q1
  cases r1
  exact wpAny_truthy_bool ⟨H1, I1, q⟩
variable {tA tB' : TT} {rest : List Expr}
def tAnd (t u : TT) : TT := fun σ H Q => t σ H fun c H1 => if c = true then u σ H1 Q else Q false H1
def tOr (t u : TT) : TT := fun σ H Q => t σ H fun c H1 => if c = true then Q true H1 else u σ H1 Q
def tNot (t : TT) : TT := fun σ H Q => t σ H fun c H1 => Q (!c) H1
theorem pw_and1 (ha : PT X a tA) : PW X (.BoolOp .And [a] pos) tA := by
  intro wh pins s σ H Q I h
  refine isTrue_and (thn (ha pins s σ H Q I h) fun c s1 e => ?_)
  cases c with
  | true => exact isTrue_and_nil e
  | false => exact e
theorem pw_or1 (ha : PT X a tA) : PW X (.BoolOp .Or [a] pos) tA := by
  intro wh pins s σ H Q I h
  refine isTrue_or (thn (ha pins s σ H Q I h) fun c s1 e => ?_)
  cases c with
  | false => exact isTrue_or_nil e
  | true => exact e
theorem pw_and (ha : PT X a tA) (hb : PW X (.BoolOp .And (b :: rest) pos) tB') : PW X (.BoolOp .And (a :: b :: rest) pos) (tAnd tA tB') := by
  intro wh pins s σ H Q I h
  refine isTrue_and (thn (ha pins s σ H _ I h) fun c s1 ⟨H1, I1, q1⟩ => ?_)
  cases c with
  | true => exact hb wh pins s1 σ H1 Q I1 q1
  | false => exact ⟨H1, I1, q1⟩
theorem pw_or (ha : PT X a tA) (hb : PW X (.BoolOp .Or (b :: rest) pos) tB') : PW X (.BoolOp .Or (a :: b :: rest) pos) (tOr tA tB') := by
  intro wh pins s σ H Q I h
  refine isTrue_or (thn (ha pins s σ H _ I h) fun c s1 ⟨H1, I1, q1⟩ => ?_)
  cases c with
  | true => exact ⟨H1, I1, q1⟩
  | false => exact hb wh pins s1 σ H1 Q I1 q1
theorem pt_not (ha : PT X a tA) : PT X (.UnaryOp .Not a pos) (tNot tA) := by
  intro pins s σ H Q I h
  exact isTrue_not (ha pins s σ H (fun c H1 => Q (!c) H1) I h)
def tIf (t : TT) (ta tb : TE) : TE := fun σ H Q => t σ H fun c H1 => if c = true then ta σ H1 Q else tb σ H1 Q
theorem pe_ifExp {c : Expr} (hc : PT X c tA) (ha : PE X a ta) (hb : PE X b tb) : PE X (.IfExp c a b pos) (tIf tA ta tb) := by
  intro pins s σ H Q I h
  refine wpAny_IfExp (thn (hc pins s σ H _ I h) fun d s1 ⟨H1, I1, q1⟩ => ?_)
  cases d with
  | true => exact ha pins s1 σ H1 Q I1 q1
  | false => exact hb pins s1 σ H1 Q I1 q1
end
end L2
namespace L2
open PySem PySem.Spec PyProof.Rows
def SqL (K : PySem.W.Frag) (H : Hp) (a : Addr) (xs : List V) : Prop :=
  Rd H a (.lst xs) ∨
    ∃ (o : Obj) (its : Array Value) (n : Nat), K.lookup a = some o ∧ o.cls = .type "list" ∧ o.dict = none ∧ o.data = .seq its n ∧ its.size ≤ sizeLine ∧ Vals xs its.toList
def SqT (K : PySem.W.Frag) (H : Hp) (a : Addr) (xs : List V) : Prop :=
  Rd H a (.tup xs) ∨
    ∃ (o : Obj) (its : Array Value) (n : Nat), K.lookup a = some o ∧ o.cls = .type "tuple" ∧ o.data = .seq its n ∧ its.size ≤ sizeLine ∧ Vals xs its.toList
def absV : Value → Option V
  | .none => some .non
  | .bool b => some (.bl b)
  | .int i _ => some (.int i)
  | .str x _ => some (.str x)
  | .bytes b _ => some (.byt b)
  | .float b _ => some (.flt b)
  | .ref a => some (.ref a)
  | .type n => some (.ty n)
  | _ => none
theorem RelV.abs {x : V} {u : Value} (r : RelV x u) : absV u = some x := by
  cases x with
  | non => cases r; rfl
  | bl _ => cases r; rfl
  | int _ => obtain ⟨t, rfl⟩ := r; rfl
  | str _ => obtain ⟨t, rfl⟩ := r; rfl
  | byt _ => obtain ⟨t, rfl⟩ := r; rfl
  | flt _ => obtain ⟨t, rfl⟩ := r; rfl
  | ref _ => cases r; rfl
  | ty _ => cases r; rfl
theorem RelV.inj {x y : V} {u : Value} (r : RelV x u) (q : RelV y u) : x = y := Option.some.inj (r.abs.symm.trans q.abs)
theorem Vals.inj : ∀ {xs ys : List V} {us : List Value}, Vals xs us → Vals ys us → xs = ys
  | _, _, _, .nil, .nil => rfl
  | _, _, _, .cons r t, .cons r' t' => by rw [r.inj r', Vals.inj t t']
section
variable {X : Cx} {pins : List (Addr × Obj)} {σ : St} {H : Hp} {s : Shared} {a : Addr} {xs ys : List V}
theorem SqL.of {K : PySem.W.Frag} (h : H a = some (.lst xs)) : SqL K H a xs := .inl (.inl h)
theorem SqT.of {K : PySem.W.Frag} (h : H a = some (.tup xs)) : SqT K H a xs := .inl (.inl h)
theorem Inv.list (I : Inv X pins σ H s) (h : SqL X.K H a xs) : ∃ its : List Value, Vals xs its ∧ PlainL s.heap a its.toArray ∧ xs.length ≤ sizeLine := by
  rcases h with h | ⟨o, its, n, hk, hc, hd, hs, hz, r⟩
  · obtain ⟨z, its, n, r, e⟩ := h.ok I.hok
    exact ⟨its, r, ⟨_, n, e, rfl, rfl, rfl⟩, z⟩
  · refine ⟨its.toList, r, ⟨o, n, I.kIn a o hk, hc, hd, by simpa using hs⟩, ?_⟩
    have e := r.length
    simp only [Array.length_toList] at e
    omega
theorem Inv.tuple (I : Inv X pins σ H s) (h : SqT X.K H a xs) : ∃ its : List Value, Vals xs its ∧ IsTup s.heap a its.toArray ∧ xs.length ≤ sizeLine := by
  rcases h with h | ⟨o, its, n, hk, hc, hs, hz, r⟩
  · obtain ⟨z, its, r, p⟩ := h.ok I.hok
    exact ⟨its, r, p, z⟩
  · refine ⟨its.toList, r, ⟨o, I.kIn a o hk, hc, n, by simpa using hs⟩, ?_⟩
    have e := r.length
    simp only [Array.length_toList] at e
    omega
theorem Inv.list_inj (I : Inv X pins σ H s) (h : SqL X.K H a xs) (h' : SqL X.K H a ys) : xs = ys := by
  obtain ⟨its, r, ⟨o, n, e, _, _, d⟩, _⟩ := I.list h
  obtain ⟨its', r', ⟨o', n', e', _, _, d'⟩, _⟩ := I.list h'
  rw [e] at e'; cases e'
  rw [d] at d'
  injection d' with d1 _
  have : its = its' := by simpa using congrArg Array.toList d1
  subst this
  exact r.inj r'
end
abbrev Cx.wish (X : Cx) (E : Value → Shared → Prop) : Cx := { X with xe := E }
abbrev Cx.nox (X : Cx) : Cx := X.wish fun _ _ => False
theorem Cx.Ok.wish {X : Cx} (ok : X.Ok) (E : Value → Shared → Prop) : (X.wish E).Ok :=
  ⟨ok.mod, ok.kind, ok.glob, ok.blt, ok.above, ok.inj, ok.has, ok.cab, ok.hd, ok.frames, ok.stk, ok.exf, ok.bs, ok.bsz, ok.noex, ok.exfs, ok.funs, ok.frf⟩
theorem Cx.Ok.unwish {X : Cx} {E : Value → Shared → Prop} (ok : (X.wish E).Ok) : X.Ok :=
  ⟨ok.mod, ok.kind, ok.glob, ok.blt, ok.above, ok.inj, ok.has, ok.cab, ok.hd, ok.frames, ok.stk, ok.exf, ok.bs, ok.bsz, ok.noex, ok.exfs, ok.funs, ok.frf⟩
section
variable {X : Cx} {pins : List (Addr × Obj)} {σ : St} {H : Hp} {s : Shared} {E : Value → Shared → Prop}
theorem Inv.wish (I : Inv X pins σ H s) (E : Value → Shared → Prop) : Inv (X.wish E) pins σ H s := ⟨I.ok.wish E, I.os, I.bare, I.base, I.loc, I.cell, I.free, I.freeC, I.pin, I.hok, I.len⟩
theorem Inv.unwish (I : Inv (X.wish E) pins σ H s) : Inv X pins σ H s := ⟨I.ok.unwish, I.os, I.bare, I.base, I.loc, I.cell, I.free, I.freeC, I.pin, I.hok, I.len⟩
theorem SP.unwish {D : Ends} {f : Flow} {s' : Shared} (h : SP (X.wish E) pins D f s') : SP X pins D f s' := by
  cases f with
  | next => obtain ⟨σ', H', I, q⟩ := h; exact ⟨σ', H', I.unwish, q⟩
  | brk => obtain ⟨σ', H', I, q⟩ := h; exact ⟨σ', H', I.unwish, q⟩
  | cont => obtain ⟨σ', H', I, q⟩ := h; exact ⟨σ', H', I.unwish, q⟩
  | ret u => obtain ⟨v, σ', H', I, r, q⟩ := h; exact ⟨v, σ', H', I.unwish, r, q⟩
theorem PE.nox {e : Expr} {t : TE} (h : PE X.nox e t) : PE X e t := fun pins s σ H Q I hw =>
  wpAny_mono (h pins s σ H Q (I.wish _) hw) (fun _ _ ⟨v, H', I', r, q⟩ => ⟨v, H', I'.unwish, r, q⟩) fun _ _ z => False.elim z
theorem PT.nox {e : Expr} {t : TT} (h : PT X.nox e t) : PT X e t := fun pins s σ H Q I hw =>
  wpAny_mono (h pins s σ H Q (I.wish _) hw) (fun _ _ ⟨H', I', q⟩ => ⟨H', I'.unwish, q⟩) fun _ _ z => False.elim z
theorem PSs.nox {st : List Stmt} {t : TS} (h : PSs X.nox st t) : PSs X st t := fun pins s σ H D I hw =>
  wpAny_mono (h pins s σ H D (I.wish _) hw) (fun _ _ q => q.unwish) fun _ _ z => False.elim z
end
section
variable {X : Cx} {st : Stmt} {rest : List Stmt} {t u : TS} {e : Expr} {te : TE} {pos : Pos}
def tNext : TS := fun D σ H => D.nx σ H
def tSeq (t u : TS) : TS := fun D σ H => t { D with nx := u D } σ H
theorem pss_nil : PSs X [] tNext := fun _ _ σ H _ I h => wpAny_execs_nil ⟨σ, H, I, h⟩
theorem pss_cons (h1 : PS X st t) (h2 : PSs X rest u) : PSs X (st :: rest) (tSeq t u) := by
  intro pins s σ H D I h
  refine wpAny_execs_cons (thn (h1 pins s σ H { D with nx := u D } I h) fun f s1 q => ?_)
  cases f with
  | next =>
    obtain ⟨σ', H', I', q⟩ := q
    exact h2 pins s1 σ' H' D I' q
  | ret v => exact q
  | brk => exact q
  | cont => exact q
theorem pss_one (h1 : PS X st t) : PSs X [st] t := by
  intro pins s σ H D I h
  refine wpAny_execs_cons (thn (h1 pins s σ H D I h) fun f s1 q => ?_)
  cases f with
  | next => exact wpAny_execs_nil q
  | ret v => exact q
  | brk => exact q
  | cont => exact q
theorem Inv.quiet {pins : List (Addr × Obj)} {σ : St} {H : Hp} {s : Shared} (I : Inv X pins σ H s) : interactive X.env = false := by simp [interactive, I.ok.kind]
def tDrop (te : TE) : TS := fun D σ H => te σ H fun _ H1 => D.nx σ H1
theorem ps_expr (he : PE X e te) (hs : swapsWith e none pos.line X.env = pure false := by rfl) : PS X (.Expr e pos) (tDrop te) := by
  intro pins s σ H D I h
  exact wpAny_Expr_any (thn (he pins s σ H _ I h) fun v s1 ⟨x, H1, I1, r1, q1⟩ => ⟨σ, H1, I1, q1⟩) I.quiet hs
def tRet (te : TE) : TS := fun D σ H => te σ H D.rt
theorem ps_ret (he : PE X e te) : PS X (.Return (some e) pos) (tRet te) := by
  intro pins s σ H D I h
  exact wpAny_Return_some (thn (he pins s σ H _ I h) fun v s1 ⟨x, H1, I1, r1, q1⟩ => ⟨x, σ, H1, I1, r1, q1⟩)
def tIfS (c : TT) (t u : TS) : TS := fun D σ H => c σ H fun b H1 => if b = true then t D σ H1 else u D σ H1
theorem ps_if {c : Expr} {a b : List Stmt} {tc : TT} (hc : PT X c tc) (ha : PSs X a t) (hb : PSs X b u) : PS X (.If c a b pos) (tIfS tc t u) := by
  intro pins s σ H D I h
  refine wpAny_If (thn (hc pins s σ H _ I h) fun d s1 ⟨H1, I1, q1⟩ => ?_)
  cases d with
  | true => exact ha pins s1 σ H1 D I1 q1
  | false => exact hb pins s1 σ H1 D I1 q1
def tNever : TS := fun _ _ _ => False
theorem ps_never : PS X st tNever := fun _ _ _ _ _ _ h => h.elim
end
abbrev TG := V → St → Hp → (St → Hp → Prop) → Prop
abbrev TGs := List V → St → Hp → (St → Hp → Prop) → Prop
def PG (X : Cx) (target : Expr) (t : TG) : Prop :=
  ∀ (pins : List (Addr × Obj)) (s : Shared) (σ : St) (H : Hp) (v : V) (u : Value) (Q : St → Hp → Prop), Inv X pins σ H s → RelV v u → t v σ H Q →
    wpAny (model X.prog X.w) X.A (assign target X.env u) (fun _ s' => ∃ σ' H', Inv X pins σ' H' s' ∧ Q σ' H') X.xe s
def PGs (X : Cx) (ts : List Expr) (t : TGs) : Prop :=
  ∀ (pins : List (Addr × Obj)) (s : Shared) (σ : St) (H : Hp) (vs : List V) (us : List Value) (Q : St → Hp → Prop), Inv X pins σ H s → Vals vs us → t vs σ H Q →
    wpAny (model X.prog X.w) X.A (assignInOrder ((assignEach ts X.env).map (·.2)) us) (fun _ s' => ∃ σ' H', Inv X pins σ' H' s' ∧ Q σ' H') X.xe s
abbrev TSet := V → V → V → Hp → (Hp → Prop) → Prop
def PSet (X : Cx) (t : TSet) : Prop :=
  ∀ (pins : List (Addr × Obj)) (s : Shared) (σ : St) (H : Hp) (o i v : V) (ov iv u : Value) (Q : Hp → Prop), Inv X pins σ H s → RelV o ov → RelV i iv → RelV v u → t o i v H Q →
    wpAny (model X.prog X.w) X.A (setItem ov iv u) (fun _ s' => ∃ H', Inv X pins σ H' s' ∧ Q H') X.xe s
section
variable {X : Cx} {pos : Pos}
def gName (i : Nat) : TG := fun v σ H Q => Q (σ.set i (some v)) H
theorem pg_name {i : Nat} {x : Str} (hN : X.N.Nodup) (hi : X.N[i]? = some x) (hx : Loc X.env.scope x) (hf : X.fn x = true ∨ X.env.scope.names.lookup x = some .local := by first | exact .inl rfl | exact .inr rfl | assumption) : PG X (.Name x pos) (gName i) := by
  intro pins s σ H v u Q I r h
  exact wpAny_assign_Name (store_ok I hN hi hx r (fun s' I' => ⟨_, H, I', h⟩) hf)
def gNil : TGs := fun vs σ H Q => vs = [] ∧ Q σ H
def gCons (t : TG) (u : TGs) : TGs := fun vs σ H Q => ∃ v r, vs = v :: r ∧ t v σ H fun σ' H' => u r σ' H' Q
theorem pgs_nil : PGs X [] gNil := by
  intro pins s σ H vs us Q I r h
  obtain ⟨e, h⟩ := h
  subst e
  cases r
  exact assignInOrder_nil ⟨σ, H, I, h⟩
theorem pgs_cons {e : Expr} {es : List Expr} {t : TG} {u : TGs} (h1 : PG X e t) (h2 : PGs X es u)
    (hs : (assignEach (e :: es) X.env).map (·.2) = assign e X.env :: (assignEach es X.env).map (·.2) := by rfl) : PGs X (e :: es) (gCons t u) := by
  intro pins s σ H vs us Q I r h
  obtain ⟨v, vr, e1, h⟩ := h
  subst e1
  cases r with
  | cons r rr =>
    rw [hs]
    refine assignInOrder_cons (thn (h1 pins s σ H _ _ _ I r h) fun _ s1 ⟨σ1, H1, I1, q1⟩ => ?_)
    exact h2 pins s1 σ1 H1 _ _ Q I1 rr q1
def gTup (K : PySem.W.Frag) (n : Nat) (t : TGs) : TG := fun v σ H Q => ∃ a xs, v = .ref a ∧ SqT K H a xs ∧ xs.length = n ∧ t xs σ H Q
theorem pg_tup {es : List Expr} {k : Nat} {t : TGs} {n : Nat} (hc : X.calm = true) (h : PGs X es t)
    (hn : (assignEach es X.env).length = n := by rfl) (hst : (assignEach es X.env).findIdx? (·.1) = none := by rfl) : PG X (.Tuple es k pos) (gTup X.K n t) := by
  intro pins s σ H v u Q I r hw
  obtain ⟨a, xs, e1, hq, hl, hw⟩ := hw
  subst e1
  cases r
  obtain ⟨its, rv, ht, hz⟩ := I.tuple hq
  refine assign_Tuple_tuple (I.ok.hd hc) ht (by simp [hn, ← hl, rv.length]) hst fun h' hx => ?_
  have I1 : Inv X pins σ H { s with heap := h' } := I.kept (t' := s.toks) fun b o e => hx b o (Nat.ne_of_lt (Heap.lt_size e)) e
  exact h pins _ σ H xs _ Q I1 (by simpa using rv) hw
def gSub (to ti : TE) (t : TSet) : TG := fun v σ H Q => to σ H fun o H1 => ti σ H1 fun i H2 => t o i v H2 fun H3 => Q σ H3
theorem pg_sub {o i : Expr} {to ti : TE} {t : TSet} (ho : PE X o to) (hi : PE X i ti) (hs : PSet X t)
    (ha : ∀ v, assign (.Subscript o i pos) X.env v = (do
      let ov ← holding [v] (eval o X.env)
      let iv ← holding [v, ov] (eval i X.env)
      standAt pos
      holding [v, ov, iv] (setItem ov iv v)
      release [v, ov, iv] []) := by intro _; rfl) : PG X (.Subscript o i pos) (gSub to ti t) := by
  intro pins s σ H v u Q I r h
  rw [ha]
  refine wpAny_bind (wpAny_holding (thn (ho pins s σ H _ I h) fun ov s1 ⟨x, H1, I1, r1, q1⟩ => ?_))
  refine wpAny_bind (wpAny_holding (thn (hi pins s1 σ H1 _ I1 q1) fun iv s2 ⟨y, H2, I2, r2, q2⟩ => ?_))
  refine wpAny_bind (wpAny_standAt (wpAny_bind (wpAny_holding (thn (hs pins s2 σ H2 x y v ov iv u _ I2 r1 r2 r q2) fun _ s3 ⟨H3, I3, q3⟩ => ?_))))
  exact wpAny_release ⟨σ, H3, I3, q3⟩
def tAsg (te : TE) (g : TG) : TS := fun D σ H => te σ H fun x H1 => g x σ H1 D.nx
theorem ps_asg {tg e : Expr} {te : TE} {g : TG} (he : PE X e te) (hg : PG X tg g) (hs : swapsWithSole [tg] e pos.line X.env = pure false := by rfl) (hw : swappedStores [tg] e X.env = pure none := by rfl)
    (h1 : (assignEach [tg] X.env).map (·.2) = [assign tg X.env] := by rfl) : PS X (.Assign [tg] e pos) (tAsg te g) := by
  intro pins s σ H D I h
  refine wpAny_Assign_stores (thn (he pins s σ H _ I h) fun v s1 ⟨x, H1, I1, r1, q1⟩ => ?_) hs hw
  rw [h1]
  exact thn (hg pins s1 σ H1 x v _ I1 r1 q1) fun _ s2 q => q
theorem ps_set {i : Nat} {x : Str} {e : Expr} {te : TE} {pos' : Pos} (hN : X.N.Nodup) (hi : X.N[i]? = some x) (hx : Loc X.env.scope x) (he : PE X e te) (hs : swapsWith e (some (.Name x pos')) pos.line X.env = pure false := by rfl) (hf : X.fn x = true ∨ X.env.scope.names.lookup x = some .local := by first | exact .inl rfl | exact .inr rfl | assumption) :
    PS X (.Assign [.Name x pos'] e pos) (tAsg te (gName i)) := by
  intro pins s σ H D I h
  refine wpAny_Assign_Name (thn (he pins s σ H _ I h) fun v s1 ⟨y, H1, I1, r1, q1⟩ => ?_) hs
  exact store_ok I1 hN hi hx r1 (fun s2 I2 => ⟨_, H1, I2, q1⟩) hf
end
section
variable {X : Cx} {pos : Pos}
def tWhile (c : TT) (tb : TS) : TS := fun D σ H => ∃ W : Nat → St → Hp → Prop, (∃ m, W m σ H) ∧ ∀ m σ H, W m σ H →
  c σ H fun b H1 => if b = true then ∃ N : St → Hp → Prop, (∀ σ' H', N σ' H' → ∃ m', m' < m ∧ W m' σ' H') ∧ tb { D with nx := N, ct := N, bk := D.nx } σ H1 else D.nx σ H1
theorem ps_while {c : Expr} {body : List Stmt} {tc : TT} {tb : TS} (hp : PassesOwn (model X.prog X.w) X.A X.env X.xe) (hc : PT X c tc) (hb : PSs X body tb) : PS X (.While c body [] pos) (tWhile tc tb) := by
  intro pins s σ H D I h
  obtain ⟨W, ⟨m0, w0⟩, turn⟩ := h
  refine wpAny_While (codeAny_whileLoop (fun n s' => ∃ σ' H', Inv X pins σ' H' s' ∧ W n σ' H') ?_ m0 ⟨σ, H, I, w0⟩)
  rintro n s1 ⟨σ1, H1, I1, w1⟩
  refine wpAny_passesOwn hp (thn (hc pins s1 σ1 H1 _ I1 (turn n σ1 H1 w1)) fun b s2 ⟨H2, I2, q2⟩ => ?_)
  cases b with
  | true =>
    obtain ⟨N, hN, q2⟩ := q2
    rw [if_pos rfl]
    refine wpAny_passesOwn hp (thn (hb pins s2 σ1 H2 _ I2 q2) fun f s3 q3 => ?_)
    cases f with
    | next =>
      obtain ⟨σ3, H3, I3, n3⟩ := q3
      obtain ⟨m', hm, w3⟩ := hN σ3 H3 n3
      exact ⟨m', hm, σ3, H3, I3, w3⟩
    | cont =>
      obtain ⟨σ3, H3, I3, n3⟩ := q3
      obtain ⟨m', hm, w3⟩ := hN σ3 H3 n3
      exact ⟨m', hm, σ3, H3, I3, w3⟩
    | brk => exact q3
    | ret v => exact q3
  | false =>
    rw [if_neg Bool.false_ne_true]
    exact wpAny_execs_nil ⟨σ1, H2, I2, q2⟩
end
structure It where
  go : Nat → Hp → Prop
  yld : Nat → Hp → V → Hp → Prop
  stop : Nat → Hp → Prop
def FpOk (X : Cx) (pins : List (Addr × Obj)) (H : Hp) (b : Addr) : Prop :=
  H b = none ∧ b ≠ X.env.locals ∧ b ∉ X.fs ∧ (b ∈ X.ex ∨ X.s_0.heap.objs.size ≤ b) ∧ (∀ x c, X.env.cells.lookup x = some c → c ≠ b) ∧ ∀ p ∈ X.pn ++ pins, p.1 ≠ b
theorem Inv.fpOk {X : Cx} {pins : List (Addr × Obj)} {σ : St} {H H' : Hp} {s : Shared} {b : Addr} (I : Inv X pins σ H s) (hb : s.heap.objs.size ≤ b) (hn : H' b = none) : FpOk X pins H' b := by
  refine ⟨hn, Nat.ne_of_gt (Nat.lt_of_lt_of_le I.lt hb), I.nofs hb, .inr (Nat.le_trans I.sz hb), fun x c e z => ?_, fun p hp z => ?_⟩
  · obtain ⟨v, q⟩ := I.cell x c e
    exact absurd (Nat.lt_of_lt_of_le q.lt (by rw [z]; exact hb)) (Nat.lt_irrefl _)
  · exact absurd (Nat.lt_of_lt_of_le (Heap.lt_size (I.pin p hp).1) (by rw [z]; exact hb)) (Nat.lt_irrefl _)
structure Turn (P : Program) (w : World) (K : PySem.W.Frag) (tg : Expr) (J : It) (fp : List Addr) (it : Addr) (tn : Nat → Heap → Prop) : Prop where
  mem : it ∈ fp
  obj : ∀ i h, tn i h → ∀ b ∈ fp, ∃ o, h.get? b = some o ∧ ∀ v, o.data ≠ .cell v
  keep : ∀ i h h', tn i h → (∀ b ∈ fp, ∀ o, h.get? b = some o → h'.get? b = some o) → tn i h'
  item : ∀ (X : Cx), X.prog = P → X.w = w → X.K = K → X.calm = true → ∀ (i : Nat) (pins : List (Addr × Obj)) (s : Shared) (σ : St) (H : Hp) (E : Value → Shared → Prop), Inv X pins σ H s → (∀ b ∈ fp, FpOk X pins H b) → tn i s.heap → J.go i H →
    wpAny (model P w) X.A (pyNext (.ref it)) (fun r s1 => ∃ u, r = some u ∧
      wpAny (model P w) X.A (letOwnedTupleGo tg (.ref it) u) (fun _ s2 => ∃ x H', Inv X pins σ H' s2 ∧ RelV x u ∧ J.yld i H x H' ∧ tn (i + 1) s2.heap ∧ ∀ b ∈ fp, H' b = none) E s1) E s
  done : ∀ (X : Cx), X.prog = P → X.w = w → X.K = K → X.calm = true → ∀ (i : Nat) (pins : List (Addr × Obj)) (s : Shared) (σ : St) (H : Hp) (E : Value → Shared → Prop), Inv X pins σ H s → (∀ b ∈ fp, FpOk X pins H b) → tn i s.heap → J.stop i H →
    wpAny (model P w) X.A (pyNext (.ref it)) (fun r s1 => r = none ∧ Inv X pins σ H s1) E s
  self : ∀ (A : Around) (i : Nat) (s : Shared) (Q : Value → Shared → Prop) (E : Value → Shared → Prop), tn i s.heap → Q (.ref it) s → wpAny (model P w) A (pyIter (.ref it)) Q E s
abbrev TI := St → Hp → (It → Hp → Prop) → Prop
def PIE (X : Cx) (pins : List (Addr × Obj)) (σ : St) (tg : Expr) (R : It → Hp → Prop) (itv : Value) (s2 : Shared) : Prop :=
  ∃ (it : Addr) (fp : List Addr) (tn : Nat → Heap → Prop) (J : It) (H' : Hp), itv = .ref it ∧ Inv X pins σ H' s2 ∧ Turn X.prog X.w X.K tg J fp it tn ∧ tn 0 s2.heap ∧ (∀ b ∈ fp, FpOk X pins H' b) ∧ R J H'
def PI (X : Cx) (tg iter : Expr) (wi : TI) : Prop :=
  ∀ (pins : List (Addr × Obj)) (s : Shared) (σ : St) (H : Hp) (R : It → Hp → Prop), Inv X pins σ H s → wi σ H R →
    wpAny (model X.prog X.w) X.A (eval iter X.env) (fun v s1 => wpAny (model X.prog X.w) X.A (pyIter v) (PIE X pins σ tg R) X.xe s1) X.xe s
theorem go_of {M : Model} {A : Around} {E : Value → Shared → Prop} {s : Shared} {tg : Expr} {it : Addr} {u : Value} {o : Obj} {n : String} {vs : Array Value} {Q : Unit → Shared → Prop} (ho : s.heap.get? it = some o) (hc : o.cls = .type n) (hd : o.data = .fields vs)
    (hn : ["enumerate", "zip", "dict_itemiterator", "dict_reverseitemiterator", "odict_iterator", "itertools.zip_longest", "itertools.pairwise"].contains n = false) (hQ : Q () s) : wpAny M A (letOwnedTupleGo tg (.ref it) u) Q E s := by
  unfold letOwnedTupleGo
  cases tg <;> first
    | exact wpAny_pure hQ
    | (cases u <;> first
        | exact wpAny_pure hQ
        | (refine wpAny_bind (wpAny_load ho ?_)
           rw [hc, hd]
           show wpAny M A (if (["enumerate", "zip", "dict_itemiterator", "dict_reverseitemiterator", "odict_iterator", "itertools.zip_longest", "itertools.pairwise"].contains n && vs[0]? == some (rawInt _)) = true then _ else _) Q E s
           rw [if_neg (by intro h; rw [hn, Bool.false_and] at h; cases h)]
           exact wpAny_pure hQ))
def Itl (K : PySem.W.Frag) (a : Addr) : It :=
  ⟨fun i H => ∃ xs x, SqL K H a xs ∧ xs[i]? = some x, fun i H x H' => H' = H ∧ ∀ xs, SqL K H a xs → xs[i]? = some x, fun i H => ∃ xs, SqL K H a xs ∧ xs.length ≤ i⟩
def Itr (lo : Int) (n : Nat) : It := ⟨fun i _ => i < n, fun i H x H' => H' = H ∧ x = .int (lo + i), fun i _ => n ≤ i⟩
theorem turn_list {P : Program} {w : World} {K : PySem.W.Frag} {tg : Expr} (a it : Addr) : Turn P w K tg (Itl K a) [it] it (fun i h => h.IsListIter it a i) where
  mem := by simp
  obj := fun i h st b hb => by
    have e : b = it := by simpa using hb
    subst e
    obtain ⟨o, e, c, d⟩ := st
    exact ⟨o, e, fun v z => by rw [d] at z; cases z⟩
  keep := fun i h h' st k => st.at fun o e => k it (by simp) o e
  item := by
    intro X hP hw hK hc i pins s σ H E I hf st hg
    subst hP hw hK
    obtain ⟨xs, x, hq, hx⟩ := hg
    obtain ⟨its, rv, p, hz⟩ := I.list hq
    obtain ⟨u, hu, ru⟩ := rv.get hx
    obtain ⟨f0, f1, f2, f3, f4, f5⟩ := hf it (by simp)
    refine wpAny_pyNext_list_item st p.isList (x := u) (by simpa using hu) fun h' st' sb => ?_
    have I1 : Inv X pins σ H { s with heap := h' } := I.turned (t' := s.toks) (fun b o hb e => (sb.2 b hb).trans e) f0 f1 f3 f4 f5
    obtain ⟨o, e, c, d⟩ := id st'
    exact ⟨u, rfl, go_of (s := { s with heap := h' }) e c d (by decide) ⟨x, H, I1, ru, ⟨rfl, fun ys hy => by rw [I.list_inj hy hq]; exact hx⟩, st', fun b hb => (hf b hb).1⟩⟩
  done := by
    intro X hP hw hK hc i pins s σ H E I hf st hg
    subst hP hw hK
    obtain ⟨xs, hq, hx⟩ := hg
    obtain ⟨its, rv, p, hz⟩ := I.list hq
    obtain ⟨f0, f1, f2, f3, f4, f5⟩ := hf it (by simp)
    have hl := rv.length
    exact wpAny_pyNext_list_end (I.ok.hd hc) st p.isList (by simp; omega) fun h' eb => ⟨rfl, I.turned (t' := s.toks) (fun b o hb e => eb b o hb e) f0 f1 f3 f4 f5⟩
  self := fun _ _ _ _ _ st h => wpAny_pyIter_listiter st h
theorem turn_range {P : Program} {w : World} {K : PySem.W.Frag} {tg : Expr} (it : Addr) (lo : Int) (n : Nat) : Turn P w K tg (Itr lo n) [it] it (fun i h => IsRangeIter h it (lo + (i : Nat) * 1) ((n : Int) - (i : Nat)) 1) where
  mem := by simp
  obj := fun i h st b hb => by
    have e : b = it := by simpa using hb
    subst e
    exact ⟨_, st, fun v z => by
      have z' : Data.fields _ = Data.cell v := z
      cases z'⟩
  keep := fun i h h' st k => k it (by simp) _ st
  item := by
    intro X hP hw hK hc i pins s σ H E I hf st hg
    subst hP hw hK
    obtain ⟨f0, f1, f2, f3, f4, f5⟩ := hf it (by simp)
    have W := Walks.range (prog := X.prog) (w := X.w) (I.ok.hd hc) it lo 1 n
    refine W.item i s _ _ hg st fun v h' tk hv st' kk => ?_
    obtain ⟨t, rfl⟩ := hv
    have I1 : Inv X pins σ H { s with heap := h', toks := tk } := I.turned (fun b o hb e => kk b o (by simpa using hb) e) f0 f1 f3 f4 f5
    refine ⟨_, rfl, go_of (s := { s with heap := h', toks := tk }) (n := "range_iterator") st' rfl rfl (by decide) ⟨.int (lo + i), H, I1, ⟨t, ?_⟩, ⟨rfl, rfl⟩, st', fun b hb => (hf b hb).1⟩⟩
    rw [Int.mul_one]
  done := by
    intro X hP hw hK hc i pins s σ H E I hf st hg
    subst hP hw hK
    obtain ⟨f0, f1, f2, f3, f4, f5⟩ := hf it (by simp)
    exact wpAny_pyNext_range_end (I.ok.hd hc) st (by have : n ≤ i := hg; omega) fun h' eb => ⟨rfl, I.turned (t' := s.toks) (fun b o hb e => eb b o hb e) f0 f1 f3 f4 f5⟩
  self := fun _ _ _ _ _ st h => wpAny_pyIter_rangeiter st h
end L2
namespace L2
open PySem PySem.Spec PyProof.Rows
section
variable {X : Cx} {tg : Expr}
def iList (K : PySem.W.Frag) (tl : TE) : TI := fun σ H R => tl σ H fun x H1 => ∃ a, x = .ref a ∧ (∃ xs, SqL K H1 a xs) ∧ R (Itl K a) H1
theorem pi_list {l : Expr} {tl : TE} (hl : PE X l tl) : PI X tg l (iList X.K tl) := by
  intro pins s σ H R I h
  refine thn (hl pins s σ H _ I h) fun v s1 ⟨x, H1, I1, r1, q1⟩ => ?_
  obtain ⟨a, e, ⟨xs, hq⟩, q⟩ := q1
  subst e
  cases r1
  obtain ⟨its, rv, p, hz⟩ := I1.list hq
  refine wpAny_pyIter_list p.isList ?_
  refine ⟨s1.heap.objs.size, [s1.heap.objs.size], _, _, H1, rfl, I1.kept (t' := s1.toks) fun b o e => Heap.get?_push_of_some _ e, turn_list a _, ⟨_, Heap.get?_push_size _ rfl, rfl, rfl⟩, fun b hb => ?_, q⟩
  have e : b = s1.heap.objs.size := by simpa using hb
  subst e
  exact I1.fpOk (Nat.le_refl _) (I1.hok.fresh (Nat.le_refl _))
theorem range_it {pins : List (Addr × Obj)} {σ : St} {H : Hp} {s : Shared} {R : It → Hp → Prop} {E : Value → Shared → Prop} {lo hi : Int} {t u v : Tok} {tk : Nat} (I : Inv X pins σ H s) (h1 : -(2 ^ 62) ≤ lo) (h2 : lo < 2 ^ 62) (h3 : -(2 ^ 62) ≤ hi) (h4 : hi < 2 ^ 62)
    (q : R (Itr lo (hi - lo).toNat) H) : wpAny (model X.prog X.w) X.A (pyIter (.ref s.heap.objs.size)) (PIE X pins σ tg R) E { s with heap := s.heap.push { cls := .type "range", data := .fields #[.int lo t, .int hi u, .int 1 v] }, toks := tk } := by
  refine wpAny_pyIter_range (IsRange.new ..) (small_one h1 h2 h3 h4) ?_
  have I1 : Inv X pins σ H { s with heap := s.heap.push { cls := .type "range", data := .fields #[.int lo t, .int hi u, .int 1 v] }, toks := tk } := I.kept fun b o e => Heap.get?_push_of_some _ e
  refine ⟨(s.heap.push { cls := .type "range", data := .fields #[.int lo t, .int hi u, .int 1 v] }).objs.size, [(s.heap.push { cls := .type "range", data := .fields #[.int lo t, .int hi u, .int 1 v] }).objs.size], _, _, H, rfl,
    I1.kept (t' := tk) fun b o e => Heap.get?_push_of_some _ e, turn_range _ lo (hi - lo).toNat, ?_, fun b hb => ?_, q⟩
  · have e1 : lo + ((0 : Nat) : Int) * 1 = lo := by simp
    have e2 : (((hi - lo).toNat : Nat) : Int) - ((0 : Nat) : Int) = Builtin.Range.rangeSize lo hi 1 := by rw [rangeSize_one]; split <;> omega
    show IsRangeIter _ _ (lo + ((0 : Nat) : Int) * 1) ((((hi - lo).toNat : Nat) : Int) - ((0 : Nat) : Int)) 1
    rw [e1, e2]
    exact Heap.get?_push_size _ rfl
  · have e : b = (s.heap.push { cls := .type "range", data := .fields #[.int lo t, .int hi u, .int 1 v] }).objs.size := by simpa using hb
    subst e
    exact I1.fpOk (Nat.le_refl _) (I1.hok.fresh (Nat.le_refl _))
def iRng1 (ta : TA) : TI := fun σ H R => ta σ H fun vs H1 => ∃ j : Int, vs = [.int j] ∧ -(2 ^ 62) ≤ j ∧ j < 2 ^ 62 ∧ R (Itr 0 j.toNat) H1
def iRng2 (ta : TA) : TI := fun σ H R => ta σ H fun vs H1 => ∃ i j : Int, vs = [.int i, .int j] ∧ (-(2 ^ 62) ≤ i ∧ i < 2 ^ 62 ∧ -(2 ^ 62) ≤ j ∧ j < 2 ^ 62) ∧ R (Itr i (j - i).toNat) H1
theorem pi_range1 {a : Expr} {ta : TA} {p pos : Pos} (hg : Gl X "range") (hm : X.mg "range" = none) (ha : PA X [a] ta) (hs : starEach [a] X.env = [(false, eval a X.env)] := by rfl) : PI X tg (.Call (.Name "range" p) [a] [] pos) (iRng1 ta) := by
  intro pins s σ H R I h
  refine Call_ (ld_blt I hg hm boot_range (PyProof.Rows.callWith_type1 (thn (ha pos pins s σ H _ I h) fun us s1 ⟨vs, H1, I1, r1, q1⟩ => ?_) hs rfl))
  obtain ⟨j, e, q1, q2, q⟩ := q1
  subst e
  cases r1 with
  | cons r rr =>
    cases rr
    obtain ⟨t, rfl⟩ := r
    exact call_range_1 (range_it I1 (by omega) (by omega) q1 q2 (by simpa using q))
theorem pi_range2 {a b : Expr} {ta : TA} {p pos : Pos} (hg : Gl X "range") (hm : X.mg "range" = none) (ha : PA X [a, b] ta) (hs : starEach [a, b] X.env = [(false, eval a X.env), (false, eval b X.env)] := by rfl) (hs2 : starEach [b] X.env = [(false, eval b X.env)] := by rfl) :
    PI X tg (.Call (.Name "range" p) [a, b] [] pos) (iRng2 ta) := by
  intro pins s σ H R I h
  refine Call_ (ld_blt I hg hm boot_range (PyProof.Rows.callWith_type1 (thn (ha pos pins s σ H _ I h) fun us s1 ⟨vs, H1, I1, r1, q1⟩ => ?_) (by rw [hs, hs2]) (by rw [hs2]; rfl)))
  obtain ⟨i, j, e, ⟨q1, q2, q3, q4⟩, q⟩ := q1
  subst e
  cases r1 with
  | cons r rr =>
    cases rr with
    | cons r' rr =>
      cases rr
      obtain ⟨t, rfl⟩ := r
      obtain ⟨t', rfl⟩ := r'
      exact call_range_2 (range_it I1 q1 q2 q3 q4 q)
def tFor (wi : TI) (g : TG) (tb : TS) : TS := fun D σ H => wi σ H fun J H1 => ∃ W : Nat → Nat → St → Hp → Prop, (∃ m, W 0 m σ H1) ∧ ∀ i m σ H, W i m σ H →
  (J.stop i H ∧ D.nx σ H) ∨ (J.go i H ∧ ∃ N : St → Hp → Prop, (∀ σ' H', N σ' H' → ∃ m', m' < m ∧ W (i + 1) m' σ' H') ∧ ∀ x H', J.yld i H x H' → g x σ H' fun σ2 H2 => tb { D with nx := N, ct := N, bk := D.nx } σ2 H2)
def pinsAt (fp : List Addr) (h : Heap) : List (Addr × Obj) := fp.filterMap fun b => (h.get? b).map fun o => (b, o)
theorem mem_pinsAt {fp : List Addr} {h : Heap} {b : Addr} {o : Obj} (hb : b ∈ fp) (e : h.get? b = some o) : (b, o) ∈ pinsAt fp h := List.mem_filterMap.mpr ⟨b, hb, by rw [e]; rfl⟩
theorem of_pinsAt {fp : List Addr} {h : Heap} {p : Addr × Obj} (hp : p ∈ pinsAt fp h) : p.1 ∈ fp ∧ h.get? p.1 = some p.2 := by
  obtain ⟨b, hb, e⟩ := List.mem_filterMap.mp hp
  cases q : h.get? b with
  | none => rw [q] at e; cases e
  | some o =>
    rw [q] at e
    have e' : (b, o) = p := Option.some.inj e
    subst e'
    exact ⟨hb, q⟩
theorem Inv.pinned {pins : List (Addr × Obj)} {σ : St} {H : Hp} {s : Shared} {fp : List Addr} (I : Inv X pins σ H s) (hf : ∀ b ∈ fp, FpOk X pins H b) (ho : ∀ b ∈ fp, ∃ o, s.heap.get? b = some o ∧ ∀ v, o.data ≠ .cell v) : Inv X (pins ++ pinsAt fp s.heap) σ H s :=
  I.pins_of fun p hp => (List.mem_append.mp hp).elim (fun z => I.pin p (List.mem_append_right _ z)) fun z => by
    obtain ⟨hb, e⟩ := of_pinsAt z
    obtain ⟨f0, f1, f2, _⟩ := hf p.1 hb
    obtain ⟨o, e', d⟩ := ho p.1 hb
    rw [e] at e'; cases e'
    exact ⟨e, f0, f1, f2, d⟩
theorem Inv.unpinned {pins pl : List (Addr × Obj)} {σ : St} {H : Hp} {s : Shared} (I : Inv X (pins ++ pl) σ H s) : Inv X pins σ H s := I.pins_of fun p hp => I.pin p (List.mem_append_right _ (List.mem_append_left _ hp))
theorem ps_for {iter : Expr} {body : List Stmt} {wi : TI} {g : TG} {tb : TS} {pos : Pos} (hp : PassesOwn (model X.prog X.w) X.A X.env X.xe) (hc : X.calm = true) (hi : PI X tg iter wi) (hg : PG X tg g) (hb : PSs X body tb)
    (hs : ∀ x, foldedSetIterable iter X.env x = pure x := by intro _; rfl) : PS X (.For tg iter body [] pos) (tFor wi g tb) := by
  intro pins s σ H D I h
  refine wpAny_For (thn (hi pins s σ H _ I h) fun v s1 h1 => thn h1 fun itv s2 h2 => ?_) hs
  obtain ⟨it, fp, tn, J, H2, e, I2, T, st2, f2, W, ⟨m0, w0⟩, turn⟩ := h2
  subst e
  have stat : ∀ {H' : Hp}, (∀ b ∈ fp, H' b = none) → ∀ b ∈ fp, FpOk X pins H' b := fun hn b hb => ⟨hn b hb, (f2 b hb).2⟩
  refine codeAny_forLoop_any (fun n s' => ∃ i σ' H', Inv X pins σ' H' s' ∧ tn i s'.heap ∧ (∀ b ∈ fp, H' b = none) ∧ W i n σ' H') ?_ m0 ⟨0, σ, H2, I2, st2, fun b hb => (f2 b hb).1, w0⟩
  rintro n s3 ⟨i, σ3, H3, I3, st3, fr3, w3⟩
  rcases turn i n σ3 H3 w3 with ⟨stop, qn⟩ | ⟨go, N, hN, step⟩
  · refine wpAny_passesOwn hp (thn (T.done X rfl rfl rfl hc i pins s3 σ3 H3 X.xe I3 (stat fr3) st3 stop) fun r s4 ⟨hr, I4⟩ => ?_)
    subst hr
    exact wpAny_execs_nil ⟨σ3, H3, I4, qn⟩
  · refine wpAny_passesOwn hp (thn (T.item X rfl rfl rfl hc i pins s3 σ3 H3 X.xe I3 (stat fr3) st3 go) fun r s4 ⟨u, hr, h4⟩ => ?_)
    subst hr
    refine wpAny_passesOwn hp (thn h4 fun _ s5 ⟨x, H5, I5, r5, y5, st5, fr5⟩ => ?_)
    have I5' := I5.pinned (stat fr5) (T.obj _ _ st5)
    refine wpAny_passesOwn hp (thn (hg _ s5 σ3 H5 x u _ I5' r5 (step x H5 y5)) fun _ s6 ⟨σ6, H6, I6, q6⟩ => ?_)
    refine wpAny_passesOwn hp (thn (hb _ s6 σ6 H6 _ I6 q6) fun f s7 q7 => ?_)
    have again : ∀ {σ7 : St} {H7 : Hp}, Inv X (pins ++ pinsAt fp s5.heap) σ7 H7 s7 → N σ7 H7 → ∃ m, m < n ∧ ∃ i σ' H', Inv X pins σ' H' s7 ∧ tn i s7.heap ∧ (∀ b ∈ fp, H' b = none) ∧ W i m σ' H' := fun {σ7 H7} I7 n7 => by
      obtain ⟨m', hm, w7⟩ := hN σ7 H7 n7
      refine ⟨m', hm, i + 1, σ7, H7, I7.unpinned, T.keep _ _ _ st5 fun b hb o e => (I7.pin (b, o) (List.mem_append_right _ (List.mem_append_right _ (mem_pinsAt hb e)))).1, fun b hb => ?_, w7⟩
      obtain ⟨o, e, d⟩ := T.obj _ _ st5 b hb
      exact (I7.pin (b, o) (List.mem_append_right _ (List.mem_append_right _ (mem_pinsAt hb e)))).2.1
    cases f with
    | next => obtain ⟨σ7, H7, I7, n7⟩ := q7; exact again I7 n7
    | cont => obtain ⟨σ7, H7, I7, n7⟩ := q7; exact again I7 n7
    | brk => obtain ⟨σ7, H7, I7, q7⟩ := q7; exact ⟨σ7, H7, I7.unpinned, q7⟩
    | ret v => obtain ⟨x7, σ7, H7, I7, r7, q7⟩ := q7; exact ⟨x7, σ7, H7, I7.unpinned, r7, q7⟩
end
theorem for_list {K : PySem.W.Frag} {a : Addr} {xs : List V} {g : TG} {tb : TS} {D : Ends} {σ : St} {H : Hp} (Pv : Nat → St → Hp → Prop) (h0 : Pv 0 σ H) (hl : ∀ i σ H, i ≤ xs.length → Pv i σ H → SqL K H a xs)
    (hs : ∀ i x σ H, xs[i]? = some x → Pv i σ H → g x σ H fun σ2 H2 => tb { D with nx := Pv (i + 1), ct := Pv (i + 1), bk := D.nx } σ2 H2) (hd : ∀ σ H, Pv xs.length σ H → D.nx σ H) :
    ∃ W : Nat → Nat → St → Hp → Prop, (∃ m, W 0 m σ H) ∧ ∀ i m σ H, W i m σ H →
      ((Itl K a).stop i H ∧ D.nx σ H) ∨ ((Itl K a).go i H ∧ ∃ N : St → Hp → Prop, (∀ σ' H', N σ' H' → ∃ m', m' < m ∧ W (i + 1) m' σ' H') ∧ ∀ x H', (Itl K a).yld i H x H' → g x σ H' fun σ2 H2 => tb { D with nx := N, ct := N, bk := D.nx } σ2 H2) := by
  refine ⟨fun i m σ H => m = xs.length - i ∧ i ≤ xs.length ∧ Pv i σ H, ⟨xs.length, by simp, Nat.zero_le _, h0⟩, ?_⟩
  rintro i m σ H ⟨rfl, hi, p⟩
  have q := hl i σ H hi p
  by_cases hlt : i < xs.length
  · refine .inr ⟨⟨xs, xs[i], q, by simp [hlt]⟩, Pv (i + 1), fun σ' H' p' => ⟨xs.length - (i + 1), by omega, rfl, hlt, p'⟩, fun x H' y => ?_⟩
    obtain ⟨e, y⟩ := y
    subst e
    exact hs i x σ _ (y xs q) p
  · have e : i = xs.length := by omega
    subst e
    exact .inl ⟨⟨xs, q, Nat.le_refl _⟩, hd σ H p⟩
theorem for_range {lo : Int} {n : Nat} {g : TG} {tb : TS} {D : Ends} {σ : St} {H : Hp} (Pv : Nat → St → Hp → Prop) (h0 : Pv 0 σ H)
    (hs : ∀ i σ H, i < n → Pv i σ H → g (.int (lo + i)) σ H fun σ2 H2 => tb { D with nx := Pv (i + 1), ct := Pv (i + 1), bk := D.nx } σ2 H2) (hd : ∀ σ H, Pv n σ H → D.nx σ H) :
    ∃ W : Nat → Nat → St → Hp → Prop, (∃ m, W 0 m σ H) ∧ ∀ i m σ H, W i m σ H →
      ((Itr lo n).stop i H ∧ D.nx σ H) ∨ ((Itr lo n).go i H ∧ ∃ N : St → Hp → Prop, (∀ σ' H', N σ' H' → ∃ m', m' < m ∧ W (i + 1) m' σ' H') ∧ ∀ x H', (Itr lo n).yld i H x H' → g x σ H' fun σ2 H2 => tb { D with nx := N, ct := N, bk := D.nx } σ2 H2) := by
  refine ⟨fun i m σ H => m = n - i ∧ i ≤ n ∧ Pv i σ H, ⟨n, by simp, Nat.zero_le _, h0⟩, ?_⟩
  rintro i m σ H ⟨rfl, hi, p⟩
  by_cases hlt : i < n
  · refine .inr ⟨hlt, Pv (i + 1), fun σ' H' p' => ⟨n - (i + 1), by omega, rfl, hlt, p'⟩, fun x H' y => ?_⟩
    obtain ⟨e, y⟩ := y
    subst e y
    exact hs i σ _ hlt p
  · have e : i = n := by omega
    subst e
    exact .inl ⟨Nat.le_refl _, hd σ H p⟩
theorem while_by {c : TT} {tb : TS} {D : Ends} {σ : St} {H : Hp} (Pv : St → Hp → Prop) (μ : St → Hp → Nat) (h0 : Pv σ H)
    (hs : ∀ σ H, Pv σ H → c σ H fun b H1 => if b = true then tb { D with nx := fun σ' H' => Pv σ' H' ∧ μ σ' H' < μ σ H, ct := fun σ' H' => Pv σ' H' ∧ μ σ' H' < μ σ H, bk := D.nx } σ H1 else D.nx σ H1)
    (mono : ∀ σ H Q Q', (∀ b H1, Q b H1 → Q' b H1) → c σ H Q → c σ H Q') : tWhile c tb D σ H := by
  refine ⟨fun m σ H => m = μ σ H ∧ Pv σ H, ⟨_, rfl, h0⟩, ?_⟩
  rintro m σ H ⟨rfl, p⟩
  refine mono σ H _ _ (fun b H1 q => ?_) (hs σ H p)
  cases b with
  | true => exact ⟨_, fun σ' H' ⟨p', l⟩ => ⟨_, l, rfl, p'⟩, q⟩
  | false => exact q
end L2
namespace L2
open PySem PySem.Spec PyProof.Rows
abbrev R2 := V → V → Hp → VK → Prop
def OpR (X : Cx) (f : Value → Value → Sem Value) (r : R2) : Prop :=
  ∀ (pins : List (Addr × Obj)) (s : Shared) (σ : St) (H : Hp) (x y : V) (v u : Value) (Q : VK), Inv X pins σ H s → RelV x v → RelV y u → r x y H Q →
    wpAny (model X.prog X.w) X.A (f v u) (EP X pins σ Q) X.xe s
def CallR (X : Cx) (f : Value) (r : List V → Hp → VK → Prop) : Prop :=
  ∀ (pins : List (Addr × Obj)) (s : Shared) (σ : St) (H : Hp) (xs : List V) (us : List Value) (Q : VK), Inv X pins σ H s → Vals xs us → r xs H Q →
    wpAny (model X.prog X.w) X.A (call f us) (EP X pins σ Q) X.xe s
def tOp (r : R2) (ta tb : TE) : TE := fun σ H Q => ta σ H fun x H1 => tb σ H1 fun y H2 => r x y H2 Q
def rI (C : Int → Int → Prop) (g : Int → Int → V) : R2 := fun x y H Q => ∃ i j, x = .int i ∧ y = .int j ∧ C i j ∧ Q (g i j) H
def rI0 (g : Int → Int → V) : R2 := fun x y H Q => ∃ i j, x = .int i ∧ y = .int j ∧ Q (g i j) H
section
variable {X : Cx} {a b c : Expr} {ta tb tc : TE} {pos : Pos}
theorem binT (ha : PE X a ta) (hb : PE X b tb) {pins : List (Addr × Obj)} {s : Shared} {σ : St} {H : Hp} {R : V → V → Hp → Prop} (I : Inv X pins σ H s)
    (h : ta σ H fun x H1 => tb σ H1 fun y H2 => R x y H2) {Q : Value → Shared → Prop} {f : Value → Value → Sem Value}
    (hf : ∀ v u s2 x y H2, Inv X pins σ H2 s2 → RelV x v → RelV y u → R x y H2 → wpAny (model X.prog X.w) X.A (f v u) Q X.xe s2) :
    wpAny (model X.prog X.w) X.A (eval a X.env) (fun v s₁ => wpAny (model X.prog X.w) X.A (eval b X.env) (fun u s₂ => wpAny (model X.prog X.w) X.A (f v u) Q X.xe s₂) X.xe s₁) X.xe s := by
  refine thn (ha pins s σ H _ I h) fun v s1 ⟨x, H1, I1, r1, q1⟩ => ?_
  refine thn (hb pins s1 σ H1 _ I1 q1) fun u s2 ⟨y, H2, I2, r2, q2⟩ => ?_
  exact hf v u s2 x y H2 I2 r1 r2 q2
theorem pe_op {op : Operator} {r : R2} (ho : OpR X (binaryOp op) r) (ha : PE X a ta) (hb : PE X b tb) : PE X (.BinOp a op b pos) (tOp r ta tb) := by
  intro pins s σ H Q I h
  exact wpAny_BinOp (binT ha hb I h fun v u s2 x y H2 I2 rx ry q => ho pins s2 σ H2 x y v u Q I2 rx ry q)
theorem opI {f : Value → Value → Sem Value} {C : Int → Int → Prop} {g : Int → Int → Int}
    (rule : ∀ (i j : Int) (t u : Tok) (s : Shared) (Q : Value → Shared → Prop) (E : Value → Shared → Prop), C i j → Q (.int (g i j) s.toks) { s with toks := s.toks + 1 } → wpAny (model X.prog X.w) X.A (f (.int i t) (.int j u)) Q E s) :
    OpR X f (rI C fun i j => .int (g i j)) := by
  intro pins s σ H x y v u Q I rx ry h
  obtain ⟨i, j, rfl, rfl, hc, q⟩ := h
  obtain ⟨t, rfl⟩ := rx
  obtain ⟨t', rfl⟩ := ry
  exact rule i j t t' s _ _ hc ⟨.int (g i j), H, I.tok _, ⟨_, rfl⟩, q⟩
theorem opI0 {f : Value → Value → Sem Value} {g : Int → Int → Int}
    (rule : ∀ (i j : Int) (t u : Tok) (s : Shared) (Q : Value → Shared → Prop) (E : Value → Shared → Prop), Q (.int (g i j) s.toks) { s with toks := s.toks + 1 } → wpAny (model X.prog X.w) X.A (f (.int i t) (.int j u)) Q E s) :
    OpR X f (rI0 fun i j => .int (g i j)) := by
  intro pins s σ H x y v u Q I rx ry h
  obtain ⟨i, j, rfl, rfl, q⟩ := h
  obtain ⟨t, rfl⟩ := rx
  obtain ⟨t', rfl⟩ := ry
  exact rule i j t t' s _ _ ⟨.int (g i j), H, I.tok _, ⟨_, rfl⟩, q⟩
theorem opB0 {f : Value → Value → Sem Value} {g : Int → Int → Bool}
    (rule : ∀ (i j : Int) (t u : Tok) (s : Shared) (Q : Value → Shared → Prop) (E : Value → Shared → Prop), Q (.bool (g i j)) s → wpAny (model X.prog X.w) X.A (f (.int i t) (.int j u)) Q E s) :
    OpR X f (rI0 fun i j => .bl (g i j)) := by
  intro pins s σ H x y v u Q I rx ry h
  obtain ⟨i, j, rfl, rfl, q⟩ := h
  obtain ⟨t, rfl⟩ := rx
  obtain ⟨t', rfl⟩ := ry
  exact rule i j t t' s _ _ ⟨.bl (g i j), H, I, rfl, q⟩
def CDiv (i j : Int) : Prop := 0 < j ∧ j < 1073741824
def CMul (i j : Int) : Prop := (-(2 ^ 64) < i ∧ i < 2 ^ 64) ∨ (-(2 ^ 64) < j ∧ j < 2 ^ 64)
theorem CMul.ok {i j : Int} (h : CMul i j) : IntMulOk i j := by
  rcases h with ⟨h1, h2⟩ | ⟨h1, h2⟩
  · exact .of_left (intBits_le_64 h1 h2)
  · exact .of_right (intBits_le_64 h1 h2)
theorem op_add : OpR X (binaryOp .Add) (rI0 fun i j => .int (i + j)) := opI0 fun _ _ _ _ _ _ _ q => add_int q
theorem op_sub : OpR X (binaryOp .Sub) (rI0 fun i j => .int (i - j)) := opI0 fun _ _ _ _ _ _ _ q => sub_int q
theorem op_mul : OpR X (binaryOp .Mult) (rI CMul fun i j => .int (i * j)) := opI fun _ _ _ _ _ _ _ hc q => mul_int q hc.ok
theorem op_fdiv : OpR X (binaryOp .FloorDiv) (rI CDiv fun i j => .int (i / j)) := opI fun i j _ _ _ _ _ hc q => by
  have h1 : (0 : Int) < j := hc.1
  have h2 : j < 1073741824 := hc.2
  exact floordiv_int (by omega) (by rw [Int.fdiv_eq_ediv_of_nonneg i (by omega)]; exact q) (.inl (PyProof.noPylong_small (by omega)))
end
def scal : V → V → Bool
  | .non, .non => true | .non, .int _ => true | .int _, .non => true | .non, .bl _ => true | .bl _, .non => true | .non, .str _ => true | .str _, .non => true
  | .int _, .int _ => true | .bl _, .bl _ => true | .str _, .str _ => true | .byt _, .byt _ => true
  | .int _, .str _ => true | .str _, .int _ => true | .bl _, .str _ => true | .str _, .bl _ => true
  | _, _ => false
def rEq : R2 := fun x y H Q => scal x y = true ∧ Q (.bl (decide (x = y))) H
def rNe : R2 := fun x y H Q => scal x y = true ∧ Q (.bl (!decide (x = y))) H
theorem dec_int {i j : Int} : decide (V.int i = V.int j) = (i == j) := by
  rw [Bool.eq_iff_iff]
  simp
theorem dec_bl {i j : Bool} : decide (V.bl i = V.bl j) = (i == j) := by
  rw [Bool.eq_iff_iff]
  simp
theorem dec_str {i j : Str} : decide (V.str i = V.str j) = (i == j) := by
  rw [Bool.eq_iff_iff]
  simp
theorem dec_byt {i j : Array UInt8} : decide (V.byt i = V.byt j) = (i.toList == j.toList) := by
  rw [Bool.eq_iff_iff]
  cases i
  cases j
  simp
section
variable {X : Cx} {a b c : Expr} {ta tb tc : TE} {pos : Pos}
theorem fin_bl {pins : List (Addr × Obj)} {σ : St} {H : Hp} {s : Shared} {Q : VK} {k k' : Bool} (I : Inv X pins σ H s) (q : Q (.bl k) H) (e : k = k') : EP X pins σ Q (.bool k') s := by
  subst e
  exact ⟨.bl k, H, I, rfl, q⟩
theorem op_eq : OpR X (compareOp .Eq) rEq := by
  intro pins s σ H x y v u Q I rx ry h
  obtain ⟨hs, q⟩ := h
  cases x with
  | non =>
    cases rx
    cases y with
    | non => cases ry; exact PySem.EqNone.eq_none_none (fin_bl I q (by simp))
    | bl j => cases ry; exact PySem.EqNone.eq_none_bool (fin_bl I q (by simp))
    | int j => obtain ⟨t', rfl⟩ := ry; exact PySem.EqNone.eq_none_int (fin_bl I q (by simp))
    | str j => obtain ⟨t', rfl⟩ := ry; exact PySem.EqNone.eq_none_str (fin_bl I q (by simp))
    | _ => exact absurd (show false = true from hs) Bool.false_ne_true
  | bl i =>
    cases rx
    cases y with
    | non => cases ry; exact PySem.EqNone.eq_bool_none (fin_bl I q (by simp))
    | bl j => cases ry; exact eq_bool (fin_bl I q dec_bl)
    | str j => obtain ⟨t', rfl⟩ := ry; exact PySem.EqMixed.eq_bool_str (fin_bl I q (by simp))
    | _ => exact absurd (show false = true from hs) Bool.false_ne_true
  | int i =>
    obtain ⟨t, rfl⟩ := rx
    cases y with
    | non => cases ry; exact PySem.EqNone.eq_int_none (fin_bl I q (by simp))
    | int j => obtain ⟨t', rfl⟩ := ry; exact eq_int (fin_bl I q dec_int)
    | str j => obtain ⟨t', rfl⟩ := ry; exact PySem.EqMixed.eq_int_str (fin_bl I q (by simp))
    | _ => exact absurd (show false = true from hs) Bool.false_ne_true
  | str i =>
    obtain ⟨t, rfl⟩ := rx
    cases y with
    | non => cases ry; exact PySem.EqNone.eq_str_none (fin_bl I q (by simp))
    | bl j => cases ry; exact PySem.EqMixed.eq_str_bool (fin_bl I q (by simp))
    | int j => obtain ⟨t', rfl⟩ := ry; exact PySem.EqMixed.eq_str_int (fin_bl I q (by simp))
    | str j => obtain ⟨t', rfl⟩ := ry; exact eq_str (fin_bl I q dec_str)
    | _ => exact absurd (show false = true from hs) Bool.false_ne_true
  | byt i =>
    obtain ⟨t, rfl⟩ := rx
    cases y with
    | byt j => obtain ⟨t', rfl⟩ := ry; exact PySem.W.eq_bytes (fin_bl I q dec_byt)
    | _ => exact absurd (show false = true from hs) Bool.false_ne_true
  | _ => cases y <;> exact absurd (show false = true from hs) Bool.false_ne_true
theorem op_ne : OpR X (compareOp .NotEq) rNe := by
  intro pins s σ H x y v u Q I rx ry h
  obtain ⟨hs, q⟩ := h
  cases x with
  | non =>
    cases rx
    cases y with
    | non => cases ry; exact PySem.EqNone.ne_none_none (fin_bl I q (by simp))
    | bl j => cases ry; exact PySem.EqNone.ne_none_bool (fin_bl I q (by simp))
    | int j => obtain ⟨t', rfl⟩ := ry; exact PySem.EqNone.ne_none_int (fin_bl I q (by simp))
    | str j => obtain ⟨t', rfl⟩ := ry; exact PySem.EqNone.ne_none_str (fin_bl I q (by simp))
    | _ => exact absurd (show false = true from hs) Bool.false_ne_true
  | bl i =>
    cases rx
    cases y with
    | non => cases ry; exact PySem.EqNone.ne_bool_none (fin_bl I q (by simp))
    | bl j => cases ry; exact ne_bool (fin_bl I q (congrArg not dec_bl))
    | str j => obtain ⟨t', rfl⟩ := ry; exact PySem.EqMixed.ne_bool_str (fin_bl I q (by simp))
    | _ => exact absurd (show false = true from hs) Bool.false_ne_true
  | int i =>
    obtain ⟨t, rfl⟩ := rx
    cases y with
    | non => cases ry; exact PySem.EqNone.ne_int_none (fin_bl I q (by simp))
    | int j => obtain ⟨t', rfl⟩ := ry; exact ne_int (fin_bl I q (congrArg not dec_int))
    | str j => obtain ⟨t', rfl⟩ := ry; exact PySem.EqMixed.ne_int_str (fin_bl I q (by simp))
    | _ => exact absurd (show false = true from hs) Bool.false_ne_true
  | str i =>
    obtain ⟨t, rfl⟩ := rx
    cases y with
    | non => cases ry; exact PySem.EqNone.ne_str_none (fin_bl I q (by simp))
    | bl j => cases ry; exact PySem.EqMixed.ne_str_bool (fin_bl I q (by simp))
    | int j => obtain ⟨t', rfl⟩ := ry; exact PySem.EqMixed.ne_str_int (fin_bl I q (by simp))
    | str j => obtain ⟨t', rfl⟩ := ry; exact ne_str (fin_bl I q (congrArg not dec_str))
    | _ => exact absurd (show false = true from hs) Bool.false_ne_true
  | byt i =>
    obtain ⟨t, rfl⟩ := rx
    cases y with
    | byt j => obtain ⟨t', rfl⟩ := ry; exact PySem.W.ne_bytes (fin_bl I q (congrArg not dec_byt))
    | _ => exact absurd (show false = true from hs) Bool.false_ne_true
  | _ => cases y <;> exact absurd (show false = true from hs) Bool.false_ne_true
theorem op_lt : OpR X (compareOp .Lt) (rI0 fun i j => .bl (decide (i < j))) := opB0 fun _ _ _ _ _ _ _ q => lt_int q
theorem op_le : OpR X (compareOp .LtE) (rI0 fun i j => .bl (decide (i ≤ j))) := opB0 fun _ _ _ _ _ _ _ q => le_int q
theorem op_gt : OpR X (compareOp .Gt) (rI0 fun i j => .bl (decide (j < i))) := opB0 fun _ _ _ _ _ _ _ q => gt_int q
theorem op_ge : OpR X (compareOp .GtE) (rI0 fun i j => .bl (decide (j ≤ i))) := opB0 fun _ _ _ _ _ _ _ q => ge_int q
theorem OpR.or {f : Value → Value → Sem Value} {r r' : R2} (h : OpR X f r) (h' : OpR X f r') : OpR X f (fun x y H Q => r x y H Q ∨ r' x y H Q) := by
  intro pins s σ H x y v u Q I rx ry q
  rcases q with q | q
  · exact h pins s σ H x y v u Q I rx ry q
  · exact h' pins s σ H x y v u Q I rx ry q
theorem nomark (b : Expr) {op : CmpOp} (h : op ≠ .In := by decide) (h2 : op ≠ .NotIn := by decide) : behindInMarks op b = false := by
  have e1 : (op == CmpOp.In) = false := by cases op <;> first | rfl | exact absurd rfl h
  have e2 : (op == CmpOp.NotIn) = false := by cases op <;> first | rfl | exact absurd rfl h2
  cases b <;> simp [behindInMarks, e1, e2]
theorem pe_cmpR {op : CmpOp} {r : R2} (ho : OpR X (compareOp op) r) (ha : PE X a ta) (hb : PE X b tb) (hm : behindInMarks op b = false) : PE X (.Compare a [op] [b] pos) (tOp r ta tb) := by
  intro pins s σ H Q I h
  exact wpAny_Compare1 (binT ha hb I h fun v u s2 x y H2 I2 rx ry q => ho pins s2 σ H2 x y v u Q I2 rx ry q) hm
def tTest (t : TE) : TT := fun σ H Q => t σ H fun x H' => ∃ k, x = .bl k ∧ Q k H'
theorem pt_cmpR {op : CmpOp} {r : R2} (ho : OpR X (compareOp op) r) (ha : PE X a ta) (hb : PE X b tb) (hm : behindInMarks op b = false) : PT X (.Compare a [op] [b] pos) (tTest (tOp r ta tb)) := by
  intro pins s σ H Q I h
  refine wpAny_isTrue_Compare1 (thn (ha pins s σ H _ I h) fun v s1 ⟨x, H1, I1, r1, q1⟩ => thn (hb pins s1 σ H1 _ I1 q1) fun u s2 ⟨y, H2, I2, r2, q2⟩ =>
    thn (ho pins s2 σ H2 x y v u _ I2 r1 r2 q2) fun c s3 ⟨z, H3, I3, r3, k, e, q3⟩ => ?_) hm
  subst e
  cases r3
  exact wpAny_truthy_bool ⟨H3, I3, q3⟩
def tChain (r r' : R2) (ta tb tc : TE) : TE := fun σ H Q => ta σ H fun x H1 => tb σ H1 fun y H2 => r x y H2 fun z H3 => ∃ k, z = .bl k ∧
  (if k = true then tc σ H3 fun w' H4 => r' y w' H4 Q else Q (.bl false) H3)
theorem pe_chain {op op' : CmpOp} {r r' : R2} (ho : OpR X (compareOp op) r) (ho' : OpR X (compareOp op') r') (ha : PE X a ta) (hb : PE X b tb) (hc : PE X c tc)
    (hm : lastMarks [op, op'] [b, c] = false := by with_unfolding_all rfl) : PE X (.Compare a [op, op'] [b, c] pos) (tChain r r' ta tb tc) := by
  intro pins s σ H Q I h
  refine Compare_chain (thn (ha pins s σ H _ I h) fun v s1 ⟨x, H1, I1, r1, q1⟩ => chain_link (thn (hb pins s1 σ H1 _ I1 q1) fun u s2 ⟨y, H2, I2, r2, q2⟩ =>
    thn (ho pins s2 σ H2 x y v u _ I2 r1 r2 q2) fun d s3 ⟨z, H3, I3, r3, k, e, q3⟩ => ?_)) hm
  subst e
  cases r3
  refine wpAny_truthy_bool ?_
  cases k with
  | false => exact ite_ff ⟨.bl false, H3, I3, rfl, q3⟩
  | true => exact ite_tt (chain_last (thn (hc pins s3 σ H3 _ I3 q3) fun w' s4 ⟨z', H4, I4, r4, q4⟩ => ho' pins s4 σ H4 y z' u w' Q I4 r2 r4 q4))
theorem line63 : (sizeLine : Nat) < 2 ^ 63 := by rw [sizeLine_eq]; decide
theorem vals1 {x : V} {us : List Value} (r : Vals [x] us) : ∃ u, us = [u] ∧ RelV x u := by
  cases r with
  | cons r1 r2 => cases r2; exact ⟨_, rfl, r1⟩
theorem vals2 {x y : V} {us : List Value} (r : Vals [x, y] us) : ∃ u w', us = [u, w'] ∧ RelV x u ∧ RelV y w' := by
  cases r with
  | cons r1 r2 =>
    cases r2 with
    | cons r3 r4 => cases r4; exact ⟨_, _, rfl, r1, r3⟩
theorem call_max2 (hc : X.calm = true) : CallR X (.builtin "max") (fun xs H Q => ∃ i j, xs = [.int i, .int j] ∧ Q (.int (if j > i then j else i)) H) := by
  intro pins s σ H xs us Q I r h
  obtain ⟨i, j, rfl, q⟩ := h
  obtain ⟨u, w', rfl, ⟨t, rfl⟩, ⟨t', rfl⟩⟩ := vals2 r
  refine max_two_ints (I.ok.hd hc) fun h' tk k => ⟨_, H, I.kept k, ?_, q⟩
  by_cases hj : j > i
  · rw [if_pos hj, if_pos hj]; exact ⟨_, rfl⟩
  · rw [if_neg hj, if_neg hj]; exact ⟨_, rfl⟩
theorem call_min2 (hc : X.calm = true) : CallR X (.builtin "min") (fun xs H Q => ∃ i j, xs = [.int i, .int j] ∧ Q (.int (if j < i then j else i)) H) := by
  intro pins s σ H xs us Q I r h
  obtain ⟨i, j, rfl, q⟩ := h
  obtain ⟨u, w', rfl, ⟨t, rfl⟩, ⟨t', rfl⟩⟩ := vals2 r
  refine min_two_ints (I.ok.hd hc) fun h' tk k => ⟨_, H, I.kept k, ?_, q⟩
  by_cases hj : j < i
  · rw [if_pos hj, if_pos hj]; exact ⟨_, rfl⟩
  · rw [if_neg hj, if_neg hj]; exact ⟨_, rfl⟩
end
end L2
namespace L2
open PySem PySem.Spec PyProof.Rows
structure ObjM (h : Heap) (x dx C : Addr) (mA : Str → Option Value) : Prop where
  obj : h.get? x = some (PySem.W.instObj C dx)
  ns : h.Ns1 dx mA
  ne : dx ≠ x
theorem lookIn_ns {h : Heap} {dx : Addr} {mA : Str → Option Value} (n : h.Ns1 dx mA) : ∃ od, h.get? dx = some od ∧ ∀ name, PySem.W.lookIn name od = some (mA name) := by
  obtain ⟨o, es, ep, ho, hd, hk, _, hm⟩ := n
  refine ⟨o, ho, fun name => ?_⟩
  have e := hm name
  unfold nsFind findBy at e
  rw [← Array.find?_toList] at e
  unfold PySem.W.lookIn
  rw [hd]
  dsimp only
  split
  · rename_i y q
    rw [q] at e
    exact congrArg some e
  · rename_i q
    rw [q] at e
    have a : es.toList.any (·.refKey) = false := by
      rw [List.any_eq_false]
      intro y hy
      obtain ⟨z, t, hkey⟩ := hk y (Array.mem_toList_iff.mp hy)
      simp [DictEntry.refKey, hkey]
    have a' : ¬ es.toList.any (·.refKey) = true := by rw [a]; exact Bool.false_ne_true
    rw [if_neg a']
    exact congrArg some e
theorem ObjM.look {h : Heap} {x dx C : Addr} {mA : Str → Option Value} (I : ObjM h x dx C mA) : ∃ od, PySem.W.InstAt h x (PySem.W.instObj C dx) C (some od) ∧ ∀ name, PySem.W.lookIn name od = some (mA name) :=
  let ⟨od, ho, hl⟩ := lookIn_ns I.ns
  ⟨od, ⟨I.obj, rfl, rfl, ho⟩, hl⟩
section
variable {prog : Program} {w : World} {A : Around} {E : Value → Shared → Prop} {s : Shared} {K : PySem.W.Frag} {x dx C f : Addr} {mA : Str → Option Value} {name : Str} {v : Value}
theorem get_map {expr : Bool} {Q : Value → Shared → Prop} (X : K.In s.heap) (I : ObjM s.heap x dx C mA) (hg : PySem.W.plainGet K C name = true) (hh : PySem.W.hasDictIn K C = true)
    (ha : PySem.W.findIn K (.ref C) name = some none) (hv : mA name = some v) (hv' : PySem.W.handedIn v = true) (h : Q v { s with toks := s.toks + 1 }) :
    wpAny (model prog w) A (getAttr (.ref x) name expr) Q E s := by
  obtain ⟨od, J, hl⟩ := I.look
  exact PySem.W.get_value X J (PySem.W.plainGet_of hg).1 (PySem.W.findObj_own hh ha rfl (by rw [hl, hv])) hv' h
theorem get_meth {pl : Sem Bool} {Q : Value × List Value → Shared → Prop} (X : K.In s.heap) (I : ObjM s.heap x dx C mA) (hg : PySem.W.plainGet K C name = true)
    (hf : PySem.W.findIn K (.ref C) name = some (some (.ref f))) (ht : PySem.W.isFn K (.ref f) = true) (hv : mA name = none) (h : Q (.ref f, [.ref x]) s) :
    wpAny (model prog w) A (getMethod (.ref x) name pl) Q E s := by
  obtain ⟨od, J, hl⟩ := I.look
  exact PySem.W.method_fn X J (PySem.W.plainGet_of hg).1 (PySem.W.plainGet_of hg).2 hf (beq_iff_eq.mp ht) (by show (PySem.W.lookIn name od).map (·.isSome) = some false; rw [hl, hv]; rfl) h
theorem set_map {ns : List Str} {Q : Unit → Shared → Prop} (X : K.In s.heap) (I : ObjM s.heap x dx C mA)
    (hs : PySem.W.findIn K (.ref C) "__setattr__" = some (some (.builtin "object.__setattr__"))) (hp : PySem.W.plainOver K C = true) (ht : PySem.W.takerIn K C name = some none) (hh : PySem.W.hasDictIn K C = true)
    (hw : PySem.Within mA ns) (hsz : ns.length ≤ sizeLine)
    (h : ∀ h', ObjM h' x dx C (fun y => if y = name then some v else mA y) → Heap.SameBut dx s.heap h' → Q () { s with heap := h', toks := s.toks + 2 }) :
    wpAny (model prog w) A (setAttr (.ref x) name v) Q E s := by
  obtain ⟨od, J, hl⟩ := I.look
  refine PySem.W.set_plain X J hs (PySem.W.osa_open (s := { s with toks := s.toks + 1 }) (r := none) X J hp ht fun b => ?_)
  obtain ⟨cd, hc, hd'⟩ := PySem.W.any_some hh
  have hx : s.heap.get? x = some ⟨.ref C, some dx, .plain, #[]⟩ := I.obj
  refine wpAny_bind (wpAny_pure (wpAny_bind (wpAny_bind (wpAny_loadPart hx (wpAny_bind (PySem.W.Looks.here (s := { s with toks := s.toks + 1 }) (PySem.W.looks_clsIn X hc) ?_))))))
  rw [hd']
  refine wpAny_pure (a := some dx) (wpAny_bind (wpAny_pure (wpAny_bind ?_)))
  refine wpAny_nsSet1 (s := { s with toks := s.toks + 1 }) I.ns fun h' hn2 hs2 => ?_
  obtain ⟨oD, esD, epD, hoD, hdD, hcD⟩ := hn2.count (PySem.Within.cons name v hw)
  refine wpAny_bind (wpAny_lookBehind hoD (by rw [hdD]; exact pastItsLine_dict (Nat.le_trans hcD (by rw [List.length_cons]; omega))) ?_)
  exact wpAny_pure (h _ ⟨(hs2.2 _ (Ne.symm I.ne)).trans I.obj, hn2, I.ne⟩ hs2)
theorem make_map {R : Result → Shared → Prop} {vs : List Value} {kw : List (Str × Value)} (X : K.In s.heap) (hm : PySem.W.makesIn K C = true)
    (hi : PySem.W.findIn K (.ref C) "__init__" = some (some (.ref f))) (hf : PySem.W.typeIn K (.ref f) = some (.type "function"))
    (h : codeAny (model prog w) (A.under (.builtin "type.__call__" ⟨.ref C :: vs, kw⟩)) (.call (.ref f) ⟨.ref (s.heap.objs.size + 1) :: vs, kw⟩) (PySem.W.InitBack (s.heap.objs.size + 1) R)
      { s with heap := (s.heap.push PySem.W.emptyDict).push (PySem.W.instObj C s.heap.objs.size) }) :
    codeAny (model prog w) A (.call (.ref C) ⟨vs, kw⟩) R s := by
  obtain ⟨hh, g, d, t, os⟩ := s
  exact PySem.W.make_core (PySem.W.makes_of X hm) (PySem.W.looks_findIn X hi) (fun self => PySem.W.bind_fn X self hf) (.inl rfl) h
end
def putF (f : Str) (v : V) : List (Str × V) → List (Str × V)
  | [] => [(f, v)]
  | (g, x) :: r => if g = f then (g, v) :: r else (g, x) :: putF f v r
theorem lookup_putF (f g : Str) (v : V) : ∀ fs : List (Str × V), (putF f v fs).lookup g = if g = f then some v else fs.lookup g
  | [] => by
    show List.lookup g [(f, v)] = _
    by_cases h : g = f
    · have hb : (g == f) = true := beq_iff_eq.mpr h
      simp only [List.lookup, hb, if_pos h]
    · have hb : (g == f) = false := beq_eq_false_iff_ne.mpr h
      simp only [List.lookup, hb, if_neg h]
  | (k, x) :: r => by
    have ih := lookup_putF f g v r
    rw [show putF f v ((k, x) :: r) = (if k = f then (k, v) :: r else (k, x) :: putF f v r) from rfl]
    by_cases hk : k = f
    · rw [if_pos hk]
      by_cases h : g = k
      · have hb : (g == k) = true := beq_iff_eq.mpr h
        simp only [List.lookup, hb, if_pos (h.trans hk)]
      · have hb : (g == k) = false := beq_eq_false_iff_ne.mpr h
        simp only [List.lookup, hb, if_neg (fun e : g = f => h (e.trans hk.symm))]
    · rw [if_neg hk]
      by_cases h : g = k
      · have hb : (g == k) = true := beq_iff_eq.mpr h
        simp only [List.lookup, hb, if_neg (fun e : g = f => hk (h.symm.trans e))]
      · have hb : (g == k) = false := beq_eq_false_iff_ne.mpr h
        simp only [List.lookup, hb]
        exact ih
theorem keys_putF (f : Str) (v : V) : ∀ fs : List (Str × V), f ∈ (putF f v fs).map (·.1) ∧ ∀ g, g ∈ fs.map (·.1) → g ∈ (putF f v fs).map (·.1)
  | [] => ⟨by simp [putF], fun g h => by simp at h⟩
  | (k, x) :: r => by
    obtain ⟨i1, i2⟩ := keys_putF f v r
    rw [show putF f v ((k, x) :: r) = (if k = f then (k, v) :: r else (k, x) :: putF f v r) from rfl]
    by_cases hk : k = f
    · rw [if_pos hk]
      subst hk
      exact ⟨by simp, fun g h => by simpa using h⟩
    · rw [if_neg hk]
      refine ⟨?_, fun g h => ?_⟩
      · rw [List.map_cons]
        exact List.mem_cons_of_mem _ i1
      · rw [List.map_cons] at h ⊢
        rcases List.mem_cons.mp h with e | e
        · exact List.mem_cons.mpr (.inl e)
        · exact List.mem_cons_of_mem _ (i2 g e)
theorem length_putF (f : Str) (v : V) : ∀ fs : List (Str × V), (putF f v fs).length ≤ fs.length + 1
  | [] => by simp [putF]
  | (k, x) :: r => by
    have ih := length_putF f v r
    rw [show putF f v ((k, x) :: r) = (if k = f then (k, v) :: r else (k, x) :: putF f v r) from rfl]
    by_cases hk : k = f
    · rw [if_pos hk, List.length_cons, List.length_cons]; omega
    · rw [if_neg hk, List.length_cons, List.length_cons]; omega
theorem RelO.some_of {v : V} {o : Option Value} (r : RelO (some v) o) : ∃ u, o = some u ∧ RelV v u := by
  cases o with
  | none => exact (show False from r).elim
  | some u => exact ⟨u, rfl, r⟩
theorem RelO.none_of {o : Option Value} (r : RelO none o) : o = none := by
  cases o with
  | none => rfl
  | some u => exact (show False from r).elim
theorem handed_of {v : V} {u : Value} (r : RelV v u) : PySem.W.handedIn u = true := by
  cases v with
  | non => cases (show u = Value.none from r); rfl
  | bl b => cases (show u = Value.bool b from r); rfl
  | int i => obtain ⟨t, e⟩ := (show ∃ t, u = Value.int i t from r); cases e; rfl
  | str x => obtain ⟨t, e⟩ := (show ∃ t, u = Value.str x t from r); cases e; rfl
  | byt b => obtain ⟨t, e⟩ := (show ∃ t, u = Value.bytes b t from r); cases e; rfl
  | flt b => obtain ⟨t, e⟩ := (show ∃ t, u = Value.float b t from r); cases e; rfl
  | ref a => cases (show u = Value.ref a from r); rfl
  | ty n => cases (show u = Value.type n from r); rfl
section
variable {P : Program} {w : World} {H H' : Hp} {h h' : Heap} {a C dx : Addr} {fs fs' : List (Str × V)}
theorem ins_get (hok : HOk P w H h) (e : H a = some (.ins C dx fs)) : ∃ mA, ObjM h a dx C mA ∧ (∀ f, RelO (fs.lookup f) (mA f)) ∧ PySem.Within mA (fs.map (·.1)) ∧ fs.length ≤ 1000 ∧ H dx = some (.own a) := by
  obtain ⟨d, z, ne, ob, mA, n, r, q⟩ := (show ObjOk P w H h a (.ins C dx fs) from hok a _ e)
  exact ⟨mA, ⟨ob, n, ne⟩, r, q, z, d⟩
end
structure Cls (K : PySem.W.Frag) (C : Addr) : Prop where
  pg : PySem.W.plainGet K C Str.empty = true
  hd : PySem.W.hasDictIn K C = true
  po : PySem.W.plainOver K C = true
  sa : PySem.W.findIn K (.ref C) "__setattr__" = some (some (.builtin "object.__setattr__"))
theorem Cls.get {K : PySem.W.Frag} {C : Addr} (c : Cls K C) (f : Str) : PySem.W.plainGet K C f = true := c.pg
def NoAttr (K : PySem.W.Frag) (C : Addr) (f : Str) : Prop := PySem.W.findIn K (.ref C) f = some none
theorem NoAttr.taker {K : PySem.W.Frag} {C : Addr} {f : Str} (n : NoAttr K C f) : PySem.W.takerIn K C f = some none := by
  unfold PySem.W.takerIn
  rw [show PySem.W.findIn K (.ref C) f = some none from n]
  rfl
structure Meth (K : PySem.W.Frag) (C : Addr) (m : Str) (f : Addr) : Prop where
  at_ : PySem.W.findIn K (.ref C) m = some (some (.ref f))
  fn : PySem.W.isFn K (.ref f) = true
  kp : PySem.W.keepIn K (.ref f) = true
section
variable {X : Cx} {pins : List (Addr × Obj)} {σ : St} {H : Hp} {s : Shared} {a C dx : Addr} {fs : List (Str × V)} {f : Str} {v : V} {A : Around} {E : Value → Shared → Prop}
theorem getattr_ok {b : Bool} {Q : Value → Shared → Prop} (I : Inv X pins σ H s) (e : H a = some (.ins C dx fs)) (c : Cls X.K C) (n : NoAttr X.K C f) (l : fs.lookup f = some v)
    (h : ∀ u s', Inv X pins σ H s' → RelV v u → Q u s') : wpAny (model X.prog X.w) A (getAttr (.ref a) f b) Q E s := by
  obtain ⟨mA, O, r, _, _, _⟩ := ins_get I.hok e
  obtain ⟨u, hu, ru⟩ := RelO.some_of (v := v) (o := mA f) (by rw [← l]; exact r f)
  exact get_map I.kIn O (c.get f) c.hd n hu (handed_of ru) (h u _ (I.tok _) ru)
theorem getmeth_ok {m : Str} {g : Addr} {pl : Sem Bool} {Q : Value × List Value → Shared → Prop} (I : Inv X pins σ H s) (e : H a = some (.ins C dx fs)) (c : Cls X.K C) (k : Meth X.K C m g) (l : fs.lookup m = none)
    (h : Q (.ref g, [.ref a]) s) : wpAny (model X.prog X.w) A (getMethod (.ref a) m pl) Q E s := by
  obtain ⟨mA, O, r, _, _, _⟩ := ins_get I.hok e
  have hn : mA m = none := RelO.none_of (by rw [← l]; exact r m)
  exact get_meth I.kIn O (c.get m) k.at_ k.fn hn h
theorem setattr_ok {y : V} {u : Value} {Q : Unit → Shared → Prop} (I : Inv X pins σ H s) (e : H a = some (.ins C dx fs)) (c : Cls X.K C) (n : NoAttr X.K C f) (hl : fs.length < 1000) (ry : RelV y u)
    (h : ∀ s', Inv X pins σ (upd H a (.ins C dx (putF f y fs))) s' → Q () s') : wpAny (model X.prog X.w) A (setAttr (.ref a) f u) Q E s := by
  obtain ⟨mA, O, r, wi, _, ho⟩ := ins_get I.hok e
  have hz : (fs.map (·.1)).length ≤ sizeLine := by rw [List.length_map, sizeLine_eq]; omega
  refine set_map I.kIn O c.sa c.po n.taker c.hd wi hz fun h' O' sb => h _ ?_
  have hd : ∃ o, h'.get? dx = some o := let ⟨o, _, _, e', _⟩ := O'.ns; ⟨o, e'⟩
  refine I.write (x := a) (e := dx) (by rw [e]; exact True.intro) (.inr ho) (fun b q hb z => (sb.2 b hb).trans z) hd ?_
  refine ⟨by rw [upd_ne O.ne]; exact ho, ?_, O.ne, O'.obj, _, O'.ns, fun g => ?_, fun g hg => ?_⟩
  · have := length_putF f y fs; omega
  · show RelO ((putF f y fs).lookup g) (if g = f then some u else mA g)
    rw [lookup_putF]
    by_cases q : g = f
    · rw [if_pos q, if_pos q]; exact ry
    · rw [if_neg q, if_neg q]; exact r g
  · by_cases q : g = f
    · rw [q]; exact (keys_putF f y fs).1
    · refine (keys_putF f y fs).2 g (wi g fun z => hg ?_)
      show (if g = f then some u else mA g) = none
      rw [if_neg q]; exact z
theorem Inv.made (I : Inv X pins σ H s) : Inv X pins σ (upd (upd H s.heap.objs.size (.own (s.heap.objs.size + 1))) (s.heap.objs.size + 1) (.ins C s.heap.objs.size []))
    { s with heap := (s.heap.push PySem.W.emptyDict).push (PySem.W.instObj C s.heap.objs.size) } := by
  have e1 : (s.heap.push PySem.W.emptyDict).get? s.heap.objs.size = some PySem.W.emptyDict := Heap.get?_push_size s.heap rfl
  have e2 : ((s.heap.push PySem.W.emptyDict).push (PySem.W.instObj C s.heap.objs.size)).get? (s.heap.objs.size + 1) = some (PySem.W.instObj C s.heap.objs.size) := by
    have := Heap.get?_push_size (s.heap.push PySem.W.emptyDict) (o := PySem.W.instObj C s.heap.objs.size) rfl
    rwa [Heap.size_push] at this
  have e3 : (s.heap.push PySem.W.emptyDict).Ns s.heap.objs.size (fun _ => none) := ⟨PySem.W.emptyDict, #[], _, e1, rfl, (fun e he => absurd he (by simp)), fun _ => rfl⟩
  have I1 := I.laid (a := s.heap.objs.size) (o := .own (s.heap.objs.size + 1)) (h' := s.heap.push PySem.W.emptyDict) (t' := s.toks) (fun b u q => Heap.get?_push_of_some _ q) (Nat.le_refl _) ⟨_, e1⟩
  refine I1.laid (a := s.heap.objs.size + 1) (o := .ins C s.heap.objs.size []) (t' := s.toks) (fun b u q => Heap.get?_push_of_some _ q) (Nat.le_of_eq (Heap.size_push _ _)) ?_
  have ne : s.heap.objs.size ≠ s.heap.objs.size + 1 := Nat.ne_of_lt (Nat.lt_succ_self _)
  refine ⟨by rw [upd_ne ne, upd_same], Nat.zero_le _, ne, e2, fun _ => none, (Heap.Ns1.of_empty e3).at fun o q => Heap.get?_push_of_some _ q, fun _ => True.intro, fun y hy => absurd rfl hy⟩
theorem attr_of {prog : Program} {w : World} {env : Env} {e : Expr} {f : Str} {pos : Pos} {s : Shared} {Q : Value → Shared → Prop} (hb : attributeBase e f env (eval e env) = eval e env)
    (h : wpAny (model prog w) A (eval e env) (fun o s₁ => wpAny (model prog w) A (getAttr o f true) Q E s₁) E s) : wpAny (model prog w) A (eval (.Attribute e f pos) env) Q E s :=
  Attribute_any_ h (by rw [arm_eval_Attribute, hb])
end
def tFld (K : PySem.W.Frag) (ta : TE) (f : Str) : TE := fun σ H Q => ta σ H fun x H1 => ∃ a C dx fs v, x = .ref a ∧ H1 a = some (.ins C dx fs) ∧ Cls K C ∧ NoAttr K C f ∧ fs.lookup f = some v ∧ Q v H1
def sFld (K : PySem.W.Frag) (ta tv : TE) (f : Str) : TS := fun D σ H => tv σ H fun y H1 => ta σ H1 fun x H2 => ∃ a C dx fs, x = .ref a ∧ H2 a = some (.ins C dx fs) ∧ Cls K C ∧ NoAttr K C f ∧ fs.length < 1000 ∧
  D.nx σ (upd H2 a (.ins C dx (putF f y fs)))
section
variable {X : Cx} {o e value : Expr} {f : Str} {pos pos' tpos : Pos} {ta tv : TE}
theorem pe_fld (he : PE X e ta) (hb : attributeBase e f X.env (eval e X.env) = eval e X.env) : PE X (.Attribute e f pos) (tFld X.K ta f) := by
  intro pins s σ H Q I h
  refine attr_of hb (thn (he pins s σ H _ I h) fun u s1 ⟨x, H1, I1, rx, a, C, dx, fs, v, ex, ea, c, n, l, q⟩ => ?_)
  subst ex
  obtain rfl : u = Value.ref a := rx
  exact getattr_ok I1 ea c n l fun u' s2 I2 ru => ⟨v, H1, I2, ru, q⟩
theorem ps_fld (ha : PE X o ta) (hv : PE X value tv) (hs : swapsWith value (some (.Attribute o f pos')) pos.line X.env = pure false) : PS X (.Assign [.Attribute o f pos'] value pos) (sFld X.K ta tv f) := by
  intro pins s σ H D I h
  refine plainObj_wpAny_Assign_Attribute (thn (hv pins s σ H _ I h) fun u s1 ⟨y, H1, I1, ry, q⟩ => thn (ha pins s1 σ H1 _ I1 q) fun ov s2 ⟨x, H2, I2, rx, a, C, dx, fs, ex, ea, c, n, l, q2⟩ => ?_) hs
  subst ex
  obtain rfl : ov = Value.ref a := rx
  exact setattr_ok I2 ea c n l ry fun s3 I3 => ⟨σ, _, I3, q2⟩
end
section
variable {X : Cx} {pins : List (Addr × Obj)} {σ : St} {H : Hp} {s : Shared} {A : Around} {E : Value → Shared → Prop} {Q : Value → Shared → Prop} {c : Value} {b : Bool}
end
end L2
namespace L2
open PySem PySem.Spec PyProof.Rows
structure Room (k : Nat) (A : Around) : Prop where
  hd : A.handled = none
  dp : A.depth + 3 * k + 5 < recursionLimit
  un : A.units + 16 * k + 200 < cLine
theorem Room.mono {j k : Nat} {A : Around} (r : Room k A) (h : j ≤ k) : Room j A := ⟨r.hd, by have := r.dp; omega, by have := r.un; omega⟩
theorem Room.deeper {k : Nat} {A : Around} (r : Room (k + 1) A) (env : Env) : Room k (A.deeper env) :=
  ⟨r.hd, by have := r.dp; show A.depth + 1 + 3 * k + 5 < _; omega, by have := r.un; show A.units + 3 + 16 * k + 200 < _; omega⟩
theorem Room.in1 {k : Nat} {A : Around} (r : Room (k + 1) A) : Room k A.in1 :=
  ⟨r.hd, by have := r.dp; show A.depth + 3 * k + 5 < _; omega, by have := r.un; show A.units + 1 + 16 * k + 200 < _; omega⟩
theorem make_depth {A : Around} {C : Addr} {us : List Value} {kw : List (Str × Value)} : (A.under (.builtin "type.__call__" ⟨.ref C :: us, kw⟩)).depth = A.depth + 1 := by
  first | rfl | simp [Around.under, Code.weight, Code.isCreation, Code.isGuard, Code.isCaller, Code.frames, Code.isFrame, guardIds]
theorem make_units {A : Around} {C : Addr} {us : List Value} {kw : List (Str × Value)} : (A.under (.builtin "type.__call__" ⟨.ref C :: us, kw⟩)).units = A.units + 1 := by
  first | rfl | simp [Around.under, Code.cUnits, Code.frames, Code.isFrame]
theorem Room.make {k : Nat} {A : Around} (r : Room (k + 1) A) (C : Addr) (us : List Value) (kw : List (Str × Value)) : Room k (A.under (.builtin "type.__call__" ⟨.ref C :: us, kw⟩)) :=
  ⟨r.hd, by have := r.dp; rw [make_depth]; omega, by have := r.un; rw [make_units]; omega⟩
theorem Room.depth {k : Nat} {A : Around} (r : Room k A) : A.depth < recursionLimit := by have := r.dp; omega
theorem Room.units {k : Nat} {A : Around} (r : Room k A) : A.units + 64 < cLine := by have := r.un; omega
def tNil : TA := fun _ H Q => Q [] H
def tCons (ta : TE) (tr : TA) : TA := fun σ H Q => ta σ H fun x H1 => tr σ H1 fun xs H2 => Q (x :: xs) H2
section
variable {X : Cx} {e : Expr} {es : List Expr} {te : TE} {t : TA} {pos : Pos}
theorem pa_nil : PA X [] tNil := fun _ _ _ _ H Q I h => Calls.spliced_nil ⟨[], H, I, .nil, h⟩
theorem pa_cons (ha : PE X e te) (hr : PA X es t) (hs : starEach (e :: es) X.env = (false, eval e X.env) :: starEach es X.env := by rfl) : PA X (e :: es) (tCons te t) := by
  intro pos pins s σ H Q I h
  rw [hs]
  show wpAny _ _ (spliced ((false, eval e X.env) :: backTo pos (starEach es X.env))) _ _ s
  refine Calls.spliced_cons (thn (ha pins s σ H _ I h) fun u s1 ⟨x, H1, I1, r1, q1⟩ => ?_)
  exact thn (hr pos pins s1 σ H1 _ I1 q1) fun us s2 ⟨xs, H2, I2, r2, q2⟩ => ⟨x :: xs, H2, I2, .cons r1 r2, q2⟩
def tTup (t : TA) : TE := fun σ H Q => t σ H fun xs H1 => xs.length ≤ sizeLine ∧ ∀ p, H1 p = none → Q (.ref p) (upd H1 p (.tup xs))
def tLst (t : TA) : TE := fun σ H Q => t σ H fun xs H1 => xs.length ≤ sizeLine ∧ ∀ p, H1 p = none → Q (.ref p) (upd H1 p (.lst xs))
theorem pe_tup {x1} (h : PA X es t) : PE X (.Tuple es x1 pos) (tTup t) := by
  intro pins s σ H Q I hq
  refine wpAny_Tuple_spliced (thn (h pos pins s σ H _ I hq) fun us s1 ⟨xs, H1, I1, r, z, q⟩ => ⟨by rw [← r.length]; exact z, ?_⟩)
  have hf : H1 s1.heap.objs.size = none := I1.hok.fresh (Nat.le_refl _)
  refine ⟨.ref s1.heap.objs.size, upd H1 s1.heap.objs.size (.tup xs), I1.laid (t' := s1.toks) (fun b u e => Heap.get?_push_of_some _ e) (Nat.le_refl _) ?_, rfl, q _ hf⟩
  exact ⟨z, us, r, ⟨_, Heap.get?_push_size _ rfl, rfl, _, rfl⟩⟩
theorem pe_lst (h : PA X es t) : PE X (.List es pos) (tLst t) := by
  intro pins s σ H Q I hq
  refine wpAny_List_spliced (thn (h pos pins s σ H _ I hq) fun us s1 ⟨xs, H1, I1, r, z, q⟩ => ⟨by rw [← r.length]; exact z, ?_⟩)
  have hf : H1 s1.heap.objs.size = none := I1.hok.fresh (Nat.le_refl _)
  refine ⟨.ref s1.heap.objs.size, upd H1 s1.heap.objs.size (.lst xs), I1.laid (t' := s1.toks) (fun b u e => Heap.get?_push_of_some _ e) (Nat.le_refl _) ?_, rfl, q _ hf⟩
  exact ⟨z, us, 0, r, Heap.get?_push_size _ rfl⟩
end
abbrev Sp := List V → Hp → VK → XK → Prop
abbrev CXT := List Env → Hp → Shared → XK → Value → Shared → Prop
structure Env0 (P : Program) (w : World) (K : PySem.W.Frag) (mg : Str → Option Value) (base : Heap) (A : Around) (outer : List Env) (s : Shared) (H : Hp) : Prop where
  frames : A.frames = some outer
  mod : Mod K mg base
  bs : ∀ b o, base.get? b = some o → s.heap.get? b = some o ∧ H b = none
  bsz : base.objs.size ≤ s.heap.objs.size
  funs : s.heap.FunFrames base outer
  frf : ∀ b ∈ frs outer, H b = none
  hok : HOk P w H s.heap
  bare : AllBare s.gens
def CE (outer : List Env) (P : Program) (w : World) (H : Hp) (s : Shared) (Q : VK) (u : Value) (s' : Shared) : Prop :=
  ∃ v H', s'.os = s.os ∧ AllBare s'.gens ∧ Un (frs outer) [] H H' s.heap s'.heap ∧ HOk P w H' s'.heap ∧ RelV v u ∧ Q v H'
def CR (CX : CXT) (outer : List Env) (P : Program) (w : World) (H : Hp) (s : Shared) (Q : VK) (E : XK) (r : Result) (s' : Shared) : Prop :=
  match r with
  | .ok (.ret u) => CE outer P w H s Q u s'
  | .ok _ => False
  | .error e => CX outer H s E e s'
structure FnOk (P : Program) (w : World) (K : PySem.W.Frag) (mg : Str → Option Value) (base : Heap) (CX : CXT) (k : Nat) (f : Addr) (fd : FuncData) (ps : List Str) (sp : Sp) : Prop where
  len : ∀ vs H Q E, sp vs H Q E → vs.length = ps.length
  run : ∀ (A : Around) (outer : List Env) (s : Shared) (H : Hp) (args : Args) (us : List Value) (vs : List V) (Q : VK) (E : XK), Room k A → Env0 P w K mg base A outer s H → BindsTo s fd args (ps.zip us) → Vals vs us → sp vs H Q E →
    codeAny (model P w) A (.call (.ref f) args) (CR CX outer P w H s Q E) s
theorem FnOk.mono {P : Program} {w : World} {K : PySem.W.Frag} {mg : Str → Option Value} {base : Heap} {CX : CXT} {j k : Nat} {f : Addr} {fd : FuncData} {ps : List Str} {sp : Sp} (F : FnOk P w K mg base CX j f fd ps sp) (h : j ≤ k) :
    FnOk P w K mg base CX k f fd ps sp := ⟨F.len, fun A outer s H args us vs Q E hr => F.run A outer s H args us vs Q E (hr.mono h)⟩
theorem FnOk.imp {P : Program} {w : World} {K : PySem.W.Frag} {mg : Str → Option Value} {base : Heap} {CX : CXT} {k : Nat} {f : Addr} {fd : FuncData} {ps : List Str} {sp sp' : Sp} (F : FnOk P w K mg base CX k f fd ps sp)
    (h : ∀ vs H Q E, sp' vs H Q E → sp vs H Q E) : FnOk P w K mg base CX k f fd ps sp' :=
  ⟨fun vs H Q E q => F.len vs H Q E (h _ _ _ _ q), fun A outer s H args us vs Q E hr he hb hv hs => F.run A outer s H args us vs Q E hr he hb hv (h _ _ _ _ hs)⟩
theorem Env0.make {P : Program} {w : World} {K : PySem.W.Frag} {mg : Str → Option Value} {base : Heap} {A : Around} {outer : List Env} {s : Shared} {H : Hp} (e : Env0 P w K mg base A outer s H) (C : Addr) (us : List Value) (kw : List (Str × Value)) :
    Env0 P w K mg base (A.under (.builtin "type.__call__" ⟨.ref C :: us, kw⟩)) outer s H := ⟨by first | exact e.frames | (simpa [Around.under, Code.envs, Code.isFrame, pushEnvs] using e.frames), e.mod, e.bs, e.bsz, e.funs, e.frf, e.hok, e.bare⟩
theorem Env0.in1 {P : Program} {w : World} {K : PySem.W.Frag} {mg : Str → Option Value} {base : Heap} {A : Around} {outer : List Env} {s : Shared} {H : Hp} (e : Env0 P w K mg base A outer s H) :
    Env0 P w K mg base A.in1 outer s H := ⟨e.frames, e.mod, e.bs, e.bsz, e.funs, e.frf, e.hok, e.bare⟩
section
variable {X : Cx} {pins : List (Addr × Obj)} {σ : St} {H : Hp} {s s' : Shared}
theorem Inv.env0 (I : Inv X pins σ H s) : Env0 X.prog X.w X.K X.mg X.base X.A X.stack s H :=
  ⟨I.ok.frames, I.ok.mod, I.bs, Nat.le_trans I.ok.bsz I.sz, I.stack, I.stkFree, I.hok, I.bare⟩
theorem Inv.after {Q : VK} {u : Value} (I : Inv X pins σ H s) (h : CE X.stack X.prog X.w H s Q u s') : EP X pins σ Q u s' := by
  obtain ⟨v, H', os, bare, un, hok, r, q⟩ := h
  obtain ⟨hh, g, d, t, os'⟩ := s'
  obtain rfl : os' = s.os := os
  exact ⟨v, H', I.call (h' := hh) (g' := g) (d' := d) (t' := t) (ch := []) un hok bare (fun b z => absurd z (by simp)), r, q⟩
end
def tCall (sp : Sp) (dvs : List V) (E : XK) (t : TA) : TE := fun σ H Q => t σ H fun vs H1 => sp (vs ++ dvs) H1 Q E
def tMeth (C : Addr) (m : Str) (sp : Sp) (dvs : List V) (E : XK) (ta : TE) (t : TA) : TE := fun σ H Q => ta σ H fun x H1 => ∃ a dx fs, x = .ref a ∧ H1 a = some (.ins C dx fs) ∧ fs.lookup m = none ∧
  t σ H1 fun vs H2 => sp (x :: (vs ++ dvs)) H2 Q E
def tMake (C : Addr) (sp : Sp) (dvs : List V) (E : XK) (t : TA) : TE := fun σ H Q => t σ H fun vs H1 => ∀ x dx, H1 x = none → H1 dx = none → dx ≠ x →
  sp (.ref x :: (vs ++ dvs)) (upd (upd H1 dx (.own x)) x (.ins C dx [])) (fun v H2 => v = .non ∧ Q (.ref x) H2) E
def Binds (K : PySem.W.Frag) (fd : FuncData) (ps : List Str) (ds : List Value) : Prop :=
  ∀ (s : Shared) (us : List Value), K.In s.heap → (us ++ ds).length = ps.length → BindsTo s fd ⟨us, []⟩ (ps.zip (us ++ ds))
theorem Binds.all {K : PySem.W.Frag} {fd : FuncData} {ps : List Str} (h : ∀ us : List Value, us.length = ps.length → bindArgs fd ⟨us, []⟩ = pure (ps.zip us)) : Binds K fd ps [] := fun s us _ hl => by
  rw [List.append_nil] at hl ⊢
  exact .of_eq (h us hl)
def Passes (CX : CXT) (X : Cx) (E : XK) : Prop := ∀ (pins : List (Addr × Obj)) (σ : St) (H : Hp) (s : Shared) (e : Value) (s' : Shared), Inv X pins σ H s → CX X.stack H s E e s' → X.xe e s'
section
variable {X : Cx} {CX : CXT} {k : Nat} {f C : Addr} {fd : FuncData} {ps : List Str} {sp : Sp} {dvs : List V} {ds : List Value} {E : XK} {x m : Str} {p pos apos : Pos} {e o : Expr} {es : List Expr} {ta : TE} {t : TA}
theorem run_fn {pins : List (Addr × Obj)} {σ : St} {H : Hp} {s : Shared} {Q : VK} {us : List Value} {vs : List V} (F : FnOk X.prog X.w X.K X.mg X.base CX k f fd ps sp) (hr : Room k X.A) (hb : Binds X.K fd ps ds) (hd : Vals dvs ds) (hx : Passes CX X E)
    (I : Inv X pins σ H s) (r : Vals vs us) (h : sp (vs ++ dvs) H Q E) : wpAny (model X.prog X.w) X.A (call (.ref f) us) (EP X pins σ Q) X.xe s := by
  have r2 : Vals (vs ++ dvs) (us ++ ds) := r.append hd
  have hl : (us ++ ds).length = ps.length := by rw [← r2.length]; exact F.len _ _ _ _ h
  refine wpAny_call (codeAny_mono (F.run X.A X.stack s H ⟨us, []⟩ (us ++ ds) (vs ++ dvs) Q E hr I.env0 (hb s us I.kIn hl) r2 h) fun r s' hq => ?_)
  cases r with
  | error e => exact hx pins σ H s e s' I hq
  | ok fl =>
    cases fl with
    | ret u => exact I.after hq
    | next => exact False.elim hq
    | brk => exact False.elim hq
    | cont => exact False.elim hq
theorem pe_call (F : FnOk X.prog X.w X.K X.mg X.base CX k f fd ps sp) (hr : Room k X.A) (hg : Gl X x) (hm : X.mg x = some (.ref f)) (hk : PySem.W.keepIn X.K (.ref f) = true) (hb : Binds X.K fd ps ds) (hd : Vals dvs ds) (hx : Passes CX X E)
    (ha : PA X (e :: es) t) (hdb : (x == ("__debug__" : Str)) = false := by decide) (he : starEach (e :: es) X.env = (false, eval e X.env) :: starEach es X.env := by rfl) (hpl : (backTo pos (starEach es X.env)).any (·.1) = false := by rfl) :
    PE X (.Call (.Name x p) (e :: es) [] pos) (tCall sp dvs E t) := by
  intro pins s σ H Q I h
  refine wpAny_Call_Name_kw (ld_glob I hg hm ?_ hdb)
  refine PySem.W.callWith_K (h₀ := X.base) I.ok.mod.kin hk (thn (ha pos pins s σ H _ I h) fun us s1 ⟨vs, H1, I1, r, q⟩ => ⟨I1.kIn, ?_⟩) he hpl
  exact run_fn F hr hb hd hx I1 r q
theorem pe_call0 (F : FnOk X.prog X.w X.K X.mg X.base CX k f fd ps sp) (hr : Room k X.A) (hg : Gl X x) (hm : X.mg x = some (.ref f)) (hk : PySem.W.keepIn X.K (.ref f) = true) (hb : Binds X.K fd ps ds) (hd : Vals dvs ds) (hx : Passes CX X E)
    (hdb : (x == ("__debug__" : Str)) = false := by decide) : PE X (.Call (.Name x p) [] [] pos) (tCall sp dvs E tNil) := by
  intro pins s σ H Q I h
  refine wpAny_Call_Name_kw (ld_glob I hg hm ?_ hdb)
  exact PySem.W.callWith_K0 I.kIn hk (run_fn (us := []) F hr hb hd hx I .nil h)
theorem pe_meth {pl : Sem Bool} (he : PE X o ta) (c : Cls X.K C) (hm : Meth X.K C m f) (F : FnOk X.prog X.w X.K X.mg X.base CX k f fd ps sp) (hr : Room k X.A) (hb : Binds X.K fd ps ds) (hd : Vals dvs ds) (hx : Passes CX X E) (ha : PA X (e :: es) t)
    (hst : starEach (e :: es) X.env = (false, eval e X.env) :: starEach es X.env := by rfl) (hpl : (backTo pos (starEach es X.env)).any (·.1) = false := by rfl)
    (ht : eval (.Call (.Attribute o m apos) (e :: es) [] pos) X.env = (do
      let ov ← eval o X.env
      standAt apos.atName
      let (f, first) ← holding [ov] (getMethod ov m pl)
      callWith pos f first (backTo pos (starEach (e :: es) X.env)) (backToKw pos (keywordEach [] X.env))) := by rfl) :
    PE X (.Call (.Attribute o m apos) (e :: es) [] pos) (tMeth C m sp dvs E ta t) := by
  intro pins s σ H Q I h
  refine PySem.W.methodCall_KW (pl := pl) (thn (he pins s σ H _ I h) fun u s1 ⟨x, H1, I1, rx, a, dx, fs, ex, ea, l, q⟩ => ?_) ht
  subst ex
  obtain rfl : u = Value.ref a := rx
  refine getmeth_ok I1 ea c hm l ?_
  refine PySem.W.callWith_K (first := [.ref a]) (h₀ := X.base) I.ok.mod.kin hm.kp (thn (ha pos pins s1 σ H1 _ I1 q) fun us s2 ⟨vs, H2, I2, r, q2⟩ => ⟨I2.kIn, ?_⟩) hst hpl
  exact run_fn (us := .ref a :: us) (vs := .ref a :: vs) F hr hb hd hx I2 (.cons rfl r) q2
theorem pe_meth0 {pl : Sem Bool} (he : PE X o ta) (c : Cls X.K C) (hm : Meth X.K C m f) (F : FnOk X.prog X.w X.K X.mg X.base CX k f fd ps sp) (hr : Room k X.A) (hb : Binds X.K fd ps ds) (hd : Vals dvs ds) (hx : Passes CX X E)
    (ht : eval (.Call (.Attribute o m apos) [] [] pos) X.env = (do
      let ov ← eval o X.env
      standAt apos.atName
      let (f, first) ← holding [ov] (getMethod ov m pl)
      callWith pos f first (backTo pos (starEach [] X.env)) (backToKw pos (keywordEach [] X.env))) := by rfl) :
    PE X (.Call (.Attribute o m apos) [] [] pos) (tMeth C m sp dvs E ta tNil) := by
  intro pins s σ H Q I h
  refine PySem.W.methodCall_KW (pl := pl) (thn (he pins s σ H _ I h) fun u s1 ⟨x, H1, I1, rx, a, dx, fs, ex, ea, l, q⟩ => ?_) ht
  subst ex
  obtain rfl : u = Value.ref a := rx
  refine getmeth_ok I1 ea c hm l ?_
  exact PySem.W.callWith_K0 (first := [.ref a]) I1.kIn hm.kp (run_fn (us := [.ref a]) (vs := [.ref a]) F hr hb hd hx I1 (.cons rfl .nil) q)
structure Mk (K : PySem.W.Frag) (C f : Addr) : Prop where
  makes : PySem.W.makesIn K C = true
  init : PySem.W.findIn K (.ref C) "__init__" = some (some (.ref f))
  fn : PySem.W.isFn K (.ref f) = true
  kp : PySem.W.keepIn K (.ref C) = true
theorem run_make {pins : List (Addr × Obj)} {σ : St} {H : Hp} {s : Shared} {Q : VK} {us : List Value} {vs : List V} (M : Mk X.K C f) (F : FnOk X.prog X.w X.K X.mg X.base CX k f fd ps sp) (hr : Room (k + 1) X.A) (hb : Binds X.K fd ps ds) (hd : Vals dvs ds)
    (hx : Passes CX X E) (I : Inv X pins σ H s) (r : Vals vs us)
    (h : ∀ x dx, H x = none → H dx = none → dx ≠ x → sp (.ref x :: (vs ++ dvs)) (upd (upd H dx (.own x)) x (.ins C dx [])) (fun v H2 => v = .non ∧ Q (.ref x) H2) E) :
    wpAny (model X.prog X.w) X.A (call (.ref C) us) (EP X pins σ Q) X.xe s := by
  have hq := h (s.heap.objs.size + 1) s.heap.objs.size (I.hok.fresh (Nat.le_succ _)) (I.hok.fresh (Nat.le_refl _)) (Nat.ne_of_lt (Nat.lt_succ_self _))
  have I2 := Inv.made (C := C) I
  have r2 : Vals (V.ref (s.heap.objs.size + 1) :: (vs ++ dvs)) (Value.ref (s.heap.objs.size + 1) :: (us ++ ds)) := .cons rfl (r.append hd)
  have hl : (Value.ref (s.heap.objs.size + 1) :: us ++ ds).length = ps.length := by
    have e := r2.length
    rw [F.len _ _ _ _ hq] at e
    exact e.symm
  refine wpAny_call (make_map (f := f) I.kIn M.makes M.init (beq_iff_eq.mp M.fn) (codeAny_mono (F.run _ X.stack _ _ ⟨Value.ref (s.heap.objs.size + 1) :: us, []⟩ (Value.ref (s.heap.objs.size + 1) :: (us ++ ds)) _ _ E (hr.make C us [])
    (I2.env0.make C us []) (hb _ (Value.ref (s.heap.objs.size + 1) :: us) I2.kIn hl) r2 hq) fun r s' hq' => ?_))
  cases r with
  | error e => exact hx pins σ _ _ e s' I2 hq'
  | ok fl =>
    cases fl with
    | ret u =>
      obtain ⟨v, H', I3, rv, ev, q3⟩ := I2.after hq'
      subst ev
      exact ⟨rv, ⟨V.ref (s.heap.objs.size + 1), H', I3, rfl, q3⟩⟩
    | next => exact False.elim hq'
    | brk => exact False.elim hq'
    | cont => exact False.elim hq'
theorem pe_make (M : Mk X.K C f) (F : FnOk X.prog X.w X.K X.mg X.base CX k f fd ps sp) (hr : Room (k + 1) X.A) (hg : Gl X x) (hm : X.mg x = some (.ref C)) (hb : Binds X.K fd ps ds) (hd : Vals dvs ds) (hx : Passes CX X E)
    (ha : PA X (e :: es) t) (hdb : (x == ("__debug__" : Str)) = false := by decide) (he : starEach (e :: es) X.env = (false, eval e X.env) :: starEach es X.env := by rfl) (hpl : (backTo pos (starEach es X.env)).any (·.1) = false := by rfl) :
    PE X (.Call (.Name x p) (e :: es) [] pos) (tMake C sp dvs E t) := by
  intro pins s σ H Q I h
  refine wpAny_Call_Name_kw (ld_glob I hg hm ?_ hdb)
  refine PySem.W.callWith_K (h₀ := X.base) I.ok.mod.kin M.kp (thn (ha pos pins s σ H _ I h) fun us s1 ⟨vs, H1, I1, r, q⟩ => ⟨I1.kIn, ?_⟩) he hpl
  exact run_make M F hr hb hd hx I1 r q
theorem pe_make0 (M : Mk X.K C f) (F : FnOk X.prog X.w X.K X.mg X.base CX k f fd ps sp) (hr : Room (k + 1) X.A) (hg : Gl X x) (hm : X.mg x = some (.ref C)) (hb : Binds X.K fd ps ds) (hd : Vals dvs ds) (hx : Passes CX X E)
    (hdb : (x == ("__debug__" : Str)) = false := by decide) : PE X (.Call (.Name x p) [] [] pos) (tMake C sp dvs E tNil) := by
  intro pins s σ H Q I h
  refine wpAny_Call_Name_kw (ld_glob I hg hm ?_ hdb)
  exact PySem.W.callWith_K0 I.kIn M.kp (run_make (us := []) M F hr hb hd hx I .nil h)
end
def PK (X : Cx) (kws : List Keyword) (t : TA) : Prop :=
  ∀ (pos : Pos) (pins : List (Addr × Obj)) (s : Shared) (σ : St) (H : Hp) (Q : List V → Hp → Prop), Inv X pins σ H s → t σ H Q → wpAny (model X.prog X.w) X.A (evalAll ((backToKw pos (keywordEach kws X.env)).map (·.2))) (AP X pins σ Q) X.xe s
section
variable {X : Cx} {CX : CXT} {k : Nat} {f C : Addr} {fd : FuncData} {ps ks : List Str} {sp : Sp} {E : XK} {x m : Str} {p pos apos kpos : Pos} {e o : Expr} {es : List Expr} {kws : List Keyword} {te ta : TE} {t tk : TA} {nm : Option Str}
theorem pk_nil : PK X [] tNil := fun _ _ _ _ H Q I h => wpAny_evalAll_nil ⟨[], H, I, .nil, h⟩
theorem pk_cons (ha : PE X e te) (hr : PK X kws t) : PK X (⟨nm, e, kpos⟩ :: kws) (tCons te t) := by
  intro pos pins s σ H Q I h
  show wpAny _ _ (evalAll ((do let v ← eval e X.env; standAt pos; pure v) :: (backToKw pos (keywordEach kws X.env)).map (·.2))) _ _ s
  refine wpAny_evalAll_cons (wpAny_bind (thn (ha pins s σ H _ I h) fun u s1 ⟨x, H1, I1, r1, q1⟩ => wpAny_bind (wpAny_standAt (wpAny_pure ?_))))
  exact thn (hr pos pins s1 σ H1 _ I1 q1) fun us s2 ⟨xs, H2, I2, r2, q2⟩ => ⟨x :: xs, H2, I2, .cons r1 r2, q2⟩
variable {g : List Value → List Value → List Value} {gV : List V → List V → List V}
end
structure FnScope (N P : List Str) (sc : Scope) : Prop where
  kind : sc.kind = .function
  co : sc.isCoroutine = false
  gen : sc.isGenerator = false
  nd : N.Nodup
  pre : N.take P.length = P
  par : ∀ x ∈ P, sc.names.lookup x = some .local ∨ sc.names.lookup x = some .cell
  nofree : ∀ y ∈ sc.names, y.2 ≠ .free
theorem bindL_out {kindOf : Str → Option NameKind} {x : Str} : ∀ {binds : List (Str × Value)} {m : Str → Option Value}, (∀ v, (x, v) ∉ binds) → bindL kindOf binds m x = m x
  | [], _, _ => rfl
  | (n, v) :: r, m, h => by
    unfold bindL
    rw [bindL_out fun w hw => h w (List.mem_cons_of_mem _ hw)]
    split
    · have : x ≠ n := by rintro rfl; exact h v List.mem_cons_self
      simp [this]
    · rfl
theorem bindC_out {kindOf : Str → Option NameKind} {x : Str} : ∀ {binds : List (Str × Value)} {m : Str → Option Value}, (∀ v, (x, v) ∉ binds) → bindC kindOf binds m x = m x
  | [], _, _ => rfl
  | (n, v) :: r, m, h => by
    unfold bindC
    rw [bindC_out fun w hw => h w (List.mem_cons_of_mem _ hw)]
    split
    · rfl
    · have : x ≠ n := by rintro rfl; exact h v List.mem_cons_self
      simp [this]
theorem bindL_get {kindOf : Str → Option NameKind} {x : Str} {v : Value} : ∀ {P : List Str} {vs : List Value} {i : Nat} {m : Str → Option Value}, P.Nodup → P[i]? = some x → vs[i]? = some v → kindOf x = some .local →
    bindL kindOf (P.zip vs) m x = some v
  | [], _, _, _, _, h, _, _ => by simp at h
  | _ :: _, [], _, _, _, _, h, _ => by simp at h
  | p :: P, w :: vs, 0, m, nd, h1, h2, hk => by
    simp at h1 h2; subst h1; subst h2
    show bindL kindOf ((p, w) :: P.zip vs) m p = _
    unfold bindL
    rw [bindL_out fun v hv => (List.nodup_cons.mp nd).1 (List.of_mem_zip hv).1, if_pos hk]
    simp
  | p :: P, w :: vs, i + 1, m, nd, h1, h2, hk => by
    show bindL kindOf ((p, w) :: P.zip vs) m x = _
    unfold bindL
    exact bindL_get (i := i) (List.nodup_cons.mp nd).2 (by simpa using h1) (by simpa using h2) hk
theorem bindC_get {kindOf : Str → Option NameKind} {x : Str} {v : Value} : ∀ {P : List Str} {vs : List Value} {i : Nat} {m : Str → Option Value}, P.Nodup → P[i]? = some x → vs[i]? = some v → kindOf x ≠ some .local →
    bindC kindOf (P.zip vs) m x = some v
  | [], _, _, _, _, h, _, _ => by simp at h
  | _ :: _, [], _, _, _, _, h, _ => by simp at h
  | p :: P, w :: vs, 0, m, nd, h1, h2, hk => by
    simp at h1 h2; subst h1; subst h2
    show bindC kindOf ((p, w) :: P.zip vs) m p = _
    unfold bindC
    rw [bindC_out fun v hv => (List.nodup_cons.mp nd).1 (List.of_mem_zip hv).1, if_neg hk]
    simp
  | p :: P, w :: vs, i + 1, m, nd, h1, h2, hk => by
    show bindC kindOf ((p, w) :: P.zip vs) m x = _
    unfold bindC
    exact bindC_get (i := i) (List.nodup_cons.mp nd).2 (by simpa using h1) (by simpa using h2) hk
def start (N : List Str) (vs : List V) : St := vs.map some ++ List.replicate (N.length - vs.length) none
def cxOf (CX : CXT) (P : Program) (w : World) (K : PySem.W.Frag) (mg : Str → Option Value) (base : Heap) (N : List Str) (qual : Str) (scope : Scope) (f : Addr) (cd : Value) (A : Around) (outer : List Env) (s : Shared) (H : Hp) (E : XK) : Cx where
  prog := P
  w := w
  K := K
  mg := mg
  base := base
  A := A.deeper (envOfC qual scope s.heap.objs.size f cd)
  N := N
  s_0 := s
  H_0 := H
  env := envOfC qual scope s.heap.objs.size f cd
  outer := outer
  stack := envOfC qual scope s.heap.objs.size f cd :: outer
  ex := []
  calm := true
  fn := fun _ => true
  pn := []
  xe := fun e s' => wpAny (model P w) (A.deeper (envOfC qual scope s.heap.objs.size f cd)) (leaving (envOfC qual scope s.heap.objs.size f cd) e) (fun _ s'' => CX outer H s E e s'') (fun e' s'' => CX outer H s E e' s'') s'
theorem cell_has {sc : Scope} {n : Nat} {x : Str} (h : sc.names.lookup x = some .cell) : ∃ c, (cellsFrom n sc.names []).lookup x = some c := by
  have q := PySem.W.cellsFrom_some sc.names n [] (.inl h)
  exact Option.isSome_iff_exists.mp q
theorem inv_start {CX : CXT} {P : Program} {w : World} {K : PySem.W.Frag} {mg : Str → Option Value} {base : Heap} {N ps : List Str} {qual : Str} {scope : Scope} {f : Addr} {cd : Value} {A : Around} {outer : List Env} {s s1 : Shared} {H : Hp} {E : XK} {us : List Value} {vs : List V}
    (S : FnScope N ps scope) (hd : A.handled = none) (e0 : Env0 P w K mg base A outer s H) (hl : vs.length = ps.length) (r : Vals vs us)
    (x : InCallC s s.heap.objs.size (bindL (envOfC qual scope s.heap.objs.size f cd).kindOf (ps.zip us) fun _ => none) (cellsFrom (s.heap.objs.size + 1) scope.names []) (bindC (envOfC qual scope s.heap.objs.size f cd).kindOf (ps.zip us) fun _ => none) s1) :
    Inv (cxOf CX P w K mg base N qual scope f cd A outer s H E) [] (start N vs) H s1 := by
  have hpl : ps.length ≤ N.length := by have := congrArg List.length S.pre; rw [List.length_take] at this; omega
  obtain ⟨h1, tk, rfl, hk⟩ := x.done
  have noA : ∀ b : Addr, b ∉ (cxOf CX P w K mg base N qual scope f cd A outer s H E).ex := fun b z => absurd (show b ∈ ([] : List Addr) from z) (by simp)
  refine ⟨⟨e0.mod, S.kind, rfl, rfl, Nat.le_refl _, fun y z c h1 h2 => ?_, fun y hy => ?_, fun y c _ h => ?_, fun _ => hd, Around.frames_deeper e0.frames, .inr ⟨rfl, rfl⟩, fun b z => absurd z (noA b), e0.bs, e0.bsz, fun b _ _ => noA b, fun b z => absurd z (noA b), e0.funs, e0.frf⟩,
    rfl, e0.bare, Un.kept hk, ⟨_, x.toInCall.ns, fun i y v h1 h2 h3 => ?_⟩, fun y c h => ⟨_, x.cell y c h⟩, e0.hok.fresh (Nat.le_refl _), fun y c h => ?_, fun p hp => absurd (show p ∈ ([] : List (Addr × Obj)) from hp) (by simp), e0.hok.kept hk, ?_⟩
  · exact name_of_addr x.apart (PySem.mem_of_lookup h1) (PySem.mem_of_lookup h2)
  · have hy : scope.names.lookup y = some .cell ∨ scope.names.lookup y = some .free := hy
    rcases hy with hy | hy
    · exact cell_has hy
    · exact absurd rfl (S.nofree _ (PySem.mem_of_lookup hy))
  · exact Nat.le_of_lt (x.above y c (PySem.mem_of_lookup h))
  · have hi : i < vs.length := by
      unfold start at h2
      by_cases hi : i < vs.length
      · exact hi
      · rw [List.getElem?_append_right (by simpa using hi)] at h2
        rw [List.getElem?_replicate] at h2
        split at h2 <;> cases h2
    have ha : vs[i]? = some v := by
      unfold start at h2
      rw [List.getElem?_append_left (by simpa using hi), List.getElem?_map] at h2
      cases e : vs[i]? with
      | none => rw [e] at h2; cases h2
      | some a => rw [e] at h2; cases h2; rfl
    obtain ⟨u, hu, rv⟩ := r.get ha
    have hp : ps[i]? = some y := by
      rw [← S.pre, List.getElem?_take_of_lt (by omega)]; exact h1
    have ndP : ps.Nodup := by rw [← S.pre]; exact S.nd.sublist (List.take_sublist _ _)
    refine ⟨u, rv, ?_⟩
    rcases S.par y (List.mem_of_getElem? hp) with k | k
    · exact .inl ⟨k, bindL_get ndP hp hu k⟩
    · obtain ⟨c, e⟩ := cell_has (n := s.heap.objs.size + 1) k
      refine .inr ⟨.inl k, c, e, ?_⟩
      have q := x.cell y c e
      rw [bindC_get ndP hp hu (by show scope.names.lookup y ≠ _; rw [k]; decide)] at q
      exact q
  · exact e0.hok.fresh (Nat.le_of_lt (x.above y c (PySem.mem_of_lookup h)))
  · unfold start
    show _ = N.length
    rw [List.length_append, List.length_map, List.length_replicate]
    omega
theorem fn_of {CX : CXT} {P : Program} {w : World} {K : PySem.W.Frag} {mg : Str → Option Value} {base : Heap} {k : Nat} {f : Addr} {name qual : Str} {params : Arguments} {body : List Stmt} {scope : Scope} {dV kV doc pm cdv ct oc : Value} {an od : Option Addr}
    {osl : Array (Option Value)} {N ps : List Str} {sp : Sp} (lk : K.lookup f = some ⟨oc, od, .func (PySem.W.fnOf name qual params body scope dV kV doc pm an cdv ct), osl⟩) (hcd : PySem.W.codeIn K cdv qual = true) (S : FnScope N ps scope)
    (len : ∀ vs H Q E, sp vs H Q E → vs.length = ps.length)
    (hbody : ∀ (A : Around) (outer : List Env) (s : Shared) (H : Hp) (vs : List V) (Q : VK) (E : XK), Room k (A.deeper (envOfC qual scope s.heap.objs.size f cdv)) → sp vs H Q E →
      ∃ t, PSs (cxOf CX P w K mg base N qual scope f cdv A outer s H E) body t ∧ t { nx := fun _ H' => Q .non H', rt := Q } (start N vs) H) :
    FnOk P w K mg base CX (k + 1) f (PySem.W.fnOf name qual params body scope dV kV doc pm an cdv ct) ps sp := by
  refine ⟨len, fun A outer s H args us vs Q E hr e0 hb r hsp => ?_⟩
  have hl := len _ _ _ _ hsp
  have KX : K.In s.heap := e0.mod.kin.keeps fun b o e => (e0.bs b o e).1
  have lim : s.heap.NoLimit := e0.mod.nolimit.keeps fun b o e => (e0.bs b o e).1
  have hkind : ∀ y ∈ ps.zip us, scope.names.lookup y.1 = some .local ∨ (scope.names.lookup y.1 = some .cell ∧ ((cellsFrom (s.heap.objs.size + 1) scope.names []).lookup y.1).isSome = true) := fun ⟨n, v⟩ hy => by
    rcases S.par n (List.of_mem_zip hy).1 with q | q
    · exact .inl q
    · exact .inr ⟨q, PySem.W.cellsFrom_some _ _ _ (.inl q)⟩
  refine codeAny_call_function hr.depth (KX _ _ lk) rfl S.co S.gen rfl (PySem.W.codeRec_of KX hcd) (hb _ _ _ _ ?_)
  refine wpAny_newFunctionEnv_cells S.kind hkind fun env he s1 x => ?_
  subst he
  refine ⟨lim.keeps x.toInCall.keep, codeAny_func ?_⟩
  obtain ⟨t, ht, hq⟩ := hbody A outer s H vs Q E (hr.deeper _) hsp
  have I : Inv (cxOf CX P w K mg base N qual scope f cdv A outer s H E) [] (start N vs) H s1 := inv_start S hr.hd e0 hl r x
  refine wpAny_mono (ht [] s1 (start N vs) H _ I hq) (fun fl s' hs => ?_) fun e s' hs => hs
  have fin : ∀ {σ' : St} {H' : Hp} {v : V} {u : Value}, Inv (cxOf CX P w K mg base N qual scope f cdv A outer s H E) [] σ' H' s' → RelV v u → Q v H' → CE outer P w H s Q u s' :=
    fun {σ' H' v u} J rv q => ⟨v, H', J.os, J.bare, J.base, J.hok, rv, q⟩
  cases fl with
  | ret u =>
    obtain ⟨v, σ', H', J, rv, q⟩ := hs
    exact fin J rv q
  | next =>
    obtain ⟨σ', H', J, q⟩ := hs
    exact fin (v := V.non) (u := Value.none) J rfl q
  | brk =>
    obtain ⟨_, _, _, q⟩ := hs
    exact False.elim q
  | cont =>
    obtain ⟨_, _, _, q⟩ := hs
    exact False.elim q
end L2
namespace L2
open PySem PySem.Spec PyProof.Rows
section
variable {X : Cx} {x : Str} {p pos : Pos} {e : Expr} {es : List Expr} {t : TA} {id T : String} {r : List V → Hp → VK → Prop}
def tCB (r : List V → Hp → VK → Prop) (t : TA) : TE := fun σ H Q => t σ H fun vs H1 => r vs H1 Q
theorem pe_callB (hc : CallR X (.builtin id) r) (hg : Gl X x) (hm : X.mg x = none) (hv : bootBuiltins x = some (.builtin id)) (ha : PA X (e :: es) t) (hn : x ≠ "__name__" := by decide) (hdb : (x == ("__debug__" : Str)) = false := by decide)
    (he : starEach (e :: es) X.env = (false, eval e X.env) :: starEach es X.env := by rfl) (hpl : (backTo pos (starEach es X.env)).any (·.1) = false := by rfl) : PE X (.Call (.Name x p) (e :: es) [] pos) (tCB r t) := by
  intro pins s σ H Q I h
  refine wpAny_Call_Name_kw (ld_blt I hg hm hv ?_ hn hdb)
  exact PyProof.Rows.callWith_builtin1 (thn (ha pos pins s σ H _ I h) fun us s1 ⟨vs, H1, I1, r1, q1⟩ => hc pins s1 σ H1 vs us Q I1 r1 q1) he hpl
theorem pe_callTy (hc : CallR X (.type T) r) (hg : Gl X x) (hm : X.mg x = none) (hv : bootBuiltins x = some (.type T)) (ha : PA X (e :: es) t) (hn : x ≠ "__name__" := by decide) (hdb : (x == ("__debug__" : Str)) = false := by decide)
    (he : starEach (e :: es) X.env = (false, eval e X.env) :: starEach es X.env := by rfl) (hpl : (backTo pos (starEach es X.env)).any (·.1) = false := by rfl) : PE X (.Call (.Name x p) (e :: es) [] pos) (tCB r t) := by
  intro pins s σ H Q I h
  refine wpAny_Call_Name_kw (ld_blt I hg hm hv ?_ hn hdb)
  exact PyProof.Rows.callWith_type1 (thn (ha pos pins s σ H _ I h) fun us s1 ⟨vs, H1, I1, r1, q1⟩ => hc pins s1 σ H1 vs us Q I1 r1 q1) he hpl
end
end L2
namespace HT
open PySem PyProof.Rows
def lexLt : List Int → List Int → Bool
  | [], [] => false
  | [], _ :: _ => true
  | _ :: _, [] => false
  | x :: xs, y :: ys => if x = y then lexLt xs ys else decide (x < y)
theorem rcLt_int (A : Around) (s : Shared) (a : Int) (t : Tok) (c : Int) (u : Tok) (prog : Program) (w : World) (E : Value → Shared → Prop) (Q : Value → Shared → Prop) (h : Q (.bool (decide (a < c))) s) :
    wpAny (model prog w) A (richCompare .Lt (.int a t) (.int c u)) Q E s :=
  (PyProof.Rows.lt_int h : wpAny (model prog w) A (compareOp .Lt (.int a t) (.int c u)) Q E s)
section
open PySem.SeqAt
open PySem.AutoSeq1 (wpAny_loadPart')
open PySem.MeetsSeq PySem.MeetsSeq2 PySem.MeetsSeq3
end
section
variable {prog : Program} {w : World} {A : Around} {E : Value → Shared → Prop} {s : Shared}
def sIx (n d : Nat) : Option Int → Nat
  | none => d
  | some v => if v < 0 then (v + (n : Int)).toNat else min v.toNat n
theorem sIx_nat (n d k : Nat) : sIx n d (some (k : Int)) = min k n := by
  show (if (k : Int) < 0 then ((k : Int) + (n : Int)).toNat else min (k : Int).toNat n) = min k n
  rw [if_neg (by omega), Int.toNat_natCast]
end
end HT
namespace L2
open PySem PySem.Spec PyProof.Rows
abbrev TO := St → Hp → (Option Int → Hp → Prop) → Prop
def PO (X : Cx) (e : Option Expr) (t : TO) : Prop :=
  ∀ (pins : List (Addr × Obj)) (s : Shared) (σ : St) (H : Hp) (Q : Option Int → Hp → Prop), Inv X pins σ H s → t σ H Q →
    wpAny (model X.prog X.w) X.A (evalPart e X.env) (fun u s' => ∃ o H', Inv X pins σ H' s' ∧ IsPart u o ∧ Q o H') X.xe s
def tNoPart : TO := fun _ H Q => Q none H
def tPart (t : TE) : TO := fun σ H Q => t σ H fun x H1 => ∃ i, x = .int i ∧ Q (some i) H1
section
variable {X : Cx} {e : Expr} {te : TE} {lo hi : Option Expr} {tl th : TO} {pos p2 : Pos}
theorem po_none : PO X none tNoPart := by
  intro pins s σ H Q I h
  rw [evalPart_none]
  exact wpAny_pure ⟨none, H, I, .none, h⟩
theorem po_some (h : PE X e te) : PO X (some e) (tPart te) := by
  intro pins s σ H Q I hw
  rw [evalPart_some]
  refine thn (h pins s σ H _ I hw) fun u s1 ⟨x, H1, I1, r1, q1⟩ => ?_
  obtain ⟨i, rfl, q⟩ := q1
  obtain ⟨t, rfl⟩ := r1
  exact ⟨some i, H1, I1, .int i t, q⟩
def SlR (X : Cx) (r : V → Option Int → Option Int → Hp → VK → Prop) : Prop :=
  ∀ (pins : List (Addr × Obj)) (s : Shared) (σ : St) (H : Hp) (x : V) (v vl vu : Value) (lo hi : Option Int) (sl : Addr) (Q : VK), Inv X pins σ H s → RelV x v → s.heap.IsSliceOf sl vl vu .none → IsPart vl lo → IsPart vu hi → r x lo hi H Q →
    ∃ T id, typeLookup (.type T) "__getitem__" = pure (some (.builtin id)) ∧ s.TypeIs v T ∧ wpAny (model X.prog X.w) X.A (getItem v (.ref sl)) (EP X pins σ Q) X.xe s
theorem SlR.or {r r' : V → Option Int → Option Int → Hp → VK → Prop} (h : SlR X r) (h' : SlR X r') : SlR X (fun x lo hi H Q => r x lo hi H Q ∨ r' x lo hi H Q) := by
  intro pins s σ H x v vl vu lo hi sl Q I rx hs pl pu q
  rcases q with q | q
  · exact h pins s σ H x v vl vu lo hi sl Q I rx hs pl pu q
  · exact h' pins s σ H x v vl vu lo hi sl Q I rx hs pl pu q
def tSl (r : V → Option Int → Option Int → Hp → VK → Prop) (te : TE) (tl th : TO) : TE := fun σ H Q => te σ H fun x H1 => tl σ H1 fun l H2 => th σ H2 fun u H3 => r x l u H3 Q
theorem pe_slice {r : V → Option Int → Option Int → Hp → VK → Prop} (hr : SlR X r) (he : PE X e te) (hl : PO X lo tl) (hu : PO X hi th) : PE X (.Subscript e (.Slice lo hi none p2) pos) (tSl r te tl th) := by
  intro pins s σ H Q I h
  refine Subscript_ (thn (he pins s σ H _ I h) fun v s1 ⟨x, H1, I1, r1, q1⟩ => ?_)
  refine wpAny_Slice (thn (hl pins s1 σ H1 _ I1 q1) fun vl s2 ⟨l, H2, I2, pl, q2⟩ => thn (hu pins s2 σ H2 _ I2 q2) fun vu s3 ⟨u, H3, I3, pu, q3⟩ => ?_)
  rw [evalPart_none]
  refine wpAny_pure ?_
  have I4 : Inv X pins σ H3 { s3 with heap := s3.heap.push { cls := .type "slice", data := .fields #[vl, vu, .none] } } := I3.kept (t' := s3.toks) fun b ob q => Heap.get?_push_of_some _ q
  obtain ⟨T, id, hT, ht, hg⟩ := hr pins { s3 with heap := s3.heap.push { cls := .type "slice", data := .fields #[vl, vu, .none] } } σ H3 x v vl vu l u s3.heap.objs.size Q I4 r1 (Heap.IsSliceOf.new ..) pl pu q3
  show wpAny (model X.prog X.w) X.A (subscriptTail e (.Slice lo hi none p2) v (.ref s3.heap.objs.size)) (EP X pins σ Q) X.xe { s3 with heap := s3.heap.push { cls := .type "slice", data := .fields #[vl, vu, .none] } }
  exact tail_any (ops := [.ref s3.heap.objs.size, v]) ht hT hg (by with_unfolding_all rfl)
def cutV (xs : List V) (lo hi : Option Int) : List V := (xs.drop (HT.sIx xs.length 0 lo)).take (HT.sIx xs.length xs.length hi - HT.sIx xs.length 0 lo)
theorem cutV_length (xs : List V) (lo hi : Option Int) : (cutV xs lo hi).length ≤ xs.length := by
  unfold cutV
  rw [List.length_take, List.length_drop]
  omega
end
end L2
namespace L2
open PySem PySem.Spec PyProof.Rows
def ixN (n : Nat) (i : Int) : Option Nat := if 0 ≤ i then (if i < n then some i.toNat else none) else if -(n : Int) ≤ i then some (i + n).toNat else none
def atI {α : Type} (xs : List α) (i : Int) : Option α := (ixN xs.length i).bind fun j => xs[j]?
theorem ixN_seq {n : Nat} {i : Int} {j : Nat} (h : ixN n i = some j) : seqIndex? i n = some j ∧ j < n ∧ -(n : Int) ≤ i ∧ i < n := by
  unfold ixN at h
  by_cases h0 : 0 ≤ i
  · rw [if_pos h0] at h
    by_cases h1 : i < n
    · rw [if_pos h1] at h
      have e : i.toNat = j := Option.some.inj h
      exact ⟨by rw [seqIndex_of h0 h1, e], by omega, by omega, h1⟩
    · rw [if_neg h1] at h; cases h
  · rw [if_neg h0] at h
    by_cases h1 : -(n : Int) ≤ i
    · rw [if_pos h1] at h
      have e : (i + n).toNat = j := Option.some.inj h
      exact ⟨by rw [seqIndex_neg (by omega) h1, e], by omega, h1, by omega⟩
    · rw [if_neg h1] at h; cases h
theorem atI_get {α : Type} {xs : List α} {i : Int} {v : α} (h : atI xs i = some v) : ∃ j, seqIndex? i xs.length = some j ∧ xs[j]? = some v ∧ j < xs.length ∧ -(xs.length : Int) ≤ i ∧ i < xs.length := by
  unfold atI at h
  cases e : ixN xs.length i with
  | none => rw [e] at h; cases h
  | some j =>
    rw [e] at h
    obtain ⟨h1, h2, h3, h4⟩ := ixN_seq e
    exact ⟨j, h1, h, h2, h3, h4⟩
theorem atI_nat {α : Type} {xs : List α} {j : Nat} {v : α} (h : xs[j]? = some v) : atI xs (j : Int) = some v := by
  have hj : j < xs.length := (List.getElem?_eq_some_iff.mp h).1
  have e : ixN xs.length (j : Int) = some j := by
    unfold ixN
    rw [if_pos (by omega), if_pos (by omega)]; simp
  unfold atI; rw [e]; exact h
def PlainIx (b : Expr) : Prop := ∀ o i, subscripted b false o i = operate [o, i] (getItem o i)
def IxR (X : Cx) (r : R2) : Prop :=
  ∀ (value slice : Expr) (pins : List (Addr × Obj)) (s : Shared) (σ : St) (H : Hp) (x y : V) (v u : Value) (Q : VK), Inv X pins σ H s → RelV x v → RelV y u → r x y H Q →
    subscripted slice false v u = operate [v, u] (getItem v u) → wpAny (model X.prog X.w) X.A (subscriptTail value slice v u) (EP X pins σ Q) X.xe s
def MtR (X : Cx) (id : String) (r : V → List V → Hp → VK → Prop) : Prop :=
  ∀ (pins : List (Addr × Obj)) (s : Shared) (σ : St) (H : Hp) (x : V) (xs : List V) (v : Value) (us : List Value) (Q : VK), Inv X pins σ H s → RelV x v → Vals xs us → r x xs H Q →
    wpAny (model X.prog X.w) X.A (call (.builtin id) (v :: us)) (EP X pins σ Q) X.xe s
section
variable {X : Cx} {a b : Expr} {ta tb : TE} {pos : Pos}
theorem IxR.or {r r' : R2} (h : IxR X r) (h' : IxR X r') : IxR X (fun x y H Q => r x y H Q ∨ r' x y H Q) := by
  intro value slice pins s σ H x y v u Q I rx ry q hs
  rcases q with q | q
  · exact h value slice pins s σ H x y v u Q I rx ry q hs
  · exact h' value slice pins s σ H x y v u Q I rx ry q hs
theorem MtR.or {id : String} {r r' : V → List V → Hp → VK → Prop} (h : MtR X id r) (h' : MtR X id r') : MtR X id (fun x xs H Q => r x xs H Q ∨ r' x xs H Q) := by
  intro pins s σ H x xs v us Q I rx rs q
  rcases q with q | q
  · exact h pins s σ H x xs v us Q I rx rs q
  · exact h' pins s σ H x xs v us Q I rx rs q
theorem pe_ix {r : R2} (hr : IxR X r) (ha : PE X a ta) (hb : PE X b tb) (hs : PlainIx b) : PE X (.Subscript a b pos) (tOp r ta tb) := by
  intro pins s σ H Q I h
  exact Subscript_ (binT ha hb I h fun v u s2 x y H2 I2 rx ry q => hr a b pins s2 σ H2 x y v u Q I2 rx ry q (hs _ _))
def rIxL (K : PySem.W.Frag) : R2 := fun x y H Q => ∃ p xs i v, x = .ref p ∧ y = .int i ∧ SqL K H p xs ∧ atI xs i = some v ∧ Q v H
theorem ix_list : IxR X (rIxL X.K) := by
  intro value slice pins s σ H x y v u Q I rx ry h hs
  obtain ⟨p, xs, i, z, rfl, rfl, hq, he, q⟩ := h
  cases rx
  obtain ⟨t, rfl⟩ := ry
  obtain ⟨its, r, pl, hz⟩ := I.list hq
  obtain ⟨j, h1, h2, h3, h4, h5⟩ := atI_get he
  obtain ⟨w, ew, rw'⟩ := r.get h2
  have hl := r.length
  have hn := line63
  have fin : EP X pins σ Q w s := ⟨z, H, I, rw', q⟩
  by_cases h0 : 0 ≤ i
  · have hj : i.toNat = j := by
      rw [seqIndex_of h0 h5] at h1
      exact Option.some.inj h1
    exact item_listR pl.isList h0 (by omega) (by rw [hj]; simpa using ew) fin hs
  · have hj : (i + (its.toArray.size : Int)).toNat = j := by
      rw [seqIndex_neg (by omega) h4] at h1
      rw [List.size_toArray, ← hl]
      exact Option.some.inj h1
    exact subscriptTail_builtinR (x := w) pl.isList.typeIs slot_list_getitem.lookup
      (wpAny_getItem_list_neg (Q := fun r s' => r = w ∧ EP X pins σ Q r s') pl.isList (by omega) (by rw [List.size_toArray] <;> omega) (by omega) (by rw [hj]; simpa using ew) ⟨rfl, fin⟩) hs
theorem mapSeq_set (its : List Value) (n j : Nat) (u : Value) : Obj.mapSeq (·.setIfInBounds j u) { cls := .type "list", data := .seq its.toArray n } = { cls := .type "list", data := .seq (its.set j u).toArray n } := by
  simp [Obj.mapSeq]
theorem Inv.lst {pins : List (Addr × Obj)} {σ : St} {H : Hp} {s : Shared} {p : Addr} {xs : List V} (I : Inv X pins σ H s) (h : H p = some (.lst xs)) :
    ∃ (its : List Value) (n : Nat), Vals xs its ∧ s.heap.get? p = some { cls := .type "list", data := .seq its.toArray n } ∧ xs.length ≤ sizeLine := by
  obtain ⟨z, its, n, r, e⟩ := I.hok p _ h
  exact ⟨its, n, r, e, z⟩
theorem Inv.lstUpd {pins : List (Addr × Obj)} {σ : St} {H : Hp} {s : Shared} {p : Addr} {xs ys : List V} {its its' : List Value} {n n' : Nat} {f : Obj → Obj} (I : Inv X pins σ H s) (h : H p = some (.lst xs))
    (ho : s.heap.get? p = some { cls := .type "list", data := .seq its.toArray n }) (hf : f { cls := .type "list", data := .seq its.toArray n } = { cls := .type "list", data := .seq its'.toArray n' }) (r : Vals ys its') (hz : ys.length ≤ sizeLine) (t : Nat) :
    Inv X pins σ (upd H p (.lst ys)) { s with heap := s.heap.update p f, toks := t } := by
  have e : (s.heap.update p f).get? p = some { cls := .type "list", data := .seq its'.toArray n' } := by
    rw [Heap.get?_update_self f ho (by rw [hf] <;> rfl), hf]
  refine I.write (x := p) (e := p) (by rw [h]; trivial) (.inl rfl) (fun b u hb q => (Heap.get?_update_other _ _ (Ne.symm hb)).trans q) ⟨_, e⟩ ?_
  exact ⟨hz, its', n', r, e⟩
def rSetL : V → V → V → Hp → (Hp → Prop) → Prop := fun o i v H Q => ∃ p xs k j, o = .ref p ∧ i = .int k ∧ H p = some (.lst xs) ∧ ixN xs.length k = some j ∧ Q (upd H p (.lst (xs.set j v)))
theorem set_list : PSet X rSetL := by
  intro pins s σ H o i v ov iv u Q I ro ri rv h
  obtain ⟨p, xs, k, j, rfl, rfl, hp, hj, q⟩ := h
  cases ro
  obtain ⟨t, rfl⟩ := ri
  obtain ⟨its, n, r, ho, hz⟩ := I.lst hp
  obtain ⟨h1, h2, h3, h4⟩ := ixN_seq hj
  have hl := r.length
  have hn := line63
  have I' : Inv X pins σ (upd H p (.lst (xs.set j v))) { s with heap := s.heap.update p (Obj.mapSeq (·.setIfInBounds j u)) } :=
    I.lstUpd hp ho (mapSeq_set its n j u) (r.set rv j) (by rw [List.length_set]; exact hz) s.toks
  by_cases h0 : 0 ≤ k
  · have hk : k.toNat = j := by
      rw [seqIndex_of h0 h4] at h1
      exact Option.some.inj h1
    exact PySem.W.ki_setAt ho h0 (by omega) (by rw [List.size_toArray, ← hl]; exact h4) (by rw [hk]; exact ⟨_, I', q⟩)
  · have hk : (k + (its.toArray.size : Int)).toNat = j := by
      rw [seqIndex_neg (by omega) h3] at h1
      rw [List.size_toArray, ← hl]
      exact Option.some.inj h1
    exact PySem.W.ki_setBack ho (by omega) (by rw [List.size_toArray, ← hl]; exact h3) (by omega) (by rw [hk]; exact ⟨_, I', q⟩)
theorem slice_bounds (lo hi : Option Int) (n : Nat) : (sliceBounds lo hi none n).1 = ((HT.sIx n 0 lo : Nat) : Int) ∧ (sliceBounds lo hi none n).2.1 = ((HT.sIx n n hi : Nat) : Int) ∧ (sliceBounds lo hi none n).2.2 = 1 := by
  refine ⟨?_, ?_, rfl⟩
  · cases lo with
    | none => simp [sliceBounds, HT.sIx]
    | some i =>
      simp only [sliceBounds, HT.sIx, Option.getD_none, show (1 : Int) > 0 by decide, if_true]
      by_cases h : i < 0
      · simp only [h, if_true] <;> omega
      · simp only [h, if_false] <;> omega
  · cases hi with
    | none => simp [sliceBounds, HT.sIx]
    | some i =>
      simp only [sliceBounds, HT.sIx, Option.getD_none, show (1 : Int) > 0 by decide, if_true]
      by_cases h : i < 0
      · simp only [h, if_true] <;> omega
      · simp only [h, if_false] <;> omega
theorem slicePick_cut (its : List Value) (lo hi : Option Int) : slicePick its.toArray lo hi none = ((its.drop (HT.sIx its.length 0 lo)).take (HT.sIx its.length its.length hi - HT.sIx its.length 0 lo)).toArray := by
  obtain ⟨h1, h2, h3⟩ := slice_bounds lo hi its.toArray.size
  unfold slicePick
  rw [h1, h2, h3]
  simp only [sliceRange_one, pick_run, List.size_toArray] <;> rfl
def rSlL (K : PySem.W.Frag) : V → Option Int → Option Int → Hp → VK → Prop := fun x lo hi H Q => ∃ a xs, x = .ref a ∧ SqL K H a xs ∧ ∀ p, H p = none → Q (.ref p) (upd H p (.lst (cutV xs lo hi)))
theorem sl_list : SlR X (rSlL X.K) := by
  intro pins s σ H x v vl vu lo hi sl Q I rx hs pl pu h
  obtain ⟨a, xs, rfl, hx, q⟩ := h
  cases rx
  obtain ⟨its, r, ht, hz⟩ := I.list hx
  have hlen := r.length
  refine ⟨"list", _, slot_list_getitem.lookup, ht.isList.typeIs, ?_⟩
  refine wpAny_getItem_list_slice ht.isList hs pl pu .none (by simp) ?_ (by rw [List.size_toArray] <;> omega)
  rw [slicePick_cut, ← hlen]
  refine ⟨.ref s.heap.objs.size, _, I.laid (t' := s.toks) (o := .lst (cutV xs lo hi)) (fun b ob q => Heap.get?_push_of_some _ q) (Nat.le_refl _) ?_, rfl, q _ (I.hok.fresh (Nat.le_refl _))⟩
  exact ⟨Nat.le_trans (cutV_length xs lo hi) hz, _, 0, (r.drop (HT.sIx xs.length 0 lo)).take (HT.sIx xs.length xs.length hi - HT.sIx xs.length 0 lo), Heap.get?_push_size _ rfl⟩
def flatV : V → Bool
  | .non => true
  | .bl _ => true
  | .int _ => true
  | .str _ => true
  | _ => false
def eqV : V → V → Bool
  | .non, .non => true
  | .bl a, .bl b => a == b
  | .bl a, .int b => (if a then 1 else 0) == b
  | .int a, .bl b => a == (if b then 1 else 0)
  | .int a, .int b => a == b
  | .str a, .str b => a == b
  | _, _ => false
theorem eqAt_V {A : Around} {s : Shared} {y x : V} {u v : Value} (ry : RelV y u) (rx : RelV x v) (fy : flatV y = true) (fx : flatV x = true) : SeqAt.EqAt A s u v (eqV y x) := by
  cases y with
  | non =>
    cases ry
    cases x with
    | non => cases rx; exact SeqAt.EqAt.same _
    | bl b => cases rx; exact SeqAt.EqAt.none_bool b
    | int b => obtain ⟨t, rfl⟩ := rx; exact SeqAt.EqAt.none_int b t
    | str b => obtain ⟨t, rfl⟩ := rx; exact SeqAt.EqAt.none_str b t
    | _ => exact absurd (show false = true from fx) Bool.false_ne_true
  | bl a =>
    cases ry
    cases x with
    | non => cases rx; exact SeqAt.EqAt.bool_none a
    | bl b => cases rx; exact SeqAt.EqAt.bool_bool a b
    | int b => obtain ⟨t, rfl⟩ := rx; exact SeqAt.EqAt.bool_int a b t
    | str b => obtain ⟨t, rfl⟩ := rx; exact SeqAt.EqAt.bool_str a b t
    | _ => exact absurd (show false = true from fx) Bool.false_ne_true
  | int a =>
    obtain ⟨t', rfl⟩ := ry
    cases x with
    | non => cases rx; exact SeqAt.EqAt.int_none a t'
    | bl b => cases rx; exact SeqAt.EqAt.int_bool a t' b
    | int b => obtain ⟨t, rfl⟩ := rx; exact SeqAt.EqAt.int_int a t' b t
    | str b => obtain ⟨t, rfl⟩ := rx; exact SeqAt.EqAt.int_str a t' b t
    | _ => exact absurd (show false = true from fx) Bool.false_ne_true
  | str a =>
    obtain ⟨t', rfl⟩ := ry
    cases x with
    | non => cases rx; exact SeqAt.EqAt.str_none a t'
    | bl b => cases rx; exact SeqAt.EqAt.str_bool a t' b
    | int b => obtain ⟨t, rfl⟩ := rx; exact SeqAt.EqAt.str_int a t' b t
    | str b => obtain ⟨t, rfl⟩ := rx; exact SeqAt.EqAt.str_str a t' b t
    | _ => exact absurd (show false = true from fx) Bool.false_ne_true
  | _ => exact absurd (show false = true from fy) Bool.false_ne_true
def eqU (x : V) (u : Value) : Bool := match u with
  | .none => eqV .non x
  | .bool b => eqV (.bl b) x
  | .int i _ => eqV (.int i) x
  | .str z _ => eqV (.str z) x
  | _ => false
theorem eqU_of {x y : V} {u : Value} (r : RelV y u) (f : flatV y = true) : eqU x u = eqV y x := by
  cases y with
  | non => cases r; rfl
  | bl b => cases r; rfl
  | int i => obtain ⟨t, rfl⟩ := r; rfl
  | str z => obtain ⟨t, rfl⟩ := r; rfl
  | _ => exact absurd (show false = true from f) Bool.false_ne_true
theorem mem_eqAt {A : Around} {s : Shared} {x : V} {v : Value} (rx : RelV x v) (fx : flatV x = true) : ∀ {xs : List V} {us : List Value}, Vals xs us → xs.all flatV = true → ∀ u ∈ us, SeqAt.EqAt A s u v (eqU x u)
  | _, _, .nil, _ => fun u hu => by cases hu
  | y :: xs, u :: us, .cons r t, f => fun u' hu => by
    rw [List.all_cons, Bool.and_eq_true] at f
    rcases List.mem_cons.mp hu with rfl | hu
    · rw [eqU_of r f.1]; exact eqAt_V r rx f.1 fx
    · exact mem_eqAt rx fx t f.2 u' hu
theorem call_len_seq : CallR X (.builtin "len") (fun xs H Q => ∃ p ys, xs = [.ref p] ∧ (SqL X.K H p ys ∨ SqT X.K H p ys) ∧ Q (.int ys.length) H) := by
  intro pins s σ H xs us Q I r h
  obtain ⟨p, ys, rfl, hq, q⟩ := h
  obtain ⟨u, rfl, rx⟩ := vals1 r
  cases rx
  have hn := line63
  rcases hq with hq | hq
  · obtain ⟨its, r', pl, hz⟩ := I.list hq
    have hlen := r'.length
    exact Calls.call_len_list pl.isList (by simp only [List.size_toArray] <;> omega) ⟨.int ys.length, H, I.tok _, ⟨s.toks + 1, by rw [List.size_toArray, hlen]⟩, q⟩
  · obtain ⟨its, r', pl, hz⟩ := I.tuple hq
    have hlen := r'.length
    exact len_tuple pl (by simp only [List.size_toArray] <;> omega) ⟨.int ys.length, H, I.tok _, ⟨s.toks + 1, by rw [List.size_toArray, hlen]⟩, q⟩
theorem CallR.or {f : Value} {r r' : List V → Hp → VK → Prop} (h : CallR X f r) (h' : CallR X f r') : CallR X f (fun xs H Q => r xs H Q ∨ r' xs H Q) := by
  intro pins s σ H xs us Q I rs q
  rcases q with q | q
  · exact h pins s σ H xs us Q I rs q
  · exact h' pins s σ H xs us Q I rs q
theorem call_list_of : CallR X (.type "list") (fun xs H Q => ∃ p ys, xs = [.ref p] ∧ (SqL X.K H p ys ∨ SqT X.K H p ys) ∧ ∀ l, H l = none → Q (.ref l) (upd H l (.lst ys))) := by
  intro pins s σ H xs us Q I r h
  obtain ⟨p, ys, rfl, hq, q⟩ := h
  obtain ⟨u, rfl, rx⟩ := vals1 r
  cases rx
  have fin : ∀ (its : List Value), Vals ys its → ys.length ≤ sizeLine → ∀ (h' : Heap) (c' : Nat), (∀ b o', s.heap.get? b = some o' → h'.get? b = some o') →
      h'.get? s.heap.objs.size = some { cls := .type "list", dict := none, data := .seq its.toArray c', slots := #[] } → EP X pins σ Q (.ref s.heap.objs.size) { s with heap := h' } := fun its r' hz h' c' kp e =>
    ⟨.ref s.heap.objs.size, _, I.laid (t' := s.toks) kp (Nat.le_refl _) (show ObjOk X.prog X.w _ h' _ (.lst ys) from ⟨hz, its, c', r', e⟩), rfl, q _ (I.hok.fresh (Nat.le_refl _))⟩
  rcases hq with hq | hq
  · obtain ⟨its, r', pl, hz⟩ := I.list hq
    have hlen := r'.length
    obtain ⟨o, ho, hc, n, hd⟩ := pl.isList
    exact call_list_seq p (.inl rfl) ho hc hd (fun h' c' kp e => fin its r' hz h' c' kp e) (by simp only [List.size_toArray] <;> omega)
  · obtain ⟨its, r', pl, hz⟩ := I.tuple hq
    have hlen := r'.length
    obtain ⟨o, ho, hc, n, hd⟩ := pl
    exact call_list_seq p (.inr rfl) ho hc hd (fun h' c' kp e => fin its r' hz h' c' kp e) (by simp only [List.size_toArray] <;> omega)
theorem call_tuple_of : CallR X (.type "tuple") (fun xs H Q => ∃ p ys, xs = [.ref p] ∧ ((SqL X.K H p ys ∧ ∀ l, H l = none → Q (.ref l) (upd H l (.tup ys))) ∨ (SqT X.K H p ys ∧ Q (.ref p) H))) := by
  intro pins s σ H xs us Q I r h
  obtain ⟨p, ys, rfl, h⟩ := h
  obtain ⟨u, rfl, rx⟩ := vals1 r
  cases rx
  rcases h with ⟨hq, q⟩ | ⟨hq, q⟩
  · obtain ⟨its, r', pl, hz⟩ := I.list hq
    have hlen := r'.length
    refine call_tuple_list pl.isList (fun h' kp => ?_) (by simp only [List.size_toArray] <;> omega)
    have I1 : Inv X pins σ H { s with heap := h' } := I.kept (t' := s.toks) kp
    have I2 : Inv X pins σ (upd H h'.objs.size (.tup ys)) { s with heap := h'.push { cls := .type "tuple", data := .seq its.toArray } } :=
      I1.laid (t' := s.toks) (fun b o e => Heap.get?_push_of_some _ e) (Nat.le_refl _) (show ObjOk X.prog X.w _ _ _ (.tup ys) from ⟨hz, its, r', IsTup.new _ _⟩)
    exact ⟨.ref h'.objs.size, _, I2, rfl, q _ (I1.hok.fresh (Nat.le_refl _))⟩
  · obtain ⟨its, r', pl, hz⟩ := I.tuple hq
    exact call_tuple_same pl ⟨.ref p, H, I, rfl, q⟩
def tyV (K : PySem.W.Frag) (T : String) (x : V) (H : Hp) : Prop := match x with
  | .str _ => T = "str"
  | .int _ => T = "int"
  | .ref p => (T = "list" ∧ ∃ xs, SqL K H p xs) ∨ (T = "tuple" ∧ ∃ o, K.lookup p = some o ∧ o.cls = .type "tuple" ∧ o.dict = none) ∨
      (T = "dict" ∧ ((∃ kvs, H p = some (.dK kvs)) ∨ ∃ kvs, H p = some (.dT kvs))) ∨ (T = "set" ∧ ∃ S n, H p = some (.set S n))
  | _ => False
theorem tyV_is {pins : List (Addr × Obj)} {σ : St} {H : Hp} {s : Shared} {T : String} {x : V} {v : Value} (I : Inv X pins σ H s) (r : RelV x v) (ty : tyV X.K T x H) :
    s.TypeIs v T ∧ ∀ a, v = .ref a → ∃ ob, s.heap.get? a = some ob ∧ ob.dict = none := by
  cases x with
  | str z =>
    obtain ⟨t, rfl⟩ := r
    cases (show T = "str" from ty)
    exact ⟨typeIs_str s z t, fun _ e => nomatch e⟩
  | int i =>
    obtain ⟨t, rfl⟩ := r
    cases (show T = "int" from ty)
    exact ⟨typeIs_int s i t, fun _ e => nomatch e⟩
  | ref p =>
    cases r
    rcases ty with ⟨rfl, xs, hq⟩ | ⟨rfl, o, hk, hc, hd⟩ | ⟨rfl, hk⟩ | ⟨rfl, S, n, hk⟩
    · obtain ⟨its, _, pl, _⟩ := I.list hq
      refine ⟨pl.isList.typeIs, fun a e => ?_⟩
      cases e
      obtain ⟨o, n, e, c, hd, _⟩ := pl
      exact ⟨o, e, hd⟩
    · refine ⟨⟨o, I.kIn p o hk, hc⟩, fun a e => ?_⟩
      cases e
      exact ⟨o, I.kIn _ o hk, hd⟩
    · have z : ∃ o, s.heap.get? p = some o ∧ o.ExactDict := by
        rcases hk with ⟨kvs, hk⟩ | ⟨kvs, hk⟩
        · obtain ⟨_, _, _, _, o, _, _, e, ex, _⟩ := I.hok p _ hk
          exact ⟨o, e, ex⟩
        · obtain ⟨_, _, _, _, o, _, _, e, ex, _⟩ := I.hok p _ hk
          exact ⟨o, e, ex⟩
      obtain ⟨o, e, ex⟩ := z
      refine ⟨⟨o, e, ex.1⟩, fun a e2 => ?_⟩
      cases e2
      exact ⟨o, e, ex.2.1⟩
    · obtain ⟨o, _, _, _, e, ex, _⟩ := I.hok p _ hk
      refine ⟨⟨o, e, ex.1⟩, fun a e2 => ?_⟩
      cases e2
      exact ⟨o, e, ex.2.1⟩
  | _ => exact False.elim ty
def tBM (K : PySem.W.Frag) (T : String) (r : V → List V → Hp → VK → Prop) (to : TE) (t : TA) : TE := fun σ H Q => to σ H fun x H1 => tyV K T x H1 ∧ t σ H1 fun xs H2 => r x xs H2 Q
variable {o e : Expr} {es : List Expr} {to : TE} {t : TA} {name : Str} {apos cpos : Pos} {T id : String} {r : V → List V → Hp → VK → Prop}
theorem pe_bm (pa : PlainAttrs T) (slot : Slot T name id) (hty : typeOf (.builtin id) = pure (.type "method_descriptor")) (hm : MtR X id r) (ho : PE X o to) (ha : PA X (e :: es) t)
    (hbase : attributeBase o name X.env (eval o X.env) = eval o X.env := by rfl)
    (hfew : ((backTo cpos (starEach (e :: es) X.env)).all (fun x => !x.1) && (backToKw cpos (keywordEach [] X.env)).all (fun x => x.1.isSome)
      && decide ((e :: es).length + ([] : List Keyword).length + (if ([] : List Keyword).isEmpty then 0 else 1) < 30)) = true := by rfl)
    (hline : (apos.endLine == cpos.line) = true := by rfl) (hs : starEach (e :: es) X.env = (false, eval e X.env) :: starEach es X.env := by rfl) (hplain : (backTo cpos (starEach es X.env)).any (·.1) = false := by rfl) :
    PE X (.Call (.Attribute o name apos) (e :: es) [] cpos) (tBM X.K T r to t) := by
  intro pins s σ H Q I h
  refine wpAny_Call_method_late hbase hfew hline rfl (thn (ho pins s σ H _ I h) fun v s1 ⟨x, H1, I1, r1, ty, q1⟩ => ?_)
  obtain ⟨h1, h2⟩ := tyV_is I1 r1 ty
  refine ⟨T, id, pa, slot, hty, h1, h2, ?_⟩
  have hA := ha cpos pins s1 σ H1 _ I1 q1
  rw [hs] at hA ⊢
  refine Calls.callWith_builtin (by show (false || (backTo cpos (starEach es X.env)).any (·.1)) = false; rw [hplain] <;> rfl) (Calls.evalArgs_plain ?_)
  exact thn hA fun us s2 ⟨vs, H2, I2, r2, q2⟩ => hm pins s2 σ H2 x vs v us Q I2 r1 r2 q2
/- xs.append(e), list.index on a module's tuple .. are MtR facts of 06m -/
end
end L2
namespace L2
open PySem PySem.Spec PyProof.Rows
def MtM (X : Cx) (id : String) (r : V → List V → Hp → VK → Prop) : Prop :=
  ∀ (pins : List (Addr × Obj)) (s : Shared) (σ : St) (H : Hp) (x : V) (xs : List V) (v : Value) (us : List Value) (Q : VK), Inv X pins σ H s → RelV x v → Vals xs us → r x xs H Q →
    wpAny (model X.prog X.w) X.A (call (.builtin id) (v :: us)) (EP X pins σ Q) X.xe s
theorem Vals.one : ∀ {x : V} {us : List Value}, Vals [x] us → ∃ u, us = [u] ∧ RelV x u
  | _, _, .cons r .nil => ⟨_, rfl, r⟩
theorem Vals.two : ∀ {x y : V} {us : List Value}, Vals [x, y] us → ∃ u v, us = [u, v] ∧ RelV x u ∧ RelV y v
  | _, _, _, .cons r (.cons q .nil) => ⟨_, _, rfl, r, q⟩
theorem Vals.zero : ∀ {us : List Value}, Vals [] us → us = []
  | _, .nil => rfl
theorem Vals.eraseIdx : ∀ {xs : List V} {us : List Value} (i : Nat), Vals xs us → Vals (xs.eraseIdx i) (us.eraseIdx i)
  | _, _, _, .nil => .nil
  | _, _, 0, .cons _ t => t
  | _, _, i + 1, .cons r t => .cons r (Vals.eraseIdx i t)
theorem len_erase {α : Type} : ∀ (l : List α) (i : Nat), (l.eraseIdx i).length ≤ l.length
  | [], _ => Nat.le_refl _
  | _ :: _, 0 => Nat.le_succ _
  | _ :: r, i + 1 => Nat.succ_le_succ (len_erase r i)
section
variable {X : Cx} {pins : List (Addr × Obj)} {σ : St} {H : Hp} {s : Shared} {l b : Addr} {xs ys zs : List V}
theorem Inv.lset {its its' : List Value} {n : Nat} {f : Array Value → Array Value} {t' : Nat} (I : Inv X pins σ H s) (hH : H l = some (.lst xs))
    (e : s.heap.get? l = some { cls := .type "list", data := .seq its.toArray n }) (hf : f its.toArray = its'.toArray) (hv : Vals ys its') (hz : ys.length ≤ sizeLine) :
    Inv X pins σ (upd H l (.lst ys)) { s with heap := s.heap.update l (Obj.mapSeq f), toks := t' } := by
  have q := PySem.IsL.update e f
  rw [hf] at q
  refine I.write (x := l) (e := l) (by rw [hH]; exact trivial) (.inl rfl) (fun b' u hb hu => (Heap.get?_update_other s.heap (Obj.mapSeq f) (Ne.symm hb)).trans hu) ⟨_, q⟩ ?_
  exact ⟨hz, its', _, hv, q⟩
theorem Inv.lnew {its : List Value} {t' : Nat} (I : Inv X pins σ H s) (hv : Vals ys its) (hz : ys.length ≤ sizeLine) :
    Inv X pins σ (upd H s.heap.objs.size (.lst ys)) { s with heap := s.heap.push { cls := .type "list", data := .seq its.toArray }, toks := t' } :=
  I.laid (fun _ _ q => Heap.get?_push_of_some _ q) (Nat.le_refl _) ⟨hz, its, 0, hv, Heap.get?_push_size _ rfl⟩
theorem Inv.fresh (I : Inv X pins σ H s) : H s.heap.objs.size = none := I.hok.fresh (Nat.le_refl _)
theorem Inv.lstM (I : Inv X pins σ H s) (hH : H l = some (.lst xs)) : xs.length ≤ sizeLine ∧ ∃ (its : List Value) (n : Nat), Vals xs its ∧ xs.length = its.length ∧ s.heap.get? l = some { cls := .type "list", data := .seq its.toArray n } := by
  obtain ⟨z, its, n, r, e⟩ := I.hok l _ hH
  exact ⟨z, its, n, r, r.length, e⟩
theorem notLongL {n : Nat} (h : n ≤ sizeLine) : Builtin.List.listTooLong n = false := by
  unfold Builtin.List.listTooLong
  exact decide_eq_false (by omega)
end
section
variable {X : Cx}
def rAppend : V → List V → Hp → VK → Prop := fun x vs H Q => ∃ l xs y, x = .ref l ∧ vs = [y] ∧ H l = some (.lst xs) ∧ xs.length < sizeLine ∧ Q .non (upd H l (.lst (xs ++ [y])))
theorem mt_append : MtM X "list.append" rAppend := by
  intro pins s σ H x vs v us Q I rx rv h
  obtain ⟨l, xs, y, rfl, rfl, hH, hz, q⟩ := h
  cases rx
  obtain ⟨u, rfl, ru⟩ := rv.one
  obtain ⟨z, its, n, r, hl, e⟩ := I.lstM hH
  refine call_meets F.slot_list_append ⟨_, e, rfl⟩ F.entry_list_append (F.args_list_append_2 _ _) (PySem.list_append l its.toArray n u (by rw [List.size_toArray]; omega)) ⟨e, ?_⟩
  refine ⟨.non, _, I.lset (its' := its ++ [u]) hH e (by simp) (r.append (.cons ru .nil)) ?_, rfl, q⟩
  rw [List.length_append, List.length_singleton]
  omega
def rExtend : V → List V → Hp → VK → Prop := fun x vs H Q => ∃ l b xs zs, x = .ref l ∧ vs = [.ref b] ∧ H l = some (.lst xs) ∧ H b = some (.lst zs) ∧ xs.length + zs.length ≤ sizeLine ∧ Q .non (upd H l (.lst (xs ++ zs)))
theorem mt_extend : MtM X "list.extend" rExtend := by
  intro pins s σ H x vs v us Q I rx rv h
  obtain ⟨l, b, xs, zs, rfl, rfl, hH, hB, hz, q⟩ := h
  cases rx
  obtain ⟨u, rfl, ru⟩ := rv.one
  cases ru
  obtain ⟨z, its, n, r, hl, e⟩ := I.lstM hH
  obtain ⟨z2, its2, n2, r2, hl2, e2⟩ := I.lstM hB
  have hsz : its.toArray.size + its2.toArray.size ≤ sizeLine := by rw [List.size_toArray, List.size_toArray]; omega
  have hlong : ¬ (!its.toArray.isEmpty && Builtin.List.listTooLong (its.toArray.size + its2.toArray.size)) = true := by
    rw [notLongL hsz, Bool.and_false]
    exact Bool.false_ne_true
  refine call_meets F.slot_list_extend ⟨_, e, rfl⟩ F.entry_list_extend (F.args_list_extend_2 _ _)
    (AutoSeq1.list_extend_list_list_0 l its.toArray n b its2.toArray n2 hlong (by rw [List.size_toArray]; omega) (by omega)) ⟨e, e2, ?_⟩
  refine ⟨.non, _, I.lset (its' := its ++ its2) hH e (by simp) (r.append r2) ?_, rfl, q⟩
  rw [List.length_append]
  omega
def rPopAt : V → List V → Hp → VK → Prop := fun x vs H Q => ∃ l xs i k y, x = .ref l ∧ vs = [.int i] ∧ H l = some (.lst xs) ∧ -(2 ^ 63) ≤ i ∧ i < 2 ^ 63 ∧ seqIndex? i xs.length = some k ∧ xs[k]? = some y ∧ Q y (upd H l (.lst (xs.eraseIdx k)))
theorem mt_popAt : MtM X "list.pop" rPopAt := by
  intro pins s σ H x vs v us Q I rx rv h
  obtain ⟨l, xs, i, k, y, rfl, rfl, hH, h1, h2, hk, hy, q⟩ := h
  cases rx
  obtain ⟨u, rfl, ru⟩ := rv.one
  obtain ⟨t, rfl⟩ := ru
  obtain ⟨z, its, n, r, hl, e⟩ := I.lstM hH
  obtain ⟨w, hw, rw'⟩ := r.get hy
  refine call_meets F.slot_list_pop ⟨_, e, rfl⟩ F.entry_list_pop (F.args_list_pop_2 _ _)
    (MeetsSeq.list_pop_at l its.toArray n i t k w (fitsIndex_both h1 h2) (by rw [List.size_toArray, ← hl]; exact hk) (by rw [← Array.getElem?_toList]; exact hw) (by rw [List.size_toArray]; omega)) ⟨e, ?_⟩
  refine ⟨y, _, I.lset (its' := its.eraseIdx k) hH e ?_ (r.eraseIdx k) ?_, rw', q⟩
  · show its.toArray.eraseIdxIfInBounds k = (its.eraseIdx k).toArray
    rw [List.eraseIdxIfInBounds_toArray]
  · have := len_erase xs k
    omega
def rCat : R2 := fun x y H Q => ∃ l b xs zs, x = .ref l ∧ y = .ref b ∧ H l = some (.lst xs) ∧ H b = some (.lst zs) ∧ xs.length + zs.length ≤ sizeLine ∧ ∀ p, H p = none → Q (.ref p) (upd H p (.lst (xs ++ zs)))
theorem op_cat : OpR X (binaryOp .Add) rCat := by
  intro pins s σ H x y v u Q I rx ry h
  obtain ⟨l, b, xs, zs, rfl, rfl, hH, hB, hz, q⟩ := h
  cases rx
  cases ry
  obtain ⟨z, its, n, r, hl, e⟩ := I.lstM hH
  obtain ⟨z2, its2, n2, r2, hl2, e2⟩ := I.lstM hB
  refine PySem.P.add_list e e2 ?_ (by rw [List.size_toArray, List.size_toArray]; omega)
  have ea : its.toArray ++ its2.toArray = (its ++ its2).toArray := by simp
  rw [ea]
  exact ⟨.ref _, _, I.lnew (t' := s.toks) (r.append r2) (by rw [List.length_append]; omega), rfl, q _ I.fresh⟩
end
section
variable {prog : Program} {w : World} {A : Around} {E : Value → Shared → Prop} {s : Shared}
set_option maxRecDepth 100000 in
end
section
variable {X : Cx}
end
end L2
namespace L2
open PySem PySem.Spec PyProof.Rows
theorem Vals.ints : ∀ {ns : List Int} {us : List Value}, Vals (ns.map V.int) us → IntsAre us ns
  | [], us, h => by
    rw [List.map_nil] at h
    cases h
    exact IntsAre.nil
  | n :: ns, us, h => by
    rw [List.map_cons] at h
    cases h with
    | cons r t =>
      obtain ⟨k, rfl⟩ := r
      exact IntsAre.cons n k (Vals.ints t)
theorem Vals.bls : ∀ {bs : List Bool} {us : List Value}, Vals (bs.map V.bl) us → us = bs.map Value.bool
  | [], us, h => by
    rw [List.map_nil] at h
    cases h
    rfl
  | b :: bs, us, h => by
    rw [List.map_cons] at h
    cases h with
    | cons r t =>
      cases r
      rw [Vals.bls t, List.map_cons]
theorem Vals.ref1 {a : Addr} {us : List Value} (r : Vals [V.ref a] us) : us = [Value.ref a] := by
  cases r with
  | cons r t =>
    cases t
    cases r
    rfl
section
variable {prog : Program} {w : World} {A : Around} {E : Value → Shared → Prop} {s : Shared} {l : Addr} {its : List Value} {ns : List Int} {Q : Value → Shared → Prop}
theorem sum_raw (hh : A.handled = none) (hl : s.heap.IsList l its.toArray) (hi : IntsAre its ns)
    (h : ∀ h' tk t', (∀ b o, s.heap.get? b = some o → h'.get? b = some o) → Q (.int ns.sum t') { s with heap := h', toks := tk }) : wpAny (model prog w) A (call (.builtin "sum") [.ref l]) Q E s := by
  obtain ⟨xs, e⟩ := hi.allInts.items
  have hn : numsOf (intItems xs).toList = ns := by rw [← e]; exact hi.numsOf
  rw [nums_intItems] at hn
  rw [e] at hl
  refine PySem.sum_intListG hh hl fun h' tk t' hk => ?_
  have := h h' tk t' hk
  rw [preSum_eq, List.take_of_length_le (by simp), hn]; exact this
theorem max_raw (hh : A.handled = none) (hl : s.heap.IsList l its.toArray) (hi : IntsAre its ns) (hne : 0 < ns.length)
    (h : ∀ h' tk M t', (∀ b o, s.heap.get? b = some o → h'.get? b = some o) → M ∈ ns → (∀ a, a ∈ ns → a ≤ M) → Q (.int M t') { s with heap := h', toks := tk }) : wpAny (model prog w) A (call (.builtin "max") [.ref l]) Q E s := by
  obtain ⟨xs, e⟩ := hi.allInts.items
  have hn : numsOf (intItems xs).toList = ns := by rw [← e]; exact hi.numsOf
  rw [nums_intItems] at hn
  subst hn
  rw [e] at hl
  have hsz : 0 < xs.size := by simpa using hne
  refine PySem.max_intList hh hl hsz fun v h' tk hv hk => ?_
  obtain ⟨t, rfl⟩ := intItems_at hv
  obtain ⟨h1, h2⟩ := argBest_gt (numAt xs) (xs.size - 1)
  refine h h' tk _ t hk ?_ fun a ha => ?_
  · rw [numAt_eq]; exact PySem.getD_mem (by rw [List.length_map, Array.length_toList]; omega)
  · obtain ⟨j, hj, rfl⟩ := mem_getD ha
    rw [List.length_map, Array.length_toList] at hj
    rw [← numAt_eq]; exact h2 j (by omega)
end
section
variable {X : Cx}
def rSum (K : PySem.W.Frag) : List V → Hp → VK → Prop := fun vs H Q => ∃ (a : Addr) (ns : List Int), vs = [V.ref a] ∧ SqL K H a (ns.map V.int) ∧ Q (.int ns.sum) H
def rMax (K : PySem.W.Frag) : List V → Hp → VK → Prop := fun vs H Q => ∃ (a : Addr) (ns : List Int), vs = [V.ref a] ∧ SqL K H a (ns.map V.int) ∧ 0 < ns.length ∧ ∀ m, m ∈ ns → (∀ y, y ∈ ns → y ≤ m) → Q (.int m) H
theorem cr_sum (hc : X.calm = true) : CallR X (.builtin "sum") (rSum X.K) := by
  intro pins s σ H vs us Q I r h
  obtain ⟨a, ns, rfl, hs, q⟩ := h
  obtain ⟨its, rv, hl, _⟩ := I.list hs
  rw [Vals.ref1 r]
  exact sum_raw (I.ok.hd hc) hl.isList rv.ints fun h' tk t' hk => ⟨.int _, H, I.kept hk, ⟨_, rfl⟩, q⟩
theorem cr_max (hc : X.calm = true) : CallR X (.builtin "max") (rMax X.K) := by
  intro pins s σ H vs us Q I r h
  obtain ⟨a, ns, rfl, hs, hne, q⟩ := h
  obtain ⟨its, rv, hl, _⟩ := I.list hs
  rw [Vals.ref1 r]
  exact max_raw (I.ok.hd hc) hl.isList rv.ints hne fun h' tk m t' hk h1 h2 => ⟨.int _, H, I.kept hk, ⟨_, rfl⟩, q m h1 h2⟩
end
section
variable {X : Cx}
end
section
variable {X : Cx}
end
theorem iter_any {prog : Program} {w : World} {A : Around} {E : Value → Shared → Prop} {s : Shared} {l : Addr} {items : Array Value} {Q : Value → Shared → Prop} (hl : s.heap.IsList l items)
    (h : ∀ s₂ : Shared, s₂ = { s with heap := s.heap.push { cls := .type "list_iterator", data := .fields #[.ref l, .int 0 0] } } →
      (s₂.heap.IsListIter s.heap.objs.size l 0 ∧ s₂.heap.IsList l items) → l ≠ s.heap.objs.size → Q (.ref s.heap.objs.size) s₂) : wpAny (model prog w) A (pyIter (.ref l)) Q E s := by
  have hlt : l < s.heap.objs.size := by obtain ⟨_, e, _⟩ := hl; exact Heap.lt_size e
  exact wpAny_pyIter_list hl (h _ rfl ⟨⟨_, Heap.get?_push_size _ rfl, rfl, rfl⟩, hl.push _⟩ (Nat.ne_of_lt hlt))
theorem truth_bools {prog : Program} {w : World} {A : Around} {bs : List Bool} {its : List Value} (e : its = bs.map Value.bool) :
    TruthOf prog w A (fun i v => its.toArray[i]? = some v) (fun i => bs.getD i false) := fun i v s Q E hv hq => by
  have hv' : its[i]? = some v := by simpa using hv
  rw [e, List.getElem?_map] at hv'
  obtain ⟨b, hb, rfl⟩ := Option.map_eq_some_iff.mp hv'
  have hg : bs.getD i false = b := by rw [List.getD_eq_getElem?_getD, hb] <;> rfl
  have hq' : Q (bs.getD i false) s := hq
  rw [hg] at hq'
  exact wpAny_truthy_bool hq'
theorem all_range : ∀ bs : List Bool, (List.range bs.length).all (fun i => bs.getD i false) = bs.all id
  | [] => rfl
  | b :: bs => by
    rw [List.length_cons, List.range_succ_eq_map, List.all_cons, List.all_map, List.all_cons, ← all_range bs]
    all_goals rfl
section
variable {X : Cx}
def rAll (K : PySem.W.Frag) : List V → Hp → VK → Prop := fun vs H Q => ∃ (a : Addr) (bs : List Bool), vs = [V.ref a] ∧ SqL K H a (bs.map V.bl) ∧ Q (.bl (bs.all id)) H
theorem cr_all (hc : X.calm = true) : CallR X (.builtin "all") (rAll X.K) := by
  intro pins s σ H vs us Q I r h
  obtain ⟨a, bs, rfl, hs, q⟩ := h
  obtain ⟨its, rv, hl, _⟩ := I.list hs
  rw [Vals.ref1 r]
  have hb := rv.bls
  refine call_all_walk (iter_any hl.isList fun s₂ e2 st hne => ?_)
  subst e2
  refine ⟨_, _, _, _, _, _, _, rfl, Walks.list (A := X.A.in1) (I.ok.hd hc) _ a hne its.toArray, st, truth_bools hb, fun h' tk hk => ?_⟩
  refine ⟨.bl _, H, I.kept fun b o eo => hk b o (fun hmem => ?_) (Heap.get?_push_of_some _ eo), ?_, q⟩
  · rcases List.mem_cons.mp hmem with e1 | hmem
    · exact absurd (e1 ▸ Heap.lt_size eo) (Nat.lt_irrefl _)
    · cases hmem
  · show Value.bool _ = Value.bool _
    rw [← all_range, hb, List.size_toArray, List.length_map]
end
mutual
inductive Dp (K : PySem.W.Frag) (H : Hp) : V → PyData → Prop
  | non : Dp K H .non .none
  | bl (b : Bool) : Dp K H (.bl b) (.bool b)
  | int (i : Int) : Dp K H (.int i) (.int i)
  | str (x : Str) : Dp K H (.str x) (.str x)
  | lst {a : Addr} {xs : List V} {ds : List PyData} : SqL K H a xs → DpAll K H xs ds → Dp K H (.ref a) (.list ds)
  | tup {a : Addr} {xs : List V} {ds : List PyData} : SqT K H a xs → DpAll K H xs ds → Dp K H (.ref a) (.tuple ds)
inductive DpAll (K : PySem.W.Frag) (H : Hp) : List V → List PyData → Prop
  | nil : DpAll K H [] []
  | cons {v : V} {vs : List V} {d : PyData} {ds : List PyData} : Dp K H v d → DpAll K H vs ds → DpAll K H (v :: vs) (d :: ds)
end
section
variable {X : Cx} {pins : List (Addr × Obj)} {σ : St} {H : Hp} {s : Shared}
mutual
theorem Dp.reads (I : Inv X pins σ H s) : ∀ (d : PyData) (v : V) (u : Value), Dp X.K H v d → RelV v u → ∃ as, Reads s.heap u d as
  | .none, _, _, h, r => by
    cases h
    cases r
    exact ⟨_, Reads.none⟩
  | .bool b, _, _, h, r => by
    cases h
    cases r
    exact ⟨_, Reads.bool b⟩
  | .int i, _, _, h, r => by
    cases h
    obtain ⟨t, rfl⟩ := r
    exact ⟨_, Reads.int i t⟩
  | .str x, _, _, h, r => by
    cases h
    obtain ⟨t, rfl⟩ := r
    exact ⟨_, Reads.str x t⟩
  | .list ds, _, _, h, r => by
    cases h with
    | lst hs ha =>
      cases r
      obtain ⟨its, rv, ⟨o, n, ho, hc, _, hd⟩, _⟩ := I.list hs
      obtain ⟨as, hr⟩ := Dp.readsAll I ds _ its ha rv
      exact ⟨_, Reads.list ho hc hd hr⟩
  | .tuple ds, _, _, h, r => by
    cases h with
    | tup hs ha =>
      cases r
      obtain ⟨its, rv, ⟨o, ho, hc, n, hd⟩, _⟩ := I.tuple hs
      obtain ⟨as, hr⟩ := Dp.readsAll I ds _ its ha rv
      exact ⟨_, Reads.tuple ho hc hd hr⟩
  | .dict _, _, _, h, _ => by cases h
theorem Dp.readsAll (I : Inv X pins σ H s) : ∀ (ds : List PyData) (vs : List V) (us : List Value), DpAll X.K H vs ds → Vals vs us → ∃ as, ReadsAll s.heap us ds as
  | [], _, _, h, r => by
    cases h
    cases r
    exact ⟨_, ReadsAll.nil⟩
  | d :: ds, _, _, h, r => by
    cases h with
    | cons h1 h2 =>
      cases r with
      | cons r1 r2 =>
        obtain ⟨as, q1⟩ := Dp.reads I d _ _ h1 r1
        obtain ⟨bs, q2⟩ := Dp.readsAll I ds _ _ h2 r2
        exact ⟨_, ReadsAll.cons q1 q2⟩
end
end
section
variable {X : Cx}
end
end L2
namespace L2
open PySem PySem.Spec PyProof.Rows
abbrev CellAt (h : Heap) (c : Addr) (v : Option Value) : Prop := h.IsCell c v
def relS (scope sc : Scope) : Scope :=
  { scope with names := scope.names.map fun (n, k) => if (k == .free && sc.kind == .function && sc.names.lookup n == some .cell) then (n, .cell) else (n, k) }
def cloFrom (cells : List (Str × Addr)) : List (Str × NameKind) → List (Str × Addr) → List (Str × Addr)
  | [], acc => acc
  | (n, k) :: r, acc => if k == .free then cloFrom cells r ((n, (cells.lookup n).getD 0) :: acc) else cloFrom cells r acc
theorem closure_loop (env : Env) (f : Str × NameKind → List (Str × Addr) → Sem (ForInStep (List (Str × Addr))))
    (hf : ∀ n k c, f (n, k) c = if k == .free then (do let a ← cellOf env n; pure (.yield ((n, a) :: c))) else pure (.yield c)) :
    ∀ (names : List (Str × NameKind)) (acc : List (Str × Addr)), (∀ y ∈ names, y.2 = .free → ∃ c, env.cells.lookup y.1 = some c) → forIn names acc f = pure (cloFrom env.cells names acc)
  | [], acc, _ => by rw [List.forIn_nil]; rfl
  | (n, k) :: r, acc, h => by
    rw [List.forIn_cons, hf]
    have ih := fun acc => closure_loop env f hf r acc fun y hy => h y (List.mem_cons_of_mem _ hy)
    unfold cloFrom
    by_cases hk : (k == NameKind.free) = true
    · rw [if_pos hk, if_pos hk]
      obtain ⟨c, hc⟩ := h (n, k) List.mem_cons_self (by simpa using hk)
      have e : cellOf env n = pure c := by unfold cellOf; rw [hc]
      rw [e]
      have e2 : (env.cells.lookup n).getD 0 = c := by rw [hc]; rfl
      rw [e2]
      exact ih _
    · rw [if_neg hk, if_neg hk]
      exact ih _
theorem closure_ok {scope : Scope} {env : Env} (h : ∀ y ∈ scope.names, y.2 = .free → ∃ c, env.cells.lookup y.1 = some c) : closureFor scope env = pure (cloFrom env.cells scope.names []) := by
  simp only [closureFor]
  rw [closure_loop env _ (fun n k c => rfl) scope.names [] h]
  rfl
theorem mem_lookup {α : Type} : ∀ {l : List (Str × α)} {n : Str} {c : α}, (n, c) ∈ l → ∃ c', l.lookup n = some c'
  | (k, v) :: r, n, c, h => by
    rw [List.lookup_cons]
    cases hb : n == k with
    | true => exact ⟨_, rfl⟩
    | false =>
      rcases List.mem_cons.mp h with e | h
      · cases e; simp at hb
      · exact mem_lookup h
theorem cloFrom_mem {cells : List (Str × Addr)} : ∀ {names : List (Str × NameKind)} {acc : List (Str × Addr)} {n : Str} {c : Addr}, (n, c) ∈ cloFrom cells names acc → (n, c) ∈ acc ∨ ((n, .free) ∈ names ∧ c = (cells.lookup n).getD 0)
  | [], _, _, _, h => .inl h
  | (m, k) :: r, acc, n, c, h => by
    unfold cloFrom at h
    split at h
    · rename_i hk
      have hk : k = .free := by simpa using hk
      rcases cloFrom_mem h with h | ⟨h1, h2⟩
      · rcases List.mem_cons.mp h with e | h
        · cases e; exact .inr ⟨hk ▸ List.mem_cons_self, rfl⟩
        · exact .inl h
      · exact .inr ⟨List.mem_cons_of_mem _ h1, h2⟩
    · rcases cloFrom_mem h with h | ⟨h1, h2⟩
      · exact .inl h
      · exact .inr ⟨List.mem_cons_of_mem _ h1, h2⟩
theorem cloFrom_acc {cells : List (Str × Addr)} : ∀ {names : List (Str × NameKind)} {acc : List (Str × Addr)} {p : Str × Addr}, p ∈ acc → p ∈ cloFrom cells names acc
  | [], _, _, h => h
  | (m, k) :: r, acc, p, h => by
    unfold cloFrom
    split
    · exact cloFrom_acc (List.mem_cons_of_mem _ h)
    · exact cloFrom_acc h
theorem cloFrom_has {cells : List (Str × Addr)} : ∀ {names : List (Str × NameKind)} {acc : List (Str × Addr)} {n : Str}, (n, .free) ∈ names → (n, (cells.lookup n).getD 0) ∈ cloFrom cells names acc
  | (m, k) :: r, acc, n, h => by
    unfold cloFrom
    rcases List.mem_cons.mp h with e | h
    · cases e
      exact cloFrom_acc List.mem_cons_self
    · split
      · exact cloFrom_has h
      · exact cloFrom_has h
theorem cells_mem : ∀ {names : List (Str × NameKind)} {h : Heap} {acc : List (Str × Addr)} {x : Str} {c : Addr}, (x, c) ∈ cellsFrom h.objs.size names acc →
    (x, c) ∈ acc ∨ ((x, .cell) ∈ names ∧ h.objs.size ≤ c ∧ CellAt (pushCells h names) c none)
  | [], _, _, _, _, h => .inl h
  | (n, k) :: r, h, acc, x, c, hm => by
    unfold cellsFrom at hm
    unfold pushCells
    split at hm
    · rename_i hk
      rw [if_pos hk]
      have hk : k = .cell := by simpa using hk
      rw [← Heap.size_push h { cls := .type "cell", data := .cell none }] at hm
      rcases cells_mem hm with hm | ⟨h1, h2, h3⟩
      · rcases List.mem_cons.mp hm with e | hm
        · cases e
          exact .inr ⟨hk ▸ List.mem_cons_self, Nat.le_refl _, _, pushCells_keeps r _ _ _ (Heap.get?_push_size _ rfl), rfl⟩
        · exact .inl hm
      · rw [Heap.size_push] at h2
        exact .inr ⟨List.mem_cons_of_mem _ h1, Nat.le_of_succ_le h2, h3⟩
    · rename_i hk
      rw [if_neg hk]
      rcases cells_mem hm with hm | ⟨h1, h2, h3⟩
      · exact .inl hm
      · exact .inr ⟨List.mem_cons_of_mem _ h1, h2, h3⟩
theorem cells_acc : ∀ {names : List (Str × NameKind)} {n : Nat} {acc : List (Str × Addr)} {p : Str × Addr}, p ∈ acc → p ∈ cellsFrom n names acc
  | [], _, _, _, h => h
  | (m, k) :: r, n, acc, p, h => by
    unfold cellsFrom
    split
    · exact cells_acc (List.mem_cons_of_mem _ h)
    · exact cells_acc h
theorem cells_has : ∀ {names : List (Str × NameKind)} {n : Nat} {acc : List (Str × Addr)} {x : Str}, (x, .cell) ∈ names → ∃ c, (x, c) ∈ cellsFrom n names acc
  | (m, k) :: r, n, acc, x, h => by
    unfold cellsFrom
    rcases List.mem_cons.mp h with e | h
    · cases e
      exact ⟨n, cells_acc List.mem_cons_self⟩
    · split
      · exact cells_has h
      · exact cells_has h
theorem cells_inj : ∀ {names : List (Str × NameKind)} {h : Heap} {acc : List (Str × Addr)} {x y : Str} {c : Addr}, (∀ p ∈ acc, p.2 < h.objs.size) → (∀ x y c, (x, c) ∈ acc → (y, c) ∈ acc → x = y) →
    (x, c) ∈ cellsFrom h.objs.size names acc → (y, c) ∈ cellsFrom h.objs.size names acc → x = y
  | [], _, _, _, _, _, _, hi, h1, h2 => hi _ _ _ h1 h2
  | (n, k) :: r, h, acc, x, y, c, hl, hi, h1, h2 => by
    unfold cellsFrom at h1 h2
    split at h1
    · rename_i hk
      rw [if_pos hk] at h2
      rw [← Heap.size_push h { cls := .type "cell", data := .cell none }] at h1 h2
      refine cells_inj (h := h.push _) (fun p hp => ?_) (fun x y c a b => ?_) h1 h2
      · rw [Heap.size_push]
        rcases List.mem_cons.mp hp with rfl | hp
        · exact Nat.lt_succ_self _
        · exact Nat.lt_succ_of_lt (hl p hp)
      · rcases List.mem_cons.mp a with e | a <;> rcases List.mem_cons.mp b with e' | b
        · cases e; cases e'; rfl
        · cases e; exact absurd (hl _ b) (Nat.lt_irrefl _)
        · cases e'; exact absurd (hl _ a) (Nat.lt_irrefl _)
        · exact hi _ _ _ a b
    · rename_i hk
      rw [if_neg hk] at h2
      exact cells_inj hl hi h1 h2
theorem newEnv_comp {M : Model} {A : Around} {E : Value → Shared → Prop} {s : Shared} {scope : Scope} {globals : Addr} {closure : List (Str × Addr)} {qual : Str} {func : Option Addr} {code : Value} {around : Env} {builtins : Addr} {Q : Env → Shared → Prop}
    (h : Q (newEnv scope s.heap.objs.size globals (cellsFrom (s.heap.objs.size + 1) scope.names closure) qual func code (some around) builtins)
      { s with heap := pushCells (s.heap.push { cls := .type "dict", data := .dict #[] }) scope.names }) :
    wpAny M A (newFunctionEnv scope globals closure [] qual func code (some around) builtins) Q E s := by
  simp only [newFunctionEnv, Option.isSome_some, if_true]
  refine wpAny_bind (wpAny_alloc ?_)
  refine wpAny_bind (wpAny_layCells _ (fun n k c => rfl) scope.names closure _ _ ?_)
  rw [show ({ s with heap := s.heap.push { cls := .type "dict", data := .dict #[] } } : Shared).heap.objs.size = s.heap.objs.size + 1 from Heap.size_push ..]
  rw [List.forIn_nil]
  exact wpAny_bind (wpAny_pure (wpAny_pure h))
theorem lookup_relS {sc : Scope} : ∀ {names : List (Str × NameKind)} {x : Str} {k : NameKind},
    (names.map fun (n, k) => if (k == NameKind.free && sc.kind == .function && sc.names.lookup n == some .cell) then (n, NameKind.cell) else (n, k)).lookup x = some k →
    ∃ k', names.lookup x = some k' ∧ (k = k' ∨ (k' = .free ∧ k = .cell))
  | [], _, _, h => by simp at h
  | (n, k₀) :: r, x, k, h => by
    have ih := @lookup_relS sc r x k
    have h' : List.lookup x ((if (k₀ == NameKind.free && sc.kind == .function && sc.names.lookup n == some .cell) = true then (n, NameKind.cell) else (n, k₀)) :: (r.map _)) = some k := h
    cases hx : x == n with
    | true =>
      simp only [List.lookup_cons, hx]
      by_cases hc : (k₀ == NameKind.free && sc.kind == .function && sc.names.lookup n == some .cell) = true
      · rw [if_pos hc] at h'
        simp only [List.lookup_cons, hx] at h'
        cases h'
        simp only [Bool.and_eq_true, beq_iff_eq] at hc
        exact ⟨k₀, rfl, .inr ⟨hc.1.1, rfl⟩⟩
      · rw [if_neg hc] at h'
        simp only [List.lookup_cons, hx] at h'
        cases h'
        exact ⟨_, rfl, .inl rfl⟩
    | false =>
      simp only [List.lookup_cons, hx]
      by_cases hc : (k₀ == NameKind.free && sc.kind == .function && sc.names.lookup n == some .cell) = true
      · rw [if_pos hc] at h'
        simp only [List.lookup_cons, hx] at h'
        exact ih h'
      · rw [if_neg hc] at h'
        simp only [List.lookup_cons, hx] at h'
        exact ih h'
structure BlkOk (N : List Str) (sc scope : Scope) (own : List (Str × Nat)) : Prop where
  kind : scope.kind = .function
  uniq : ∀ y ∈ scope.names, scope.names.lookup y.1 = some y.2
  ix : ∀ p ∈ own, N[p.2]? = some p.1
  free : ∀ y ∈ scope.names, y.2 = .free → sc.names.lookup y.1 = some .cell ∨ sc.names.lookup y.1 = some .free
  own : ∀ y ∈ scope.names, y.2 = .local ∨ y.2 = .cell → y.1 ∈ own.map (·.1) ∨ y.1 ∉ N
def wipe (σ : St) : List Nat → St
  | [] => σ
  | v :: vs => (wipe σ vs).set v none
theorem wipe_length (σ : St) : ∀ vs : List Nat, (wipe σ vs).length = σ.length
  | [] => rfl
  | v :: vs => by unfold wipe; rw [List.length_set, wipe_length σ vs]
theorem wipe_some {σ : St} {i : Nat} {x : V} : ∀ {vs : List Nat}, (wipe σ vs)[i]? = some (some x) → σ[i]? = some (some x) ∧ i ∉ vs
  | [], h => ⟨h, by simp⟩
  | v :: vs, h => by
    unfold wipe at h
    by_cases hi : v = i
    · subst hi
      by_cases hv : v < (wipe σ vs).length
      · rw [List.getElem?_set_self hv] at h; cases h
      · rw [List.getElem?_eq_none (by simpa using hv)] at h; cases h
    · rw [List.getElem?_set_ne hi] at h
      obtain ⟨h1, h2⟩ := wipe_some h
      exact ⟨h1, by simp only [List.mem_cons, not_or]; exact ⟨fun e => hi e.symm, h2⟩⟩
abbrev Cx.blk (X : Cx) (s : Shared) (H : Hp) (scope : Scope) (cenv : Env) (fp : List Addr) : Cx := { X with s_0 := s, H_0 := H, env := cenv, outer := X.stack, ex := fp, fn := fun x => scope.names.lookup x == some .cell, pn := [], xe := fun _ _ => False }
section
variable {X : Cx} {pins : List (Addr × Obj)} {σ : St} {H : Hp} {s : Shared}
theorem block_start {scope : Scope} {own : List (Str × Nat)} {fp : List Addr} (I : Inv X pins σ H s) (ok : BlkOk X.N X.env.scope scope own) (hN : X.N.Nodup) (hfp : ∀ b ∈ fp, FpOk X pins H b ∧ b < s.heap.objs.size) :
    Inv (X.blk s H scope (compEnvC scope (cellsFrom (s.heap.objs.size + 1) scope.names (cloFrom X.env.cells scope.names [])) s.heap.objs.size X.env) fp) [] (wipe σ (own.map (·.2))) H { s with heap := pushCells (s.heap.push { cls := .type "dict", data := .dict #[] }) scope.names } := by
  have hfree : ∀ y ∈ scope.names, y.2 = .free → ∃ c, X.env.cells.lookup y.1 = some c := fun y hy e => by
    rcases ok.free y hy e with k | k
    · exact I.ok.has _ (.inl k)
    · exact I.ok.has _ (.inr k)
  generalize hcenv : compEnvC scope (cellsFrom (s.heap.objs.size + 1) scope.names (cloFrom X.env.cells scope.names [])) s.heap.objs.size X.env = cenv
  have kp : ∀ b o, s.heap.get? b = some o → (pushCells (s.heap.push { cls := .type "dict", data := .dict #[] }) scope.names).get? b = some o := fun b o e => pushCells_keeps _ _ _ _ (Heap.get?_push_of_some _ e)
  have hL : cenv.locals = s.heap.objs.size := by rw [← hcenv]; rfl
  have hcl : cenv.cells = cellsFrom (s.heap.objs.size + 1) scope.names (cloFrom X.env.cells scope.names []) := by rw [← hcenv]; rfl
  have hsc : cenv.scope = relS scope X.env.scope := by rw [← hcenv]; rfl
  rw [← Heap.size_push s.heap { cls := .type "dict", data := .dict #[] }] at hcl
  have cm : ∀ {y c}, (y, c) ∈ cloFrom X.env.cells scope.names [] → X.env.cells.lookup y = some c ∧ c < s.heap.objs.size := fun {y c} hm => by
    rcases cloFrom_mem hm with hm | ⟨h1, rfl⟩
    · cases hm
    · obtain ⟨c, hc⟩ := hfree _ h1 rfl
      rw [hc]
      obtain ⟨w, z⟩ := I.cell _ _ hc
      exact ⟨rfl, z.lt⟩
  have mem : ∀ {y c}, cenv.cells.lookup y = some c → (X.env.cells.lookup y = some c ∧ c < s.heap.objs.size) ∨ (s.heap.objs.size + 1 ≤ c ∧ CellAt (pushCells (s.heap.push { cls := .type "dict", data := .dict #[] }) scope.names) c none) := fun {y c} e => by
    rw [hcl] at e
    rcases cells_mem (PySem.mem_of_lookup e) with hm | ⟨_, h2, h3⟩
    · exact .inl (cm hm)
    · rw [Heap.size_push] at h2; exact .inr ⟨h2, h3⟩
  have look : ∀ {y}, scope.names.lookup y = some .free → ∃ c, cenv.cells.lookup y = some c ∧ X.env.cells.lookup y = some c := fun {y} hl => by
    have hy : (y, NameKind.free) ∈ scope.names := PySem.mem_of_lookup hl
    obtain ⟨c', e'⟩ := mem_lookup (cells_acc (names := scope.names) (n := (s.heap.push { cls := .type "dict", data := .dict #[] }).objs.size) (cloFrom_has (cells := X.env.cells) (acc := []) hy))
    rw [← hcl] at e'
    refine ⟨c', e', ?_⟩
    rw [hcl] at e'
    rcases cells_mem (PySem.mem_of_lookup e') with hm | ⟨h1, _, _⟩
    · exact (cm hm).1
    · have := ok.uniq _ h1
      rw [hl] at this; cases this
  have okB : (X.blk s H scope cenv fp).Ok := by
    refine ⟨I.ok.mod, by show cenv.scope.kind = _; rw [hsc]; exact ok.kind, by show cenv.globals = _; rw [← hcenv]; exact I.ok.glob, by show cenv.builtins = _; rw [← hcenv]; exact I.ok.blt, by show s.heap.objs.size ≤ cenv.locals; rw [hL]; exact Nat.le_refl _,
      fun y z c e1 e2 => ?_, fun y hy => ?_, fun y c z e => ?_, I.ok.hd, I.ok.frames, .inl rfl, fun b hb => ⟨?_, fun y c e z => ?_⟩, I.bs, Nat.le_trans I.ok.bsz I.sz, fun b o e hb => ?_, fun b hb z => ?_, I.stack, I.stkFree⟩
    · have e1 : cenv.cells.lookup y = some c := e1
      have e2 : cenv.cells.lookup z = some c := e2
      rw [hcl] at e1 e2
      refine cells_inj (fun p hp => ?_) (fun y z c a b => I.ok.inj y z c (cm a).1 (cm b).1) (PySem.mem_of_lookup e1) (PySem.mem_of_lookup e2)
      rw [Heap.size_push]
      exact Nat.lt_succ_of_lt (cm (y := p.1) (c := p.2) hp).2
    · show ∃ c, cenv.cells.lookup y = some c
      have key : ∀ k, cenv.kindOf y = some k → (k = .cell ∨ k = .free) → ∃ c, cenv.cells.lookup y = some c := fun k hk hk' => by
        unfold Env.kindOf at hk
        rw [hsc] at hk
        obtain ⟨k', e, r⟩ := lookup_relS hk
        have : k' = .cell ∨ k' = .free := by
          rcases r with rfl | ⟨rfl, _⟩
          · exact hk'
          · exact .inr rfl
        rcases this with rfl | rfl
        · obtain ⟨c, hm⟩ := cells_has (n := (s.heap.push { cls := .type "dict", data := .dict #[] }).objs.size) (acc := cloFrom X.env.cells scope.names []) (PySem.mem_of_lookup e)
          obtain ⟨c', e'⟩ := mem_lookup hm
          exact ⟨c', by rw [hcl]; exact e'⟩
        · obtain ⟨c, h1, _⟩ := look e
          exact ⟨c, h1⟩
      rcases hy with hy | hy
      · exact key _ hy (.inl rfl)
      · exact key _ hy (.inr rfl)
    · have z : (scope.names.lookup y == some NameKind.cell) = true := z
      have z : scope.names.lookup y = some .cell := by simpa using z
      have e : cenv.cells.lookup y = some c := e
      rw [hcl] at e
      rcases cells_mem (PySem.mem_of_lookup e) with hm | ⟨_, h2, _⟩
      · rcases cloFrom_mem hm with hm | ⟨h1, _⟩
        · cases hm
        · have q := ok.uniq _ h1
          rw [z] at q; cases q
      · rw [Heap.size_push] at h2
        exact Nat.le_of_succ_le h2
    · show b ≠ cenv.locals
      rw [hL]; exact Nat.ne_of_lt (hfp b hb).2
    · have e : cenv.cells.lookup y = some c := e
      rcases mem e with ⟨h1, _⟩ | ⟨h1, _⟩
      · exact (hfp b hb).1.2.2.2.2.1 y c h1 z
      · have h2 : s.heap.objs.size + 1 ≤ b := by rw [← z]; exact h1
        exact absurd (Nat.lt_of_lt_of_le (hfp b hb).2 (Nat.le_of_succ_le h2)) (Nat.lt_irrefl _)
    · rcases (hfp b hb).1.2.2.2.1 with z | z
      · exact I.ok.noex b o e z
      · exact absurd (Nat.lt_of_lt_of_le (Heap.lt_size e) (Nat.le_trans I.ok.bsz z)) (Nat.lt_irrefl _)
    · rcases List.mem_cons.mp (I.stkSub b z) with z | z
      · exact (hfp b hb).1.2.1 z
      · exact (hfp b hb).1.2.2.1 z
  refine ⟨okB, rfl, I.bare, Un.kept kp, ⟨fun _ => none, ?_, fun i y av e1 e2 e3 => ?_⟩, fun y c e => ?_, ?_, fun y c e => ?_, fun p hp => ?_, I.hok.kept kp, by rw [wipe_length]; exact I.len⟩
  · show Heap.Ns _ cenv.locals _
    rw [hL]
    exact Heap.Ns.keeps (Heap.Ns.new ..) fun b o e => pushCells_keeps _ _ _ _ e
  · obtain ⟨e2, hne⟩ := wipe_some e2
    have hfr : scope.names.lookup y = some .free ∧ (cenv.kindOf y = some .cell ∨ cenv.kindOf y = some .free) := by
      have key : ∀ k, cenv.scope.names.lookup y = some k → k = .local ∨ k = .cell ∨ k = .free → scope.names.lookup y = some .free ∧ (cenv.kindOf y = some .cell ∨ cenv.kindOf y = some .free) := fun k hk hk' => by
        have hk0 := hk
        rw [hsc] at hk
        obtain ⟨k', e, r⟩ := lookup_relS hk
        have no : ¬ (k' = .local ∨ k' = .cell) := fun hh => by
          rcases ok.own _ (PySem.mem_of_lookup e) hh with e' | e'
          · obtain ⟨p, hp, hpy⟩ := List.mem_map.mp e'
            have e3 := ok.ix p hp
            have : p.1 = y := hpy
            rw [this] at e3
            exact hne (List.mem_map.mpr ⟨p, hp, nodup_ix hN e3 e1⟩)
          · exact e' (List.mem_of_getElem? e1)
        rcases r with rfl | ⟨rfl, rfl⟩
        · rcases hk' with rfl | rfl | rfl
          · exact absurd (.inl rfl) no
          · exact absurd (.inr rfl) no
          · exact ⟨e, .inr hk0⟩
        · exact ⟨e, .inl hk0⟩
      have e3 : Vis cenv.scope y := e3
      rcases e3 with e3 | e3 | e3
      · exact key _ e3 (.inl rfl)
      · exact key _ e3 (.inr (.inl rfl))
      · exact key _ e3 (.inr (.inr rfl))
    obtain ⟨m, hn, hl⟩ := I.loc
    have hvis : Vis X.env.scope y := (ok.free _ (PySem.mem_of_lookup hfr.1) rfl).elim (fun k => .inr (.inl k)) (fun k => .inr (.inr k))
    obtain ⟨w, r, q⟩ := hl i y av e1 e2 hvis
    refine ⟨w, r, .inr ⟨hfr.2, ?_⟩⟩
    obtain ⟨c, h1, h2⟩ := look hfr.1
    rcases q with ⟨k, _⟩ | ⟨_, c', e', z⟩
    · have k : X.env.scope.names.lookup y = some .local := k
      rcases ok.free _ (PySem.mem_of_lookup hfr.1) rfl with k' | k' <;> rw [show X.env.scope.names.lookup y = _ from k'] at k <;> cases k
    · rw [h2] at e'; cases e'
      exact ⟨c, h1, z.keeps kp⟩
  · have e : cenv.cells.lookup y = some c := e
    rcases mem e with ⟨h1, _⟩ | ⟨_, z⟩
    · obtain ⟨w, z⟩ := I.cell y c h1
      exact ⟨w, z.keeps kp⟩
    · exact ⟨_, z⟩
  · show H cenv.locals = none
    rw [hL]; exact I.hok.fresh (Nat.le_refl _)
  · have e : cenv.cells.lookup y = some c := e
    rcases mem e with ⟨h1, _⟩ | ⟨h1, _⟩
    · exact I.freeC y c h1
    · exact I.hok.fresh (Nat.le_of_succ_le h1)
  · exact absurd (show p ∈ ([] : List (Addr × Obj)) ++ [] from hp) (by simp)
theorem app_ok {E : Value → Shared → Prop} {D : Addr} {xs : List V} {y : V} {v : Value} {Q : Value → Shared → Prop} (I : Inv X pins σ H s) (hD : H D = some (.lst xs)) (hz : xs.length < sizeLine) (r : RelV y v)
    (h : ∀ s', Inv X pins σ (upd H D (.lst (xs ++ [y]))) s' → Q .none s') : wpAny (model X.prog X.w) X.A (call (.builtin "list.append") [.ref D, v]) Q E s := by
  obtain ⟨hz', its, n, ri, e⟩ := I.hok D _ hD
  have hl := ri.length
  refine append_at (hsz := by rw [List.size_toArray]; omega) e fun h' sb ho' => ?_
  refine h { s with heap := h' } (I.write (t' := s.toks) (by rw [hD]; trivial) (.inl rfl) (fun b u hb q => (sb.2 b hb).trans q) ⟨_, ho'⟩ ⟨by rw [List.length_append]; exact hz, its ++ [v], n + 1, ri.append (.cons r .nil), ?_⟩)
  rw [ho']
  simp
def PTs (X : Cx) (ifs : List Expr) (t : TT) : Prop :=
  ∀ (pins : List (Addr × Obj)) (s : Shared) (σ : St) (H : Hp) (Q : Bool → Hp → Prop), Inv X pins σ H s → t σ H Q →
    wpAny (model X.prog X.w) X.A (forIn ifs true fun c r => if r = true then do let ok ← isTrue c X.env (eval c X.env); pure (ForInStep.yield ok) else pure (ForInStep.yield r)) (TP X pins σ Q) X.xe s
def tYes : TT := fun _ H Q => Q true H
theorem pts_nil : PTs X [] tYes := fun _ _ _ H _ I h => wpAny_tests_nil ⟨H, I, h⟩
theorem pts_one {c : Expr} {t : TT} (h : PT X c t) : PTs X [c] t := fun pins s σ H Q I hw => wpAny_tests_one (h pins s σ H Q I hw)
end
theorem thnF {α : Type} {t : Sem α} {Q Q' : α → Shared → Prop} {M : Model} {A : Around} {E : Value → Shared → Prop} {s : Shared} (h : wpAny M A t Q (fun _ _ => False) s) (hQ : ∀ a s, Q a s → Q' a s) : wpAny M A t Q' E s := wpAny_mono h hQ fun _ _ z => False.elim z
theorem compLoop_any {prog : Program} {w : World} {A : Around} {R : Result → Shared → Prop} {s : Shared} {elt target iter : Expr} {ifs : List Expr} {scope : Scope} {pos : Pos} {it acc : Value} {env : Env} (I : Nat → Shared → Prop)
    (turn : ∀ n s, I n s → wpAny (model prog w) A (pyNext it) (fun r s₁ => match r with
      | none => R (.ok .next) s₁
      | some v => wpAny (model prog w) A (letOwnedTupleGo target it v) (fun _ s₁' => wpAny (model prog w) A (assign target env v) (fun _ s₂ =>
          wpAny (model prog w) A (forIn ifs true fun c r => if r = true then do let ok ← isTrue c env (eval c env); pure (ForInStep.yield ok) else pure (ForInStep.yield r)) (fun ok s₃ =>
            if ok = true then wpAny (model prog w) A (eval elt env) (fun x s₄ =>
              wpAny (model prog w) A (call (.builtin "list.append") [acc, x]) (fun _ s₅ => ∃ m, m < n ∧ I m s₅) (notedBy (model prog w) A env fun e s' => R (.error e) s') s₄) (notedBy (model prog w) A env fun e s' => R (.error e) s') s₃
            else ∃ m, m < n ∧ I m s₃) (notedBy (model prog w) A env fun e s' => R (.error e) s') s₂) (notedBy (model prog w) A env fun e s' => R (.error e) s') s₁') (notedBy (model prog w) A env fun e s' => R (.error e) s') s₁) (notedBy (model prog w) A env fun e s' => R (.error e) s') s)
    (n : Nat) (h : I n s) :
    codeAny (model prog w) A (.compLoop (.ListComp elt [⟨target, iter, ifs, 0⟩] scope pos) 0 it acc env) R s := by
  refine codeAny_loop rfl I (fun n s hI => ?_) n h
  show wpAny _ A ((compTurn (.ListComp elt [⟨target, iter, ifs, 0⟩] scope pos) 0 it acc env).onRaise (fun x => do noteFrame x env; theTreesLotGoes x)) _ _ s
  refine wpAny_noted ?_
  rw [compTurn_list]
  refine wpAny_bind (wpAny_standAt (wpAny_bind (wpAny_mono (turn n s hI) (fun r s₁ h₁ => ?_) fun _ _ h' => h')))
  cases r with
  | none => exact wpAny_pure h₁
  | some v =>
    refine wpAny_bind (wpAny_mono h₁ (fun _ s₁' h₁' => ?_) fun _ _ h' => h')
    refine wpAny_bind (wpAny_mono h₁' (fun _ s₂ h₂ => wpAny_bind (wpAny_mono h₂ (fun ok s₃ h₃ => ?_) fun _ _ h' => h')) fun _ _ h' => h')
    cases ok with
    | false => exact wpAny_pure ⟨rfl, h₃⟩
    | true =>
      exact wpAny_bind (wpAny_bind (wpAny_mono h₃ (fun x s₄ h₄ => wpAny_bind (wpAny_mono h₄ (fun _ s₅ h₅ => wpAny_pure (wpAny_pure ⟨rfl, h₅⟩)) fun _ _ h' => h')) fun _ _ h' => h'))
section
variable {X : Cx}
def tLc (wi : TI) (g : TG) (tt : TT) (te : TE) (vs : List Nat) : TE := fun σ H Q => wi σ H fun J H1 => ∀ D, H1 D = none → ∃ W : Nat → Nat → Hp → Prop, (∃ m, W 0 m (upd H1 D (.lst []))) ∧ ∀ i m H, W i m H →
  (J.stop i H ∧ Q (.ref D) H) ∨ (J.go i H ∧ ∃ Nx : Hp → Prop, (∀ H', Nx H' → ∃ m', m' < m ∧ W (i + 1) m' H') ∧ ∀ x H', J.yld i H x H' → g x (wipe σ vs) H' fun σ2 H2 => wipe σ2 vs = wipe σ vs ∧ tt σ2 H2 fun b H3 =>
    if b = true then te σ2 H3 fun y H4 => ∃ acc, H4 D = some (.lst acc) ∧ acc.length < sizeLine ∧ Nx (upd H4 D (.lst (acc ++ [y]))) else Nx H3)
theorem lc_core {pins : List (Addr × Obj)} {s : Shared} {σ : St} {H : Hp} {Q : VK} {elt tg iter : Expr} {ifs : List Expr} {scope : Scope} {own : List (Str × Nat)} {pos pos' : Pos} {wi : TI} {g : TG} {tt : TT} {te : TE} {use : Option (Value → Sem Unit)} {Qf : Value → Shared → Prop}
    (hc : X.calm = true) (hN : X.N.Nodup) (I : Inv X pins σ H s) (hi : PI X tg iter wi) (ok : BlkOk X.N X.env.scope scope own)
    (hg : ∀ (s : Shared) (H : Hp) (C : Addr) (cl : List (Str × Addr)) (fp : List Addr), PG (X.blk s H scope (compEnvC scope cl C X.env) fp) tg g) (ht : ∀ (s : Shared) (H : Hp) (C : Addr) (cl : List (Str × Addr)) (fp : List Addr), PTs (X.blk s H scope (compEnvC scope cl C X.env) fp) ifs tt)
    (he : ∀ (s : Shared) (H : Hp) (C : Addr) (cl : List (Str × Addr)) (fp : List Addr), PE (X.blk s H scope (compEnvC scope cl C X.env) fp) elt te) (hs : ∀ x, foldedSetIterable iter X.env x = pure x)
    (h : tLc wi g tt te (own.map (·.2)) σ H Q)
    (hRR : ∀ D C s' m H', Inv X pins σ H' s' → Q (.ref D) H' → s'.heap.Ns C m → FpOk X pins H' C → compPost (model X.prog X.w) X.A X.xe use Qf (.ref D) C (.ok .next) s') :
    wpAny (model X.prog X.w) X.A (comprehension (.ListComp elt [⟨tg, iter, ifs, 0⟩] scope pos) scope X.env pos' (newList []) false (eval iter X.env) use) Qf X.xe s := by
  have hfree : ∀ y ∈ scope.names, y.2 = .free → ∃ c, X.env.cells.lookup y.1 = some c := fun y hy e => by
    rcases ok.free y hy e with k | k
    · exact I.ok.has _ (.inl k)
    · exact I.ok.has _ (.inr k)
  refine wpAny_comprehension_free (use := use) rfl hs (closure_ok hfree) ok.kind (fun y hy e => by rw [ok.uniq y hy, e])
    (thn (hi pins s σ H _ I h) fun xv s1 hx => thn hx fun itv s2 h2 => ?_)
  obtain ⟨it, fp, tn, J, H2, e, I2, T, st2, f2, q⟩ := h2
  subst e
  refine wpAny_newObj_type (newEnv_comp ?_) (by show 0 ≤ sizeLine; decide)
  generalize hD : s2.heap.objs.size = D
  have hDn : H2 D = none := I2.hok.fresh (Nat.le_of_eq hD)
  obtain ⟨W, ⟨m0, w0⟩, turn⟩ := q D hDn
  generalize hs3 : ({ s2 with heap := s2.heap.push { cls := .type "list", data := .seq ([] : List Value).toArray } } : Shared) = s3
  have I3 : Inv X pins σ (upd H2 D (.lst [])) s3 := by
    rw [← hs3]
    refine I2.laid (t' := s2.toks) (fun b o e => Heap.get?_push_of_some _ e) (Nat.le_of_eq hD) ⟨Nat.zero_le _, [], 0, .nil, ?_⟩
    rw [← hD]
    exact Heap.get?_push_size _ rfl
  have h3 : s3.heap = s2.heap.push { cls := .type "list", data := .seq ([] : List Value).toArray } := by rw [← hs3]
  have sz : ∀ b ∈ fp, b < s2.heap.objs.size := fun b hb => by
    obtain ⟨o, e, _⟩ := T.obj _ _ st2 b hb
    exact Heap.lt_size e
  have f3 : ∀ b ∈ fp, FpOk X pins (upd H2 D (.lst [])) b ∧ b < s3.heap.objs.size := fun b hb => by
    have hlt := sz b hb
    refine ⟨⟨?_, (f2 b hb).2⟩, by rw [h3, Heap.size_push]; exact Nat.lt_succ_of_lt hlt⟩
    rw [upd_ne (by rw [← hD]; exact Nat.ne_of_lt hlt)]
    exact (f2 b hb).1
  have st3 : tn 0 s3.heap := T.keep _ _ _ st2 fun b _ o e => by rw [h3]; exact Heap.get?_push_of_some _ e
  have I4 := block_start I3 ok hN f3
  have pg := hg s3 (upd H2 D (.lst [])) s3.heap.objs.size (cellsFrom (s3.heap.objs.size + 1) scope.names (cloFrom X.env.cells scope.names [])) fp
  have pt := ht s3 (upd H2 D (.lst [])) s3.heap.objs.size (cellsFrom (s3.heap.objs.size + 1) scope.names (cloFrom X.env.cells scope.names [])) fp
  have pe := he s3 (upd H2 D (.lst [])) s3.heap.objs.size (cellsFrom (s3.heap.objs.size + 1) scope.names (cloFrom X.env.cells scope.names [])) fp
  show codeAny _ _ (.compStart (.ListComp elt [⟨tg, iter, ifs, 0⟩] scope pos) 0 (.ref it) (.ref D) (compEnvC scope (cellsFrom (s3.heap.objs.size + 1) scope.names (cloFrom X.env.cells scope.names [])) s3.heap.objs.size X.env)) (compPost (model X.prog X.w) X.A X.xe use Qf (.ref D) s3.heap.objs.size) { s3 with heap := pushCells (s3.heap.push { cls := .type "dict", data := .dict #[] }) scope.names }
  have nfp : ∀ b ∈ fp, (upd H2 D (.lst [])) b = none := fun b hb => (f3 b hb).1.1
  generalize hce : compEnvC scope (cellsFrom (s3.heap.objs.size + 1) scope.names (cloFrom X.env.cells scope.names [])) s3.heap.objs.size X.env = ce at I4 pg pt pe ⊢
  have cL : ce.locals = s3.heap.objs.size := by subst hce; rfl
  generalize hH3 : upd H2 D (.lst []) = H3 at I3 I4 pg pt pe w0 nfp f3
  generalize hs4 : ({ s3 with heap := pushCells (s3.heap.push { cls := .type "dict", data := .dict #[] }) scope.names } : Shared) = s4 at I4 ⊢
  have st4 : tn 0 s4.heap := T.keep _ _ _ st3 fun b _ o e => by rw [← hs4]; exact pushCells_keeps _ _ _ _ (Heap.get?_push_of_some _ e)
  have stat : ∀ {σ' : St} {H' : Hp} {s' : Shared}, Inv (X.blk s3 H3 scope ce fp) [] σ' H' s' → (∀ b ∈ fp, H' b = none) → ∀ b ∈ fp, FpOk (X.blk s3 H3 scope ce fp) [] H' b := fun {σ' H' s'} I' hn b hb =>
    ⟨hn b hb, (I'.ok.exf b hb).1, I'.ok.exfs b hb, .inl hb, fun x c e => (I'.ok.exf b hb).2 x c e, fun p hp => absurd (show p ∈ ([] : List (Addr × Obj)) ++ [] from hp) (by simp)⟩
  have loop : codeAny (model X.prog X.w) X.A (.compLoop (.ListComp elt [⟨tg, iter, ifs, 0⟩] scope pos) 0 (.ref it) (.ref D) ce) (compPost (model X.prog X.w) X.A X.xe use Qf (.ref D) s3.heap.objs.size) s4 := by
    refine compLoop_any (fun n s' => ∃ i H', Inv (X.blk s3 H3 scope ce fp) [] (wipe σ (own.map (·.2))) H' s' ∧ tn i s'.heap ∧ (∀ b ∈ fp, H' b = none) ∧ W i n H') ?_ m0 ⟨0, H3, I4, st4, nfp, w0⟩
    rintro n s5 ⟨i, H5, I5, st5, n5, w5⟩
    rcases turn i n H5 w5 with ⟨stop, qq⟩ | ⟨go, Nx, hNx, step⟩
    · have td := T.done (X.blk s3 H3 scope ce fp) rfl rfl rfl hc i [] s5 _ H5 (fun _ _ => False) I5 (stat I5 n5) st5 stop
      refine thnF td fun r s6 ⟨hr, I6⟩ => ?_
      subst hr
      have I7 : Inv X pins σ H5 s6 := I3.call' (ch := fp) I6.os I6.base I6.hok I6.bare fun b hb => ⟨(f3 b hb).1.2.2.2.1, (f3 b hb).1.2.1, (f3 b hb).1.2.2.2.2.1, (f3 b hb).1.2.2.2.2.2⟩
      have nC : H5 s3.heap.objs.size = none := by
        have z : H5 ce.locals = none := I6.free
        rw [cL] at z
        exact z
      obtain ⟨m, hn, _⟩ := I6.loc
      have hn : s6.heap.Ns ce.locals m := hn
      rw [cL] at hn
      exact hRR D s3.heap.objs.size s6 m H5 I7 qq hn (I3.fpOk (Nat.le_refl _) nC)
    · have ti := T.item (X.blk s3 H3 scope ce fp) rfl rfl rfl hc i [] s5 _ H5 (fun _ _ => False) I5 (stat I5 n5) st5 go
      refine thnF ti fun r s6 ⟨u, hr, h6⟩ => ?_
      subst hr
      refine thnF h6 fun _ s7 ⟨x, H7, I7, r7, y7, st7, n7⟩ => ?_
      have I7' := I7.pinned (stat I7 n7) (T.obj _ _ st7)
      refine thnF (pg _ s7 _ H7 x u _ I7' r7 (step x H7 y7)) fun _ s8 ⟨σ8, H8, I8, hw8, q8⟩ => ?_
      refine thnF (pt _ s8 σ8 H8 _ I8 q8) fun b s9 ⟨H9, I9, q9⟩ => ?_
      have fin : ∀ {s' : Shared} {H' : Hp}, Inv (X.blk s3 H3 scope ce fp) ([] ++ pinsAt fp s7.heap) σ8 H' s' → Nx H' → ∃ m, m < n ∧ ∃ i H', Inv (X.blk s3 H3 scope ce fp) [] (wipe σ (own.map (·.2))) H' s' ∧ tn i s'.heap ∧ (∀ b ∈ fp, H' b = none) ∧ W i m H' := fun {s' H'} I' nx => by
        obtain ⟨m', hm, w'⟩ := hNx H' nx
        have pin' : ∀ b ∈ fp, ∀ o, s7.heap.get? b = some o → s'.heap.get? b = some o ∧ H' b = none := fun b hb o e =>
          let z := I'.pin (b, o) (List.mem_append_right _ (List.mem_append_right _ (mem_pinsAt hb e)))
          ⟨z.1, z.2.1⟩
        have hl : (wipe σ (own.map (·.2))).length = σ8.length := by rw [← hw8, wipe_length]
        refine ⟨m', hm, i + 1, H', (I'.unpinned (pins := [])).weak hl (fun j v e => ?_), T.keep _ _ _ st7 fun b hb o e => (pin' b hb o e).1, fun b hb => ?_, w'⟩
        · rw [← hw8] at e
          exact (wipe_some e).1
        · obtain ⟨o, e, _⟩ := T.obj _ _ st7 b hb
          exact (pin' b hb o e).2
      cases b with
      | false =>
        simp only [Bool.false_eq_true, if_false] at q9 ⊢
        exact fin I9 q9
      | true =>
        simp only [if_true] at q9 ⊢
        refine thnF (pe _ s9 σ8 H9 _ I9 q9) fun z s10 ⟨yv, H10, I10, r10, acc, hD10, hz10, nx⟩ => ?_
        exact app_ok (X := X.blk s3 H3 scope ce fp) I10 hD10 hz10 r10 fun s11 I11 => fin I11 nx
  exact codeAny_compStart_list loop (T.self X.A 0 _ _ _ st4 loop)
theorem pe_lc {elt tg iter : Expr} {ifs : List Expr} {scope : Scope} {own : List (Str × Nat)} {pos : Pos} {wi : TI} {g : TG} {tt : TT} {te : TE} (hc : X.calm = true) (hN : X.N.Nodup) (hi : PI X tg iter wi) (ok : BlkOk X.N X.env.scope scope own)
    (hg : ∀ (s : Shared) (H : Hp) (C : Addr) (cl : List (Str × Addr)) (fp : List Addr), PG (X.blk s H scope (compEnvC scope cl C X.env) fp) tg g) (ht : ∀ (s : Shared) (H : Hp) (C : Addr) (cl : List (Str × Addr)) (fp : List Addr), PTs (X.blk s H scope (compEnvC scope cl C X.env) fp) ifs tt)
    (he : ∀ (s : Shared) (H : Hp) (C : Addr) (cl : List (Str × Addr)) (fp : List Addr), PE (X.blk s H scope (compEnvC scope cl C X.env) fp) elt te) (hs : ∀ x, foldedSetIterable iter X.env x = pure x := by intro _; rfl) :
    PE X (.ListComp elt [⟨tg, iter, ifs, 0⟩] scope pos) (tLc wi g tt te (own.map (·.2))) := by
  intro pins s σ H Q I h
  rw [eval_ListComp]
  refine lc_core hc hN I hi ok hg ht he hs h fun D C s' m H' I' q hn f => ⟨m, hn, fun h'' sb => ?_⟩
  obtain ⟨f0, f1, f2, f3, f4, f5⟩ := f
  exact ⟨.ref D, H', I'.turned (t' := s'.toks) (fun b o hb e => (sb.2 b hb).trans e) f0 f1 f3 f4 f5, rfl, q⟩
theorem ps_setLc {i : Nat} {y : Str} {py : Pos} {elt tg iter : Expr} {ifs : List Expr} {scope : Scope} {own : List (Str × Nat)} {pos spos : Pos} {wi : TI} {g : TG} {tt : TT} {te : TE} (hc : X.calm = true) (hN : X.N.Nodup) (hy : X.N[i]? = some y) (hyl : X.env.scope.names.lookup y = some .local)
    (hsw : swapsWith (.ListComp elt [⟨tg, iter, ifs, 0⟩] scope pos) (some (.Name y py)) spos.line X.env = pure true) (hi : PI X tg iter wi) (ok : BlkOk X.N X.env.scope scope own)
    (hg : ∀ (s : Shared) (H : Hp) (C : Addr) (cl : List (Str × Addr)) (fp : List Addr), PG (X.blk s H scope (compEnvC scope cl C X.env) fp) tg g) (ht : ∀ (s : Shared) (H : Hp) (C : Addr) (cl : List (Str × Addr)) (fp : List Addr), PTs (X.blk s H scope (compEnvC scope cl C X.env) fp) ifs tt)
    (he : ∀ (s : Shared) (H : Hp) (C : Addr) (cl : List (Str × Addr)) (fp : List Addr), PE (X.blk s H scope (compEnvC scope cl C X.env) fp) elt te) (hs : ∀ x, foldedSetIterable iter X.env x = pure x := by intro _; rfl) :
    PS X (.Assign [.Name y py] (.ListComp elt [⟨tg, iter, ifs, 0⟩] scope pos) spos) (tAsg (tLc wi g tt te (own.map (·.2))) (gName i)) := by
  intro pins s σ H D I h
  rw [exec_Assign_Name_used _ _ _ _ hsw]
  refine wpAny_bind (wpAny_standAt (wpAny_bind ?_))
  show wpAny _ X.A (do let _ ← comprehension (.ListComp elt [⟨tg, iter, ifs, 0⟩] scope pos) scope X.env (firstIterPos [⟨tg, iter, ifs, 0⟩] pos) (newList []) false (eval iter X.env) (some (assign (.Name y py) X.env))) _ _ s
  have h : tLc wi g tt te (own.map (·.2)) σ H (fun x H1 => gName i x σ H1 D.nx) := h
  refine wpAny_bind (thn (lc_core (Qf := fun _ s' => SP X pins D .next s') hc hN I hi ok hg ht he hs h fun L C s' m H' I' q hn f => ?_) fun _ s' hq => wpAny_pure (wpAny_pure hq))
  show wpAny _ _ (assign (.Name y py) X.env (.ref L)) _ _ _
  refine wpAny_assign_Name (store_ok2 (v := V.ref L) I' hN hy (.inl hyl) rfl (fun s2 I2 ⟨a, sb, ha⟩ => ?_) (.inr hyl))
  obtain ⟨f0, f1, f2, f3, f4, f5⟩ := f
  have haC : C ≠ a := by
    rcases ha with z | z
    · rw [z]; exact f1
    · exact fun e => f4 y a z e.symm
  refine ⟨m, hn.sameBut sb haC, fun h3 sb3 => ?_⟩
  exact ⟨_, H', I2.turned (t' := s2.toks) (fun b o hb e => (sb3.2 b hb).trans e) f0 f1 f3 f4 f5, q⟩
end
end L2
namespace L2
open PySem PySem.Spec PyProof.Rows
section
variable {prog : Program} {w : World} {A : Around} {R : Result → Shared → Prop} {s : Shared} {elt t0 i0 t1 i1 : Expr} {ifs0 ifs1 : List Expr} {scope : Scope} {pos : Pos} {it acc : Value} {env : Env}
end
section
variable {X : Cx}
end
end L2
namespace L2
open PySem PySem.Spec PyProof.Rows
section
variable {κ : Type} [DecidableEq κ]
def valV (kvs : List (κ × V)) (k : κ) : Option V := (kvs.find? fun kv => decide (kv.1 = k)).map (·.2)
def putK (kvs : List (κ × V)) (k : κ) (v : V) : List (κ × V) :=
  if (kvs.any fun kv => decide (kv.1 = k)) = true then kvs.map (fun kv => if kv.1 = k then (kv.1, v) else kv) else kvs ++ [(k, v)]
def dropK (kvs : List (κ × V)) (k : κ) : List (κ × V) := kvs.filter fun kv => decide (kv.1 ≠ k)
theorem valV_pos {p : κ × V} {r : List (κ × V)} {k : κ} (e : p.1 = k) : valV (p :: r) k = some p.2 := by simp [valV, List.find?_cons, e]
theorem valV_neg {p : κ × V} {r : List (κ × V)} {k : κ} (e : ¬ p.1 = k) : valV (p :: r) k = valV r k := by simp [valV, List.find?_cons, e]
theorem valV_any (k : κ) : ∀ kvs : List (κ × V), (kvs.any fun kv => decide (kv.1 = k)) = (valV kvs k).isSome
  | [] => rfl
  | p :: r => by
    rw [List.any_cons]
    by_cases e : p.1 = k
    · simp only [valV_pos e, decide_eq_true e, Bool.true_or, Option.isSome_some]
    · rw [valV_neg e, decide_eq_false e, Bool.false_or]; exact valV_any k r
theorem RelO.isSome_eq {o : Option V} {u : Option Value} (r : RelO o u) : o.isSome = u.isSome := by
  cases o with
  | none => cases u with
    | none => rfl
    | some _ => exact (show False from r).elim
  | some _ => cases u with
    | none => exact (show False from r).elim
    | some _ => rfl
theorem RelO.getD {o : Option V} {u : Option Value} {d : V} {d' : Value} (r : RelO o u) (rd : RelV d d') : RelV (o.getD d) (u.getD d') := by
  cases o with
  | none => cases u with
    | none => exact rd
    | some _ => exact (show False from r).elim
  | some _ => cases u with
    | none => exact (show False from r).elim
    | some _ => exact r
theorem KV.val {kvs : List (κ × V)} {vs : List (κ × Value)} (r : KV kvs vs) (k : κ) : RelO (valV kvs k) (valueAt vs k) := by
  unfold KV at r
  induction r with
  | nil => exact True.intro
  | @cons p q ps qs h t ih =>
    obtain ⟨h1, h2⟩ := h
    by_cases e : p.1 = k
    · have e' : q.1 = k := h1.symm.trans e
      have b : valueAt (q :: qs) k = some q.2 := by simp [valueAt, List.find?_cons, e']
      rw [valV_pos e, b]; exact h2
    · have e' : ¬ q.1 = k := fun z => e (h1.trans z)
      have b : valueAt (q :: qs) k = valueAt qs k := by simp [valueAt, List.find?_cons, e']
      rw [valV_neg e, b]; exact ih
theorem KV.any {kvs : List (κ × V)} {vs : List (κ × Value)} (r : KV kvs vs) (k : κ) : (kvs.any fun kv => decide (kv.1 = k)) = vs.any fun kv => decide (kv.1 = k) := by
  unfold KV at r
  induction r with
  | nil => rfl
  | cons h t ih => rw [List.any_cons, List.any_cons, ih, h.1]
theorem KV.repl {kvs : List (κ × V)} {vs : List (κ × Value)} (r : KV kvs vs) (k : κ) {y : V} {u : Value} (ry : RelV y u) :
    KV (kvs.map fun kv => if kv.1 = k then (kv.1, y) else kv) (vs.map fun kv => if kv.1 = k then (kv.1, u) else kv) := by
  unfold KV at r ⊢
  induction r with
  | nil => exact .nil
  | @cons p q ps qs h t ih =>
    rw [List.map_cons, List.map_cons]
    refine .cons ?_ ih
    obtain ⟨h1, h2⟩ := h
    by_cases e : p.1 = k
    · rw [if_pos e, if_pos (h1.symm.trans e)]; exact ⟨h1, ry⟩
    · rw [if_neg e, if_neg (fun z => e (h1.trans z))]; exact ⟨h1, h2⟩
theorem KV.put {kvs : List (κ × V)} {vs : List (κ × Value)} (r : KV kvs vs) (k : κ) {y : V} {u : Value} (ry : RelV y u) : KV (putK kvs k y) (stored vs k u) := by
  unfold putK stored
  rw [r.any k]
  by_cases e : (vs.any fun kv => decide (kv.1 = k)) = true
  · rw [if_pos e, if_pos e]; exact r.repl k ry
  · rw [if_neg e, if_neg e]; exact Paired.snoc r ⟨rfl, ry⟩
theorem KV.drop {kvs : List (κ × V)} {vs : List (κ × Value)} (r : KV kvs vs) (k : κ) : KV (dropK kvs k) (without vs k) := by
  unfold KV at r ⊢
  unfold dropK without
  induction r with
  | nil => exact .nil
  | @cons p q ps qs h t ih =>
    obtain ⟨h1, h2⟩ := h
    rw [List.filter_cons, List.filter_cons]
    by_cases e : p.1 = k
    · have a : ¬ decide (p.1 ≠ k) = true := by simp [e]
      have b : ¬ decide (q.1 ≠ k) = true := by simp [h1.symm.trans e]
      rw [if_neg a, if_neg b]; exact ih
    · have e' : ¬ q.1 = k := fun z => e (h1.trans z)
      have a : decide (p.1 ≠ k) = true := by simp [e]
      have b : decide (q.1 ≠ k) = true := by simp [e']
      rw [if_pos a, if_pos b]; exact .cons ⟨h1, h2⟩ ih
theorem KV.keys {kvs : List (κ × V)} {vs : List (κ × Value)} (r : KV kvs vs) : kvs.map (·.1) = vs.map (·.1) := by
  unfold KV at r
  induction r with
  | nil => rfl
  | cons h t ih => rw [List.map_cons, List.map_cons, ih, h.1]
theorem KV.length {kvs : List (κ × V)} {vs : List (κ × Value)} (r : KV kvs vs) : kvs.length = vs.length := Paired.length r
end
theorem kV_is {P : Program} {w : World} {k : Key} {u : Value} (r : RelV (kV k) u) : (mixKind P w).is k u = true := by
  cases k with
  | inl i => obtain ⟨t, e⟩ := (show ∃ t, u = Value.int i t from r); subst e; exact mixKind_int P w i t
  | inr x => obtain ⟨t, e⟩ := (show ∃ t, u = Value.str x t from r); subst e; exact mixKind_str P w x t
theorem items_are {P : Program} {w : World} : ∀ {ks : List Key} {us : List Value}, Vals (ks.map kV) us → ItemsAre (mixKind P w) ks us
  | [], _, r => by rw [List.map_nil] at r; cases r; exact .nil
  | k :: ks, _, r => by
    rw [List.map_cons] at r
    cases r with
    | cons h t => exact .cons (kV_is h) (items_are t)
abbrev KT (H : Hp) : List (List Key × V) → List (List Key × Addr × Value) → Prop := Paired fun p q => p.1 = q.1 ∧ H q.2.1 = some (.tup (p.1.map kV)) ∧ RelV p.2 q.2.2
theorem KT.val {H : Hp} {kvs : List (List Key × V)} {xs : List (List Key × Addr × Value)} (r : KT H kvs xs) (k : List Key) : RelO (valV kvs k) ((atKey xs k).map (·.2)) := by
  induction r with
  | nil => exact True.intro
  | @cons p q ps qs h t ih =>
    obtain ⟨h1, _, h2⟩ := h
    by_cases e : p.1 = k
    · have e' : q.1 = k := h1.symm.trans e
      have b : atKey (q :: qs) k = some q.2 := by simp [atKey, List.find?_cons, e']
      rw [valV_pos e, b]; exact h2
    · have e' : ¬ q.1 = k := fun z => e (h1.trans z)
      have b : atKey (q :: qs) k = atKey qs k := by simp [atKey, List.find?_cons, e']
      rw [valV_neg e, b]; exact ih
theorem KT.repl {H : Hp} {kvs : List (List Key × V)} {xs : List (List Key × Addr × Value)} (r : KT H kvs xs) (k : List Key) {y : V} {u : Value} (ry : RelV y u) :
    KT H (kvs.map fun kv => if kv.1 = k then (kv.1, y) else kv) (xs.map (putAt k u)) := by
  induction r with
  | nil => exact .nil
  | @cons p q ps qs h t ih =>
    rw [List.map_cons, List.map_cons]
    refine .cons ?_ ih
    obtain ⟨h1, h2, h3⟩ := h
    unfold putAt
    by_cases e : p.1 = k
    · rw [if_pos e, if_pos (h1.symm.trans e)]; exact ⟨h1, h2, ry⟩
    · rw [if_neg e, if_neg (fun z => e (h1.trans z))]; exact ⟨h1, h2, h3⟩
theorem KT.put {H : Hp} {kvs : List (List Key × V)} {xs : List (List Key × Addr × Value)} (r : KT H kvs xs) (k : List Key) {b : Addr} {y : V} {u : Value} (hb : H b = some (.tup (k.map kV))) (ry : RelV y u) :
    KT H (putK kvs k y) (storedH xs k b u) := by
  have e : (kvs.any fun kv => decide (kv.1 = k)) = (atKey xs k).isSome := by
    rw [valV_any, (r.val k).isSome_eq, Option.isSome_map]
  unfold putK storedH
  rw [e]
  by_cases q : (atKey xs k).isSome = true
  · rw [if_pos q, if_pos q]; exact r.repl k ry
  · rw [if_neg q, if_neg q]; exact Paired.snoc r ⟨rfl, hb, ry⟩
theorem KT.keeps {H H' : Hp} {kvs : List (List Key × V)} {xs : List (List Key × Addr × Value)} (r : KT H kvs xs) (ht : ∀ b ys, H b = some (.tup ys) → H' b = some (.tup ys)) : KT H' kvs xs :=
  Paired.mapP r fun _ _ z => ⟨z.1, ht _ _ z.2.1, z.2.2⟩
section
variable {P : Program} {w : World} {H : Hp} {h : Heap} {a : Addr}
theorem key_of {ks : List Key} (ok : HOk P w H h) (e : H a = some (.tup (ks.map kV))) : (tupleKind (mixKind P w)).is h ks a := by
  obtain ⟨_, its, r, o, h1, h2, n, h3⟩ := (show ObjOk P w H h a (.tup (ks.map kV)) from ok a _ e)
  exact ⟨o, its.toArray, n, h1, h2, h3, by simpa using items_are r⟩
end
def DGet (H : Hp) (a : Addr) (y : V) (r : Option V) : Prop :=
  (∃ kvs k, Rd H a (.dK kvs) ∧ y = kV k ∧ r = valV kvs k) ∨ ∃ kvs k b, Rd H a (.dT kvs) ∧ y = .ref b ∧ H b = some (.tup (k.map kV)) ∧ r = valV kvs k
def DPut (H : Hp) (a : Addr) (y v : V) (H' : Hp) : Prop :=
  (∃ kvs k, H a = some (.dK kvs) ∧ y = kV k ∧ kvs.length < sizeLine ∧ H' = upd H a (.dK (putK kvs k v))) ∨
  ∃ kvs k b, H a = some (.dT kvs) ∧ y = .ref b ∧ H b = some (.tup (k.map kV)) ∧ kvs.length < sizeLine ∧ H' = upd H a (.dT (putK kvs k v))
theorem DGet.k {H : Hp} {a : Addr} {kvs : List (Key × V)} {k : Key} (e : H a = some (.dK kvs)) : DGet H a (kV k) (valV kvs k) := .inl ⟨kvs, k, .inl e, rfl, rfl⟩
theorem DGet.t {H : Hp} {a b : Addr} {kvs : List (List Key × V)} {k : List Key} (e : H a = some (.dT kvs)) (eb : H b = some (.tup (k.map kV))) : DGet H a (.ref b) (valV kvs k) := .inr ⟨kvs, k, b, .inl e, rfl, eb, rfl⟩
theorem DPut.k {H : Hp} {a : Addr} {kvs : List (Key × V)} {k : Key} {v : V} (e : H a = some (.dK kvs)) (hl : kvs.length < sizeLine) : DPut H a (kV k) v (upd H a (.dK (putK kvs k v))) := .inl ⟨kvs, k, e, rfl, hl, rfl⟩
theorem DPut.t {H : Hp} {a b : Addr} {kvs : List (List Key × V)} {k : List Key} {v : V} (e : H a = some (.dT kvs)) (eb : H b = some (.tup (k.map kV))) (hl : kvs.length < sizeLine) :
    DPut H a (.ref b) v (upd H a (.dT (putK kvs k v))) := .inr ⟨kvs, k, b, e, rfl, eb, hl, rfl⟩
section
variable {X : Cx} {pins : List (Addr × Obj)} {σ : St} {H : Hp} {s : Shared} {a : Addr} {y v : V} {u r : Value} {o : Option V} {A : Around} {E : Value → Shared → Prop}
theorem Inv.big (I : Inv X pins σ H s) : sysModules < s.heap.objs.size := by
  have h : mainGlobals < s.heap.objs.size := (I.mod.glob.keeps I.bk).lt
  exact Nat.lt_trans (by decide) h
theorem d_write {h' : Heap} {t' : Nat} {ob : HO} (I : Inv X pins σ H s) (mu : Mut (H a)) (hs : Heap.SameBut a s.heap h') (he : ∃ q, h'.get? a = some q) (new : ObjOk X.prog X.w (upd H a ob) h' a ob) :
    Inv X pins σ (upd H a ob) { s with heap := h', toks := t' } :=
  I.write (x := a) (e := a) mu (.inl rfl) (fun b q hb z => (hs.2 b hb).trans z) he new
end
section
variable {X : Cx} {pins : List (Addr × Obj)} {σ : St} {H : Hp} {s : Shared} {a : Addr} {kvs : List (Key × V)} {k : Key} {u : Value} {A : Around} {E : Value → Shared → Prop}
end
section
variable {X : Cx} {o i e value : Expr} {pos pos' tpos : Pos} {td ty tv : TE}
end
section
variable {X : Cx} {pos : Pos}
end
def mergeK (kvs more : List (Key × V)) : List (Key × V) := more.foldl (fun acc kv => putK acc kv.1 kv.2) kvs
theorem KV.merge : ∀ {more : List (Key × V)} {rs : List (Key × Value)} {kvs : List (Key × V)} {vs : List (Key × Value)}, KV more rs → KV kvs vs → KV (mergeK kvs more) (merged vs rs) := by
  intro more rs kvs vs r
  unfold KV at r
  induction r generalizing kvs vs with
  | nil => intro q; exact q
  | @cons p q ps qs h t ih =>
    intro r0
    have e : KV (putK kvs p.1 p.2) (stored vs q.1 q.2) := by
      have := r0.put p.1 h.2
      rw [← h.1]; exact this
    exact ih e
structure M2 (X : Cx) (o : Expr) (m : Str) (apos : Pos) (e f : Expr) (cpos : Pos) : Prop where
  base : attributeBase o m X.env (eval o X.env) = eval o X.env
  few : ((backTo cpos (starEach [e, f] X.env)).all (fun x => !x.1) && (backToKw cpos (keywordEach [] X.env)).all (fun x => x.1.isSome)
    && decide (([e, f] : List Expr).length + ([] : List Keyword).length + (if ([] : List Keyword).isEmpty then 0 else 1) < 30)) = true
  line : (apos.endLine == cpos.line) = true
  trees : backTo cpos (starEach [e, f] X.env) = [(false, eval e X.env), (false, eval f X.env)]
section
variable {X : Cx} {pins : List (Addr × Obj)} {σ : St} {H : Hp} {s : Shared} {a : Addr} {y d : V} {u r : Value} {o : Option V} {A : Around} {E : Value → Shared → Prop}
end
section
variable {X : Cx} {o e f : Expr} {apos cpos : Pos} {td ty tx : TE}
end
section
variable {X : Cx} {pins : List (Addr × Obj)} {σ : St} {H : Hp} {s : Shared} {a : Addr} {kvs : List (Key × V)} {A : Around} {E : Value → Shared → Prop}
end
section
variable {X : Cx} {pins : List (Addr × Obj)} {σ : St} {H : Hp} {s : Shared} {a : Addr} {y : V} {u : Value} {A : Around} {E : Value → Shared → Prop}
end
end L2
namespace L2
open PySem PySem.Spec PyProof.Rows
section
variable {prog : Program} {w : World} {A : Around} {E : Value → Shared → Prop}
end
section
variable {X : Cx}
end
end L2
namespace L2
open PySem PySem.Spec PyProof.Rows
section
variable {X : Cx} {pins : List (Addr × Obj)} {σ : St} {H : Hp} {s : Shared} {h' : Heap}
theorem Inv.turnedL {t' : Nat} {ch : List Addr} (I : Inv X pins σ H s) (k : ∀ b o, b ∉ ch → s.heap.get? b = some o → h'.get? b = some o) (hf : ∀ b ∈ ch, FpOk X pins H b) : Inv X pins σ H { s with heap := h', toks := t' } := by
  have nit : ∀ b u, H b = some u → b ∉ ch := fun b u e z => by
    have q := (hf b z).1
    rw [q] at e; cases e
  refine I.step (g' := s.gens) (d' := s.drawn) (ch := ch) (fun b hb => ⟨(hf b hb).2.2.2.1, (hf b hb).2.1, (hf b hb).2.2.2.2.1, (hf b hb).2.2.2.2.2⟩) (fun b o _ _ hc e _ => k b o hc e) (fun b o _ _ hc e _ => ⟨o.slots, k b o hc e⟩)
    (fun _ _ _ _ n => n) (fun b o hc e => ⟨o, k b o hc e⟩) (fun _ _ e => e) (fun _ _ _ e => e) (fun b ps e => ⟨#[], by rw [e]; simp⟩) (fun m hm => ?_) (fun b u e => ?_) I.bare
  · obtain ⟨o, es, ep, ho, r⟩ := hm
    exact ⟨o, es, ep, k _ o (fun z => (hf _ z).2.1 rfl) ho, r⟩
  · refine (I.hok b u e).stay (fun c v hc q => k c v ?_ q) (fun _ q => q) fun _ _ q => q
    rcases hc with z | z
    · rw [z]; exact nit b u e
    · exact nit c _ z
theorem Inv.turnedNew {t' : Nat} {ch : List Addr} {T : Addr} {ob : HO} (I : Inv X pins σ H s) (k : ∀ b o, b ∉ ch → s.heap.get? b = some o → h'.get? b = some o) (hf : ∀ b ∈ ch, FpOk X pins H b) (hT : s.heap.objs.size ≤ T)
    (new : ObjOk X.prog X.w (upd H T ob) h' T ob) : Inv X pins σ (upd H T ob) { s with heap := h', toks := t' } := by
  have hn : H T = none := I.hok.fresh hT
  have nit : ∀ b u, H b = some u → b ∉ ch := fun b u e z => by
    have q := (hf b z).1
    rw [q] at e; cases e
  refine I.step (g' := s.gens) (d' := s.drawn) (ch := ch) (fun b hb => ⟨(hf b hb).2.2.2.1, (hf b hb).2.1, (hf b hb).2.2.2.2.1, (hf b hb).2.2.2.2.2⟩) (fun b o _ _ hc e _ => k b o hc e) (fun b o _ _ hc e _ => ⟨o.slots, k b o hc e⟩)
    (fun b o _ e n => ?_) (fun b o hc e => ⟨o, k b o hc e⟩) (fun b xs e => ?_) (fun b o u e => ?_) (fun b ps e => ⟨#[], ?_⟩) (fun m hm => ?_) (fun b u e => ?_) I.bare
  · rw [upd_ne (Nat.ne_of_lt (Nat.lt_of_lt_of_le (Heap.lt_size e) hT))]; exact n
  · rw [upd_ne (ne_of_none e hn)]; exact e
  · rw [upd_ne (ne_of_none e hn)]; exact e
  · rw [upd_ne (ne_of_none e hn), e]; simp
  · obtain ⟨o, es, ep, ho, r⟩ := hm
    exact ⟨o, es, ep, k _ o (fun z => (hf _ z).2.1 rfl) ho, r⟩
  · by_cases hb : b = T
    · subst hb
      rw [upd_same] at e
      cases e
      exact new
    · rw [upd_ne hb] at e
      refine (I.hok b u e).stay (fun c v hc q => k c v ?_ q) (fun c q => by rw [upd_ne (ne_of_none q hn)]; exact q) fun c xs q => by rw [upd_ne (ne_of_none q hn)]; exact q
      rcases hc with z | z
      · rw [z]; exact nit b u e
      · exact nit c _ z
end
section
variable {X : Cx}
theorem pi_one {tg : Expr} {pins : List (Addr × Obj)} {σ : St} {H : Hp} {s : Shared} {R : It → Hp → Prop} {J : It} {tn : Nat → Heap → Prop} {tk : Nat} (I : Inv X pins σ H s) (o : Obj)
    (T : Turn X.prog X.w X.K tg J [s.heap.objs.size] s.heap.objs.size tn) (st : tn 0 (s.heap.push o)) (q : R J H) : PIE X pins σ tg R (.ref s.heap.objs.size) { s with heap := s.heap.push o, toks := tk } := by
  refine ⟨s.heap.objs.size, [s.heap.objs.size], tn, J, H, rfl, I.kept fun b ob e => Heap.get?_push_of_some _ e, T, st, fun b hb => ?_, q⟩
  have e : b = s.heap.objs.size := by simpa using hb
  subst e
  exact I.fpOk (Nat.le_refl _) (I.hok.fresh (Nat.le_refl _))
end
def Itc (lo c : Int) (n : Nat) : It := ⟨fun i _ => i < n, fun i H x H' => H' = H ∧ x = .int (lo + (i : Nat) * c), fun i _ => n ≤ i⟩
theorem turn_rangeC {P : Program} {w : World} {K : PySem.W.Frag} {tg : Expr} (it : Addr) (lo c : Int) (n : Nat) : Turn P w K tg (Itc lo c n) [it] it (fun i h => IsRangeIter h it (lo + (i : Nat) * c) ((n : Int) - (i : Nat)) c) where
  mem := by simp
  obj := fun i h st b hb => by
    have e : b = it := by simpa using hb
    subst e
    exact ⟨_, st, fun v z => nomatch z⟩
  keep := fun i h h' st k => k it (by simp) _ st
  item := by
    intro X hP hw hK hc i pins s σ H E I hf st hg
    subst hP hw hK
    obtain ⟨f0, f1, f2, f3, f4, f5⟩ := hf it (by simp)
    have W := Walks.range (prog := X.prog) (w := X.w) (I.ok.hd hc) it lo c n
    refine W.item i s _ _ hg st fun v h' tk hv st' kk => ?_
    obtain ⟨t, rfl⟩ := hv
    have I1 : Inv X pins σ H { s with heap := h', toks := tk } := I.turned (fun b o hb e => kk b o (by simpa using hb) e) f0 f1 f3 f4 f5
    exact ⟨_, rfl, go_of (s := { s with heap := h', toks := tk }) (n := "range_iterator") st' rfl rfl (by decide) ⟨.int (lo + (i : Nat) * c), H, I1, ⟨t, rfl⟩, ⟨rfl, rfl⟩, st', fun b hb => (hf b hb).1⟩⟩
  done := by
    intro X hP hw hK hc i pins s σ H E I hf st hg
    subst hP hw hK
    obtain ⟨f0, f1, f2, f3, f4, f5⟩ := hf it (by simp)
    exact wpAny_pyNext_range_end (I.ok.hd hc) st (by have : n ≤ i := hg; omega) fun h' eb => ⟨rfl, I.turned (t' := s.toks) (fun b o hb e => eb b o hb e) f0 f1 f3 f4 f5⟩
  self := fun A i s Q E st h => wpAny_pyIter_rangeiter st h
def RgC (i j c : Int) (n : Nat) : Prop := c ≠ 0 ∧ c.natAbs < 1073741824 ∧ Builtin.Range.small i j c = true ∧ Builtin.Range.rangeSize i j c = n
def iRng3 (ta : TA) : TI := fun σ H R => ta σ H fun vs H1 => ∃ (i j c : Int) (n : Nat), vs = [.int i, .int j, .int c] ∧ RgC i j c n ∧ R (Itc i c n) H1
section
variable {X : Cx} {tg : Expr}
theorem pi_range3 {a b c : Expr} {ta : TA} {p pos : Pos} (hg : Gl X "range") (hm : X.mg "range" = none) (ha : PA X [a, b, c] ta)
    (hs : starEach [a, b, c] X.env = (false, eval a X.env) :: starEach [b, c] X.env := by rfl) (hpl : (backTo pos (starEach [b, c] X.env)).any (·.1) = false := by rfl) :
    PI X tg (.Call (.Name "range" p) [a, b, c] [] pos) (iRng3 ta) := by
  intro pins s σ H R I h
  refine Call_ (ld_blt I hg hm boot_range (PyProof.Rows.callWith_type1 (thn (ha pos pins s σ H _ I h) fun us s1 ⟨vs, H1, I1, r1, q1⟩ => ?_) hs hpl))
  obtain ⟨i, j, k, n, e, ⟨c0, c1, c2, c3⟩, q⟩ := q1
  subst e
  cases r1 with
  | cons r rr =>
    cases rr with
    | cons r' rr =>
      cases rr with
      | cons r'' rr =>
        cases rr
        obtain ⟨t, rfl⟩ := r
        obtain ⟨t', rfl⟩ := r'
        obtain ⟨t'', rfl⟩ := r''
        refine call_range_3 c0 ?_ (.inl (PyProof.noPylong_small c1))
        refine wpAny_pyIter_range (IsRange.new ..) c2 ?_
        have I2 : Inv X pins σ H1 { s1 with heap := s1.heap.push { cls := .type "range", data := .fields #[.int i t, .int j t', .int k t''] } } := I1.kept (t' := s1.toks) fun b o e => Heap.get?_push_of_some _ e
        refine pi_one (tk := s1.toks) I2 _ (turn_rangeC _ i k n) ?_ q
        have e1 : i + ((0 : Nat) : Int) * k = i := by simp
        have e2 : (n : Int) - ((0 : Nat) : Int) = Builtin.Range.rangeSize i j k := by rw [c3]; simp
        show IsRangeIter _ _ (i + ((0 : Nat) : Int) * k) ((n : Int) - ((0 : Nat) : Int)) k
        rw [e1, e2]
        exact Heap.get?_push_size _ rfl
end
section
variable {X : Cx} {tg : Expr}
end
section
variable {prog : Program} {w : World} {A : Around} {E : Value → Shared → Prop} {s : Shared}
end
section
variable {X : Cx} {pins : List (Addr × Obj)} {σ : St} {H : Hp} {s : Shared} {d : Addr} {o : Obj}
end
section
variable {P : Program} {w : World} {K : PySem.W.Frag} {tg : Expr} {d : Addr} {o : Obj} {es : Array DictEntry} {ep : Nat}
end
section
variable {X : Cx} {tg e : Expr} {td : TE} {apos cpos : Pos}
end
def Ite (K : PySem.W.Frag) (a : Addr) : It :=
  ⟨fun i H => ∃ (xs : List V) (x : V), SqL K H a xs ∧ xs[i]? = some x, fun i H v H' => ∃ T x, v = .ref T ∧ H T = none ∧ H' = upd H T (.tup [.int (i : Nat), x]) ∧ ∀ xs, SqL K H a xs → xs[i]? = some x, fun i H => ∃ xs : List V, SqL K H a xs ∧ xs.length ≤ i⟩
theorem turn_enum {P : Program} {w : World} {K : PySem.W.Frag} {elts : List Expr} {kk : Nat} {tpos : Pos} (a e it : Addr) :
    Turn P w K (.Tuple elts kk tpos) (Ite K a) [e, it] e (fun i h => (∃ old, IsEnum h e it ((i : Nat) : Int) old) ∧ h.IsListIter it a i ∧ e ≠ it) where
  mem := by simp
  obj := fun i h st b hb => by
    obtain ⟨⟨old, he⟩, ⟨o, ho, hc, hd⟩, _⟩ := st
    have e' : b = e ∨ b = it := by simpa using hb
    rcases e' with z | z
    · rw [z]; exact ⟨_, he, fun v q => nomatch q⟩
    · rw [z]; exact ⟨o, ho, fun v q => by rw [hd] at q; cases q⟩
  keep := fun i h h' st k => let ⟨⟨old, he⟩, hi, hne⟩ := st; ⟨⟨old, k e (by simp) _ he⟩, hi.at fun o q => k it (by simp) o q, hne⟩
  item := by
    intro X hP hw hK hc i pins s σ H E I hf st hg
    subst hP hw hK
    obtain ⟨⟨old, he⟩, hit, hne⟩ := st
    obtain ⟨xs, x, hq, hx⟩ := hg
    obtain ⟨its, rv, p, hz⟩ := I.list hq
    obtain ⟨u, hu, ru⟩ := rv.get hx
    have hel : e < s.heap.objs.size := Heap.lt_size he
    have hil : it < s.heap.objs.size := by obtain ⟨_, q, _⟩ := hit; exact Heap.lt_size q
    refine wpAny_pyNext_enum_item he hit p.isList (x := u) (by simpa using hu) hne fun h' ho hit' hT hsz hk => ?_
    refine ⟨_, rfl, wpAny_letOwnedTupleGo_enum (s := { s with heap := h', toks := s.toks + 1 }) ho fun h'' he' sb => ?_⟩
    have hT2 : h''.get? s.heap.objs.size = some { cls := .type "tuple", data := .seq #[.int i s.toks, u] } := (sb.2 _ (Nat.ne_of_gt hel)).trans hT
    have new : ObjOk X.prog X.w (upd H s.heap.objs.size (.tup [.int (i : Nat), x])) h'' s.heap.objs.size (.tup [.int (i : Nat), x]) :=
      ⟨by show 2 ≤ sizeLine; decide, [.int i s.toks, u], .cons ⟨_, rfl⟩ (.cons ru .nil), ⟨_, hT2, rfl, _, rfl⟩⟩
    have I1 : Inv X pins σ (upd H s.heap.objs.size (.tup [.int (i : Nat), x])) { s with heap := h'', toks := s.toks + 1 } :=
      I.turnedNew (ch := [e, it]) (fun b ob hb q => (sb.2 b (fun z => hb (by simp [z]))).trans (hk b ob (fun z => hb (by simp [z])) (fun z => hb (by simp [z])) q)) hf (Nat.le_refl _) new
    refine ⟨.ref s.heap.objs.size, _, I1, rfl, ⟨_, x, rfl, I.hok.fresh (Nat.le_refl _), rfl, fun ys hy => by rw [I.list_inj hy hq]; exact hx⟩, ⟨⟨u, ?_⟩, hit'.at fun o q => (sb.2 it (Ne.symm hne)).trans q, hne⟩, fun b hb => ?_⟩
    · have e1 : ((i + 1 : Nat) : Int) = (i : Int) + 1 := by omega
      rw [e1]; exact he'
    · have hb' : b < s.heap.objs.size := by
        have e' : b = e ∨ b = it := by simpa using hb
        rcases e' with z | z
        · rw [z]; exact hel
        · rw [z]; exact hil
      rw [upd_ne (Nat.ne_of_lt hb')]
      exact (hf b hb).1
  done := by
    intro X hP hw hK hc i pins s σ H E I hf st hg
    subst hP hw hK
    obtain ⟨⟨old, he⟩, hit, hne⟩ := st
    obtain ⟨xs, hq, hx⟩ := hg
    obtain ⟨its, rv, p, hz⟩ := I.list hq
    obtain ⟨f0, f1, f2, f3, f4, f5⟩ := hf it (by simp)
    have hl := rv.length
    exact wpAny_pyNext_enum_end (I.ok.hd hc) he hit p.isList (by simp; omega) fun h' eb => ⟨rfl, I.turned (t' := s.toks) (fun b o hb q => eb b o hb q) f0 f1 f3 f4 f5⟩
  self := fun A i s Q E st h => let ⟨⟨_, he⟩, _⟩ := st; wpAny_pyIter_enum he h
def iEnum (K : PySem.W.Frag) (ta : TA) : TI := fun σ H R => ta σ H fun vs H1 => ∃ a xs, vs = [.ref a] ∧ SqL K H1 a xs ∧ R (Ite K a) H1
theorem pi_enum {X : Cx} {e : Expr} {ta : TA} {p pos tpos : Pos} {elts : List Expr} {kk : Nat} (hg : Gl X "enumerate") (hm : X.mg "enumerate" = none) (ha : PA X [e] ta) (hs : starEach [e] X.env = [(false, eval e X.env)] := by rfl) :
    PI X (.Tuple elts kk tpos) (.Call (.Name "enumerate" p) [e] [] pos) (iEnum X.K ta) := by
  intro pins s σ H R I h
  refine Call_ (ld_blt I hg hm boot_enumerate (PyProof.Rows.callWith_type1 (thn (ha pos pins s σ H _ I h) fun us s1 ⟨vs, H1, I1, r1, q1⟩ => ?_) hs rfl))
  obtain ⟨a, xs, ex, hq, q⟩ := q1
  subst ex
  cases r1 with
  | cons r rr =>
    cases rr
    cases r
    obtain ⟨its, rv, p', hz⟩ := I1.list hq
    refine call_enumerate_list p'.isList fun h' he hit hsz hk => wpAny_pyIter_enum he ?_
    have I2 : Inv X pins σ H1 { s1 with heap := h' } := I1.kept (t' := s1.toks) hk
    refine ⟨s1.heap.objs.size + 1, [s1.heap.objs.size + 1, s1.heap.objs.size], _, _, H1, rfl, I2, turn_enum a (s1.heap.objs.size + 1) s1.heap.objs.size, ⟨⟨.none, he⟩, hit, Nat.succ_ne_self _⟩, fun b hb => ?_, q⟩
    have e' : b = s1.heap.objs.size + 1 ∨ b = s1.heap.objs.size := by simpa using hb
    have hle : s1.heap.objs.size ≤ b := by
      rcases e' with z | z
      · rw [z]; exact Nat.le_add_right _ _
      · rw [z]; exact Nat.le_refl _
    exact I1.fpOk hle (I1.hok.fresh hle)
theorem boot_zip5 : bootBuiltins "zip" = some (.type "zip") := by decide +kernel
def Itz (K : PySem.W.Frag) (a b : Addr) : It :=
  ⟨fun i H => ∃ (xs ys : List V) (x y : V), SqL K H a xs ∧ SqL K H b ys ∧ xs[i]? = some x ∧ ys[i]? = some y,
    fun i H v H' => ∃ T x y, v = .ref T ∧ H T = none ∧ H' = upd H T (.tup [x, y]) ∧ (∀ xs, SqL K H a xs → xs[i]? = some x) ∧ ∀ ys, SqL K H b ys → ys[i]? = some y,
    fun i H => ∃ xs ys : List V, SqL K H a xs ∧ SqL K H b ys ∧ (xs.length ≤ i ∨ ys.length ≤ i)⟩
theorem turn_zip {P : Program} {w : World} {K : PySem.W.Frag} {elts : List Expr} {kk : Nat} {tpos : Pos} {a b z TI TO i1 i2 : Addr} (D : ZipApart z TI TO i1 i2 a b) :
    Turn P w K (.Tuple elts kk tpos) (Itz K a b) [z, TI, TO, i1, i2] z (fun i h => IsZip h z TI TO .none ∧ IsPair h TI (.ref i1) (.ref i2) ∧ (∃ x y, IsPair h TO x y) ∧ h.IsListIter i1 a i ∧ h.IsListIter i2 b i) where
  mem := by simp
  obj := fun i h st c hc => by
    obtain ⟨hz, hTI, ⟨x, y, hTO⟩, ⟨o1, e1, _, d1⟩, ⟨o2, e2, _, d2⟩⟩ := st
    have e' : c = z ∨ c = TI ∨ c = TO ∨ c = i1 ∨ c = i2 := by simpa using hc
    rcases e' with q | q | q | q | q
    · rw [q]; exact ⟨_, hz, fun v q => nomatch q⟩
    · rw [q]; exact ⟨_, hTI, fun v q => nomatch q⟩
    · rw [q]; exact ⟨_, hTO, fun v q => nomatch q⟩
    · rw [q]; exact ⟨o1, e1, fun v q => by rw [d1] at q; cases q⟩
    · rw [q]; exact ⟨o2, e2, fun v q => by rw [d2] at q; cases q⟩
  keep := fun i h h' st k => by
    obtain ⟨hz, hTI, ⟨x, y, hTO⟩, h1, h2⟩ := st
    exact ⟨k z (by simp) _ hz, k TI (by simp) _ hTI, ⟨x, y, k TO (by simp) _ hTO⟩, h1.at fun o q => k i1 (by simp) o q, h2.at fun o q => k i2 (by simp) o q⟩
  item := by
    intro X hP hw hK hc i pins s σ H E I hf st hg
    subst hP hw hK
    obtain ⟨hz, hTI, ⟨x0, y0, hTO⟩, h1, h2⟩ := st
    obtain ⟨xs, ys, x, y, hqx, hqy, hx, hy⟩ := hg
    obtain ⟨its, rv, p, _⟩ := I.list hqx
    obtain ⟨its2, rv2, p2, _⟩ := I.list hqy
    obtain ⟨u, hu, ru⟩ := rv.get hx
    obtain ⟨u2, hu2, ru2⟩ := rv2.get hy
    have hzl : z < s.heap.objs.size := Heap.lt_size hz
    refine wpAny_pyNext_zip_item D hz hTI hTO h1 h2 p.isList p2.isList (x := u) (y := u2) (by simpa using hu) (by simpa using hu2) fun h' z' TO' h1' h2' hT hsz hk => ?_
    refine ⟨_, rfl, wpAny_letOwnedTupleGo_zip (s := { s with heap := h' }) z' fun h'' z'' sb => ?_⟩
    have hT2 : h''.get? s.heap.objs.size = some { cls := .type "tuple", data := .seq #[u, u2] } := (sb.2 _ (Nat.ne_of_gt hzl)).trans hT
    have new : ObjOk X.prog X.w (upd H s.heap.objs.size (.tup [x, y])) h'' s.heap.objs.size (.tup [x, y]) :=
      ⟨by show 2 ≤ sizeLine; decide, [u, u2], .cons ru (.cons ru2 .nil), ⟨_, hT2, rfl, _, rfl⟩⟩
    have I1 : Inv X pins σ (upd H s.heap.objs.size (.tup [x, y])) { s with heap := h'' } :=
      I.turnedNew (t' := s.toks) (ch := [z, TI, TO, i1, i2]) (fun c o hb q => (sb.2 c (fun q' => hb (by simp [q']))).trans (hk c o (fun q' => hb (by simp [q'])) (fun q' => hb (by simp [q'])) (fun q' => hb (by simp [q'])) (fun q' => hb (by simp [q'])) q)) hf (Nat.le_refl _) new
    refine ⟨.ref s.heap.objs.size, _, I1, rfl, ⟨_, x, y, rfl, I.hok.fresh (Nat.le_refl _), rfl, fun l hl => by rw [I.list_inj hl hqx]; exact hx, fun l hl => by rw [I.list_inj hl hqy]; exact hy⟩, ⟨z'', ?_, ⟨u, u2, ?_⟩, ?_, ?_⟩, fun c hcm => ?_⟩
    · exact (sb.2 _ D.TIz).trans (hk _ _ D.TIz D.TITO D.TIi1 D.TIi2 hTI)
    · exact (sb.2 _ D.TOz).trans TO'
    · exact h1'.at fun o q => (sb.2 _ D.i1z).trans q
    · exact h2'.at fun o q => (sb.2 _ D.i2z).trans q
    · have hlt : c < s.heap.objs.size := by
        have e' : c = z ∨ c = TI ∨ c = TO ∨ c = i1 ∨ c = i2 := by simpa using hcm
        rcases e' with q | q | q | q | q
        · rw [q]; exact hzl
        · rw [q]; exact Heap.lt_size hTI
        · rw [q]; exact Heap.lt_size hTO
        · rw [q]; obtain ⟨_, e1, _⟩ := h1; exact Heap.lt_size e1
        · rw [q]; obtain ⟨_, e2, _⟩ := h2; exact Heap.lt_size e2
      rw [upd_ne (Nat.ne_of_lt hlt)]
      exact (hf c hcm).1
  done := by
    intro X hP hw hK hc i pins s σ H E I hf st hg
    subst hP hw hK
    obtain ⟨hz, hTI, ⟨x0, y0, hTO⟩, h1, h2⟩ := st
    obtain ⟨xs, ys, hqx, hqy, hend⟩ := hg
    obtain ⟨its, rv, p, _⟩ := I.list hqx
    obtain ⟨its2, rv2, p2, _⟩ := I.list hqy
    have l1 := rv.length
    have l2 := rv2.length
    have he : its.toArray[i]? = none ∨ its2.toArray[i]? = none := by
      rcases hend with q | q
      · exact .inl (by simp; omega)
      · exact .inr (by simp; omega)
    exact wpAny_pyNext_zip_end (I.ok.hd hc) D hz hTI hTO h1 h2 p.isList p2.isList he fun h' hk => ⟨rfl, I.turnedL (t' := s.toks) (ch := [z, TI, TO, i1, i2]) (fun c o hb q =>
      hk c o (fun q' => hb (by simp [q'])) (fun q' => hb (by simp [q'])) (fun q' => hb (by simp [q'])) (fun q' => hb (by simp [q'])) q) hf⟩
  self := fun A i s Q E st h => wpAny_pyIter_zip st.1 h
def iZip (K : PySem.W.Frag) (ta : TA) : TI := fun σ H R => ta σ H fun vs H1 => ∃ a b xs ys, vs = [.ref a, .ref b] ∧ SqL K H1 a xs ∧ SqL K H1 b ys ∧ R (Itz K a b) H1
theorem pi_zip {X : Cx} {e e2 : Expr} {ta : TA} {p pos tpos : Pos} {elts : List Expr} {kk : Nat} (hg : Gl X "zip") (hm : X.mg "zip" = none) (ha : PA X [e, e2] ta)
    (hs : starEach [e, e2] X.env = (false, eval e X.env) :: starEach [e2] X.env := by rfl) (hpl : (backTo pos (starEach [e2] X.env)).any (·.1) = false := by rfl) :
    PI X (.Tuple elts kk tpos) (.Call (.Name "zip" p) [e, e2] [] pos) (iZip X.K ta) := by
  intro pins s σ H R I h
  refine Call_ (ld_blt I hg hm boot_zip5 (PyProof.Rows.callWith_type1 (thn (ha pos pins s σ H _ I h) fun us s1 ⟨vs, H1, I1, r1, q1⟩ => ?_) hs hpl))
  obtain ⟨a, b, xs, ys, ex, hqx, hqy, q⟩ := q1
  subst ex
  cases r1 with
  | cons r rr =>
    cases rr with
    | cons r' rr =>
      cases rr
      cases r
      cases r'
      obtain ⟨its, rv, p1, _⟩ := I1.list hqx
      obtain ⟨its2, rv2, p2, _⟩ := I1.list hqy
      have la : a < s1.heap.objs.size := p1.lt
      have lb : b < s1.heap.objs.size := p2.lt
      refine call_zip_2 p1.isList p2.isList fun h' hz hTI hTO h1 h2 hsz hk => wpAny_pyIter_zip hz ?_
      have I2 : Inv X pins σ H1 { s1 with heap := h' } := I1.kept (t' := s1.toks) hk
      refine ⟨s1.heap.objs.size + 4, [s1.heap.objs.size + 4, s1.heap.objs.size + 2, s1.heap.objs.size + 3, s1.heap.objs.size, s1.heap.objs.size + 1], _, _, H1, rfl, I2, turn_zip (PySem.W.ktu_apart s1.heap.objs.size a b la lb), ⟨hz, hTI, ⟨_, _, hTO⟩, h1, h2⟩, fun c hcm => ?_, q⟩
      have e' : c = s1.heap.objs.size + 4 ∨ c = s1.heap.objs.size + 2 ∨ c = s1.heap.objs.size + 3 ∨ c = s1.heap.objs.size ∨ c = s1.heap.objs.size + 1 := by simpa using hcm
      have hle : s1.heap.objs.size ≤ c := by
        rcases e' with z | z | z | z | z
        · rw [z]; exact Nat.le_add_right _ _
        · rw [z]; exact Nat.le_add_right _ _
        · rw [z]; exact Nat.le_add_right _ _
        · rw [z]; exact Nat.le_refl _
        · rw [z]; exact Nat.le_add_right _ _
      exact I1.fpOk hle (I1.hok.fresh hle)
end L2
section
namespace Bits
open PySem PyProof.Rows
end Bits
end
section
namespace TL
open PySem PySem.Builtin PySem.Builtin.Str PySem.StrLaws
abbrev tl (x : Str) : List Nat := x.cps.toList
def pre (S l : List Nat) : Bool := l.take S.length == S
def par (S : List Nat) : List Nat → List Nat → Option (List Nat × List Nat)
  | _, [] => none
  | acc, c :: r => if pre S (c :: r) = true then some (acc, (c :: r).drop S.length) else par S (acc ++ [c]) r
end TL
end
namespace L2
open PySem PySem.Spec PyProof.Rows
section
variable {X : Cx} {pins : List (Addr × Obj)} {σ : St} {H : Hp} {s : Shared} {Q : VK}
end
section
variable {X : Cx}
end
section
variable {X : Cx} {o e : Expr} {to te : TE}
end
end L2
namespace L2
open PySem PySem.Spec PyProof.Rows
section
variable {X : Cx}
end
theorem IsPart.raw {v : Value} {o : Option Int} (p : IsPart v o) : ∃ l : Option (Int × Tok), v = partValue l ∧ l.map (·.1) = o := by
  cases p with
  | none => exact ⟨none, rfl, rfl⟩
  | int i t => exact ⟨some (i, t), rfl, rfl⟩
end L2
namespace Att
open PySem PySem.W PySem.Calls PyProof.Rows
section
variable {prog : Program} {w : World} {A : Around} {E : Value → Shared → Prop} {s : Shared} {K : Frag}
end
end Att
namespace L2
open PySem PySem.Spec PyProof.Rows
end L2
namespace L2
open PySem PySem.Spec PyProof.Rows
end L2
/- THE LAST THEOREM (shape; LID, My.* are yours):
   My.Adr: a structure of the addresses that your layer names (classes, functions); My.Txt K t: a structure (Prop) of the equations over K;
   My.txt_mk : {K} {implicit addresses ..} (e1 : nsIn K mainGlobals "law" = some (some (.ref f))) (e2 : K.lookup f = some ⟨oc, od, .func (fnOf "law" "law" params body scope dV kV doc pm an cdv ct), sl⟩) (e3 : codeIn K cdv "law" = true) .. : ∃ t, My.Txt K t
set_option maxRecDepth 100000 in
set_option maxHeartbeats 0 in
(the tactic k_is has no namespace: write k_is) -/
namespace L2
open PySem PySem.Spec PyProof.Rows
def inClass (s : Stmt) (j : Nat) : Stmt := match s with
  | .ClassDef _ _ _ body _ _ _ _ _ _ _ => body.getD j (.Pass ⟨0, 0, 0, 0⟩)
  | _ => .Pass ⟨0, 0, 0, 0⟩
def defArgs (s : Stmt) : Arguments := match s with
  | .FunctionDef _ a _ _ _ _ _ _ _ _ => a
  | _ => { posonlyargs := [], args := [], vararg := none, kwonlyargs := [], kw_defaults := [], kwarg := none, defaults := [] }
def defBody (s : Stmt) : List Stmt := match s with
  | .FunctionDef _ _ b _ _ _ _ _ _ _ => b
  | _ => []
def defScope (s : Stmt) : Scope := match s with
  | .FunctionDef _ _ _ _ _ _ sc _ _ _ => sc
  | _ => { kind := .function, names := [], isGenerator := false, isCoroutine := false }
abbrev CX0 : CXT := fun _ _ _ _ _ _ => False
abbrev E0 : XK := fun _ _ _ => False
theorem pass0 {X : Cx} : Passes CX0 X E0 := fun _ _ _ _ _ _ _ h => h.elim
structure Fun (K : PySem.W.Frag) (x qual : Str) (st : Stmt) (f : Addr) (fd : FuncData) : Prop where
  ex : ∃ (oc : Value) (od : Option Addr) (kV doc pm : Value) (an : Option Addr) (cdv ct : Value) (osl : Array (Option Value)),
    fd = PySem.W.fnOf x qual (defArgs st) (defBody st) (defScope st) .none kV doc pm an cdv ct ∧ K.lookup f = some ⟨oc, od, .func fd, osl⟩ ∧ PySem.W.codeIn K cdv qual = true
  kp : PySem.W.keepIn K (.ref f) = true
section
variable {P : Program} {w : World} {K : PySem.W.Frag} {mg : Str → Option Value} {base : Heap}
theorem Fun.ok {x qual : Str} {st : Stmt} {f : Addr} {fd : FuncData} {N ps : List Str} {k : Nat} {sp : Sp} (F : Fun K x qual st f fd) (S : FnScope N ps (defScope st)) (len : ∀ vs H Q E, sp vs H Q E → vs.length = ps.length)
    (hbody : ∀ (cdv : Value) (A : Around) (outer : List Env) (s : Shared) (H : Hp) (vs : List V) (Q : VK) (E : XK), Room k (A.deeper (envOfC qual (defScope st) s.heap.objs.size f cdv)) → sp vs H Q E →
      ∃ t, PSs (cxOf CX0 P w K mg base N qual (defScope st) f cdv A outer s H E).nox (defBody st) t ∧ t { nx := fun _ H' => Q .non H', rt := Q } (start N vs) H) : FnOk P w K mg base CX0 (k + 1) f fd ps sp := by
  obtain ⟨oc, od, kV, doc, pm, an, cdv, ct, osl, rfl, lk, hcd⟩ := F.ex
  refine fn_of lk hcd S len fun A outer s H vs Q E hr hsp => ?_
  obtain ⟨t, h, q⟩ := hbody cdv A outer s H vs Q E hr hsp
  exact ⟨t, h.nox, q⟩
theorem Fun.binds {x qual : Str} {st : Stmt} {f : Addr} {fd : FuncData} {ps : List Str} (F : Fun K x qual st f fd)
    (h : ∀ (kV doc pm : Value) (an : Option Addr) (cdv ct : Value) (us : List Value), us.length = ps.length → bindArgs (PySem.W.fnOf x qual (defArgs st) (defBody st) (defScope st) .none kV doc pm an cdv ct) ⟨us, []⟩ = pure (ps.zip us)) : Binds K fd ps [] := by
  obtain ⟨oc, od, kV, doc, pm, an, cdv, ct, osl, rfl, lk, hcd⟩ := F.ex
  exact .all (h kV doc pm an cdv ct)
theorem fun_mk {x qual : Str} {st : Stmt} {f : Addr} {oc : Value} {od an : Option Addr} {osl : Array (Option Value)} {kV doc pm cdv ct : Value} (l : K.lookup f = some ⟨oc, od, .func (PySem.W.fnOf x qual (defArgs st) (defBody st) (defScope st) .none kV doc pm an cdv ct), osl⟩)
    (c : PySem.W.codeIn K cdv qual = true) (k : PySem.W.keepIn K (.ref f) = true) : Fun K x qual st f (PySem.W.fnOf x qual (defArgs st) (defBody st) (defScope st) .none kV doc pm an cdv ct) := ⟨⟨oc, od, kV, doc, pm, an, cdv, ct, osl, rfl, l, c⟩, k⟩
end
section
variable {X : Cx}
theorem pv (i : Nat) {x : Str} {pos : Pos} (hN : X.N[i]? = some x := by rfl) (hv : Vis X.env.scope x := by first | exact Or.inl rfl | exact Or.inr (Or.inl rfl) | exact Or.inr (Or.inr rfl)) (hd : (x == ("__debug__" : Str)) = false := by decide)
    (hcd : (x == ("__classdict__" : Str)) = false := by decide) : PE X (.Name x pos) (tVar i) := pe_var hN hv hd hcd
end
theorem iteF {A B : Prop} (h : B) : if false = true then A else B := by
  rw [if_neg Bool.false_ne_true]
  exact h
theorem iteT {A B : Prop} (h : A) : if true = true then A else B := by
  rw [if_pos rfl]
  exact h
theorem ite2 {c A B : Prop} [Decidable c] (h1 : c → A) (h2 : ¬ c → B) : if c then A else B := by
  by_cases h : c
  · rw [if_pos h]
    exact h1 h
  · rw [if_neg h]
    exact h2 h
def Same (H H' : Hp) : Prop := ∀ b o, H b = some o → H' b = some o
theorem Same.refl (H : Hp) : Same H H := fun _ _ h => h
theorem Same.trans {H H1 H2 : Hp} (a : Same H H1) (b : Same H1 H2) : Same H H2 := fun c o h => b c o (a c o h)
theorem Same.free {H H' : Hp} (e : Same H H') {l : Addr} (h : H' l = Option.none) : H l = Option.none := by
  cases q : H l with
  | none => rfl
  | some o =>
    rw [e l o q] at h
    cases h
theorem Same.seq {K : PySem.W.Frag} {H H' : Hp} {a : Addr} {xs : List V} (e : Same H H') (h : SqL K H a xs) : SqL K H' a xs := by
  rcases h with (h | ⟨o, h⟩) | h
  · exact .inl (.inl (e _ _ h))
  · exact .inl (.inr ⟨o, e _ _ h⟩)
  · exact .inr h
section
variable {κ : Type} [DecidableEq κ]
end
theorem at_of {xs : List V} {z : Int} {j : Nat} {v : V} (e : z = (j : Int)) (h : xs[j]? = some v) : atI xs z = some v := by
  rw [e]
  exact atI_nat h
theorem Same.made {H H1 : Hp} {x dx C : Addr} (nx : H x = Option.none) (nd : H dx = Option.none) (k : ∀ b o, (upd (upd H dx (.own x)) x (.ins C dx [])) b = some o → b ≠ x → H1 b = some o) : Same H H1 := fun b o e =>
  k b o (by rw [upd_ne (ne_of_none e nx), upd_ne (ne_of_none e nd)]; exact e) (ne_of_none e nx)
end L2
section
set_option Elab.async false
set_option linter.all false
set_option maxRecDepth 100000
set_option maxHeartbeats 2000000
namespace L2
open PySem PySem.Spec PyProof.Rows
open PySem.W (WData Codec OpenSpec Well WellAll ReadsW ReadsAllW)
mutual
inductive Dw (K : PySem.W.Frag) (H : Hp) : V → WData → Prop
  | non : Dw K H .non .none
  | bl (b : Bool) : Dw K H (.bl b) (.bool b)
  | int (i : Int) : Dw K H (.int i) (.int i)
  | str (x : Str) : Dw K H (.str x) (.str x)
  | byt (b : Array UInt8) : Dw K H (.byt b) (.bytes b.toList)
  | lst {a : Addr} {xs : List V} {ds : List WData} : SqL K H a xs → DwAll K H xs ds → Dw K H (.ref a) (.list ds)
  | tup {a : Addr} {xs : List V} {ds : List WData} : SqT K H a xs → DwAll K H xs ds → Dw K H (.ref a) (.tuple ds)
inductive DwAll (K : PySem.W.Frag) (H : Hp) : List V → List WData → Prop
  | nil : DwAll K H [] []
  | cons {v : V} {vs : List V} {d : WData} {ds : List WData} : Dw K H v d → DwAll K H vs ds → DwAll K H (v :: vs) (d :: ds)
end
theorem dw_ints {K : PySem.W.Frag} {H : Hp} : ∀ ns : List Int, DwAll K H (ns.map V.int) (ns.map WData.int)
  | [] => .nil
  | n :: r => .cons (.int n) (dw_ints r)
theorem ints_dw {K : PySem.W.Frag} {H : Hp} : ∀ (ns : List Int) (xs : List V), DwAll K H xs (ns.map WData.int) → xs = ns.map V.int
  | [], xs, h => by
    cases h
    rfl
  | n :: r, xs, h => by
    cases h with
    | cons h1 h2 =>
      cases h1
      rw [ints_dw r _ h2] <;> rfl
section
variable {P : Program} {w : World} {K : PySem.W.Frag} {H : Hp} {h : Heap} {R : PySem.W.WRecords} {cl : Str → Option Addr}
theorem sqL_at {a : Addr} {xs : List V} (hok : HOk P w H h) (KX : K.In h) (q : SqL K H a xs) : ∃ (its : List Value) (o : Obj) (n : Nat), Vals xs its ∧ h.get? a = some o ∧ o.cls = .type "list" ∧ o.data = .seq its.toArray n := by
  rcases q with q | ⟨o, its, n, e, hc, _, hd, _, hv⟩
  · obtain ⟨_, its, n, hv, e⟩ := (show ObjOk P w H h a (.lst xs) from q.ok hok)
    exact ⟨its, _, n, hv, e, rfl, rfl⟩
  · exact ⟨its.toList, o, n, hv, KX _ _ e, hc, by simp [hd]⟩
theorem sqT_at {a : Addr} {xs : List V} (hok : HOk P w H h) (KX : K.In h) (q : SqT K H a xs) : ∃ (its : List Value) (o : Obj) (n : Nat), Vals xs its ∧ h.get? a = some o ∧ o.cls = .type "tuple" ∧ o.data = .seq its.toArray n := by
  rcases q with q | ⟨o, its, n, e, hc, hd, _, hv⟩
  · obtain ⟨_, its, hv, o, e, hc, n, hd⟩ := (show ObjOk P w H h a (.tup xs) from q.ok hok)
    exact ⟨its, o, n, hv, e, hc, hd⟩
  · exact ⟨its.toList, o, n, hv, KX _ _ e, hc, by simp [hd]⟩
mutual
theorem Dw.reads (hok : HOk P w H h) (KX : K.In h) : ∀ (d : WData) (v : V) (u : Value), Dw K H v d → RelV v u → ∃ as, ReadsW R cl h u d as
  | .none, _, _, x, r => by
    cases x
    cases r
    exact ⟨_, ReadsW.none⟩
  | .bool b, _, _, x, r => by
    cases x
    cases r
    exact ⟨_, ReadsW.bool b⟩
  | .int i, _, _, x, r => by
    cases x
    obtain ⟨t, rfl⟩ := r
    exact ⟨_, ReadsW.int i t⟩
  | .str s, _, _, x, r => by
    cases x
    obtain ⟨t, rfl⟩ := r
    exact ⟨_, ReadsW.str s t⟩
  | .bytes b, _, _, x, r => by
    cases x
    obtain ⟨t, rfl⟩ := r
    exact ⟨_, ReadsW.bytes _ t⟩
  | .list ds, _, _, x, r => by
    cases x with
    | lst hs ha =>
      cases r
      obtain ⟨its, o, n, rv, ho, hc, hd⟩ := sqL_at hok KX hs
      obtain ⟨as, hr⟩ := Dw.readsAll hok KX ds _ its ha rv
      exact ⟨_, ReadsW.list ho hc hd hr⟩
  | .tuple ds, _, _, x, r => by
    cases x with
    | tup hs ha =>
      cases r
      obtain ⟨its, o, n, rv, ho, hc, hd⟩ := sqT_at hok KX hs
      obtain ⟨as, hr⟩ := Dw.readsAll hok KX ds _ its ha rv
      exact ⟨_, ReadsW.tuple ho hc hd hr⟩
  | .float _, _, _, x, _ => by cases x
  | .dict _, _, _, x, _ => by cases x
  | .bytearray _, _, _, x, _ => by cases x
  | .set _, _, _, x, _ => by cases x
  | .frozenset _, _, _, x, _ => by cases x
  | .obj _ _, _, _, x, _ => by cases x
theorem Dw.readsAll (hok : HOk P w H h) (KX : K.In h) : ∀ (ds : List WData) (vs : List V) (us : List Value), DwAll K H vs ds → Vals vs us → ∃ as, ReadsAllW R cl h us ds as
  | [], _, _, x, r => by
    cases x
    cases r
    exact ⟨_, ReadsAllW.nil⟩
  | d :: ds, _, _, x, r => by
    cases x with
    | cons h1 h2 =>
      cases r with
      | cons r1 r2 =>
        obtain ⟨as, q1⟩ := Dw.reads hok KX d _ _ h1 r1
        obtain ⟨bs, q2⟩ := Dw.readsAll hok KX ds _ _ h2 r2
        exact ⟨_, ReadsAllW.cons q1 q2⟩
end
end
mutual
def plW : WData → Bool
  | .none => true
  | .bool _ => true
  | .int _ => true
  | .str _ => true
  | .bytes _ => true
  | .list xs => plWs xs
  | .tuple xs => plWs xs
  | _ => false
def plWs : List WData → Bool
  | [] => true
  | x :: r => plW x && plWs r
end
theorem plWs_map {α : Type} {f : α → WData} (h : ∀ a, plW (f a) = true) : ∀ l : List α, plWs (l.map f) = true
  | [] => rfl
  | x :: r => by
    show (plW (f x) && plWs (r.map f)) = true
    rw [h x, plWs_map h r] <;> rfl
theorem pl_enc : ∀ (c : Codec) (a : c.denote), plW (c.enc a) = true
  | .unit, _ => rfl
  | .bool, _ => rfl
  | .int _ _, _ => rfl
  | .nat _ _, _ => rfl
  | .u8, _ => rfl
  | .bytes _ _, _ => rfl
  | .text _ _ _ _, _ => rfl
  | .list _ _ c, a => plWs_map (fun x => pl_enc c x) a
  | .pair c d, a => by
    show (plW (c.enc a.1) && (plW (d.enc a.2) && true)) = true
    rw [pl_enc c a.1, pl_enc d a.2] <;> rfl
  | .triple c d e, a => by
    show (plW (c.enc a.1) && (plW (d.enc a.2.1) && (plW (e.enc a.2.2) && true))) = true
    rw [pl_enc c a.1, pl_enc d a.2.1, pl_enc e a.2.2] <;> rfl
  | .option c, none => rfl
  | .option c, some x => pl_enc c x
theorem pl_encAll : ∀ (cs : List Codec) (a : Codec.denoteAll cs), plWs (Codec.encAll cs a) = true
  | [], _ => rfl
  | c :: cs, a => by
    show (plW (c.enc a.1) && plWs (Codec.encAll cs a.2)) = true
    rw [pl_enc c a.1, pl_encAll cs a.2] <;> rfl
theorem weight_mem : ∀ {xs : List WData} {d : WData}, d ∈ xs → d.weight ≤ WData.weightAll xs
  | [], d, h => absurd h (by simp)
  | x :: r, d, h => by
    show d.weight ≤ x.weight + 1 + WData.weightAll r
    rcases List.mem_cons.mp h with e | m
    · rw [e]
      omega
    · have z := weight_mem m
      omega
def toV : Value → V
  | .none => .non
  | .bool b => .bl b
  | .int i _ => .int i
  | .str x _ => .str x
  | .bytes b _ => .byt b
  | .ref a => .ref a
  | _ => .non
def OkU (A : List Addr) : Value → Prop
  | .none => True
  | .bool _ => True
  | .int _ _ => True
  | .str _ _ => True
  | .bytes _ _ => True
  | .ref a => a ∈ A
  | _ => False
theorem OkU.mono {A B : List Addr} (h : ∀ a ∈ A, a ∈ B) : ∀ {u : Value}, OkU A u → OkU B u := fun {u} x => by
  cases u with
  | ref a => exact h a x
  | none => trivial
  | bool b => trivial
  | int i t => trivial
  | str s t => trivial
  | bytes b t => trivial
  | _ => exact False.elim x
theorem relV_toV {A : List Addr} {u : Value} (x : OkU A u) : RelV (toV u) u := by
  cases u with
  | ref a => rfl
  | none => rfl
  | bool b => rfl
  | int i t => exact ⟨t, rfl⟩
  | str s t => exact ⟨t, rfl⟩
  | bytes b t => exact ⟨t, rfl⟩
  | _ => exact False.elim x
theorem vals_toV {A : List Addr} : ∀ {vs : List Value}, (∀ u ∈ vs, OkU A u) → Vals (vs.map toV) vs
  | [], _ => .nil
  | u :: r, h => .cons (relV_toV (h u (List.mem_cons_self ..))) (vals_toV fun x hx => h x (List.mem_cons_of_mem _ hx))
def ArgOb (h : Heap) (A : List Addr) (a : Addr) : Prop := ∃ vs : List Value, vs.length ≤ sizeLine ∧ (∀ u ∈ vs, OkU A u) ∧
  (h.get? a = some { cls := .type "list", data := .seq vs.toArray } ∨ h.get? a = some { cls := .type "tuple", data := .seq vs.toArray })
theorem ArgOb.mono {h : Heap} {A B : List Addr} {a : Addr} (k : ∀ a ∈ A, a ∈ B) (x : ArgOb h A a) : ArgOb h B a := by
  obtain ⟨vs, h1, h2, h3⟩ := x
  exact ⟨vs, h1, fun u hu => (h2 u hu).mono k, h3⟩
theorem wellAll_len {P : Params} {h : Heap} : ∀ {vs : List Value} {ds : List WData}, WellAll P h vs ds → vs.length = ds.length
  | _, _, .nil => rfl
  | _, _, .cons _ b => by
    show _ + 1 = _ + 1
    rw [wellAll_len b]
theorem well_list {P : Params} {h : Heap} {v : Value} {ds : List WData} (x : Well P h v (.list ds)) : ∃ (a : Addr) (vs : List Value), v = .ref a ∧ h.get? a = some { cls := .type "list", data := .seq vs.toArray } ∧ WellAll P h vs ds := by
  cases x with
  | list ho hall => exact ⟨_, _, rfl, ho, hall⟩
theorem well_tuple {P : Params} {h : Heap} {v : Value} {ds : List WData} (x : Well P h v (.tuple ds)) : ∃ (a : Addr) (vs : List Value), v = .ref a ∧ h.get? a = some { cls := .type "tuple", data := .seq vs.toArray } ∧ WellAll P h vs ds := by
  cases x with
  | tuple ho hall => exact ⟨_, _, rfl, ho, hall⟩
theorem well_cons {P : Params} {h : Heap} {us : List Value} {d : WData} {ds : List WData} (x : WellAll P h us (d :: ds)) : ∃ (v : Value) (vs : List Value), us = v :: vs ∧ Well P h v d ∧ WellAll P h vs ds := by
  cases x with
  | cons a b => exact ⟨_, _, rfl, a, b⟩
theorem line_of {n : Nat} (h : n ≤ 1048576) : n ≤ sizeLine := Nat.le_trans h (by decide)
section
variable {P : Params} {h : Heap}
mutual
theorem area_one : ∀ (d : WData) (v : Value), Well P h v d → plW d = true → d.weight ≤ 1048576 → ∃ A : List Addr, OkU A v ∧ ∀ a ∈ A, ArgOb h A a
  | .none, _, x, _, _ => by
    cases x
    exact ⟨[], trivial, fun a m => absurd m (by simp)⟩
  | .bool b, _, x, _, _ => by
    cases x
    exact ⟨[], trivial, fun a m => absurd m (by simp)⟩
  | .int i, _, x, _, _ => by
    cases x
    exact ⟨[], trivial, fun a m => absurd m (by simp)⟩
  | .str s, _, x, _, _ => by
    cases x
    exact ⟨[], trivial, fun a m => absurd m (by simp)⟩
  | .bytes b, _, x, _, _ => by
    cases x
    exact ⟨[], trivial, fun a m => absurd m (by simp)⟩
  | .list ds, _, x, p, z => by
    obtain ⟨a, vs, rfl, ho, hall⟩ := well_list x
    have z2 : WData.weightAll ds ≤ 1048576 := z
    obtain ⟨A, h1, h2⟩ := area_all ds _ hall p fun d hd => Nat.le_trans (weight_mem hd) z2
    have k : ∀ b ∈ A, b ∈ a :: A := fun b hb => List.mem_cons_of_mem _ hb
    refine ⟨a :: A, List.mem_cons_self .., fun b hb => ?_⟩
    rcases List.mem_cons.mp hb with e | m
    · rw [e]
      exact ⟨vs, line_of (by rw [wellAll_len hall]; exact Nat.le_trans (PySem.W.length_le_weightAllW ds) z2), fun u hu => (h1 u hu).mono k, .inl ho⟩
    · exact (h2 b m).mono k
  | .tuple ds, _, x, p, z => by
    obtain ⟨a, vs, rfl, ho, hall⟩ := well_tuple x
    have z2 : WData.weightAll ds ≤ 1048576 := z
    obtain ⟨A, h1, h2⟩ := area_all ds _ hall p fun d hd => Nat.le_trans (weight_mem hd) z2
    have k : ∀ b ∈ A, b ∈ a :: A := fun b hb => List.mem_cons_of_mem _ hb
    refine ⟨a :: A, List.mem_cons_self .., fun b hb => ?_⟩
    rcases List.mem_cons.mp hb with e | m
    · rw [e]
      exact ⟨vs, line_of (by rw [wellAll_len hall]; exact Nat.le_trans (PySem.W.length_le_weightAllW ds) z2), fun u hu => (h1 u hu).mono k, .inr ho⟩
    · exact (h2 b m).mono k
  | .float _, _, _, p, _ => Bool.noConfusion (show false = true from p)
  | .dict _, _, _, p, _ => Bool.noConfusion (show false = true from p)
  | .bytearray _, _, _, p, _ => Bool.noConfusion (show false = true from p)
  | .set _, _, _, p, _ => Bool.noConfusion (show false = true from p)
  | .frozenset _, _, _, p, _ => Bool.noConfusion (show false = true from p)
  | .obj _ _, _, _, p, _ => Bool.noConfusion (show false = true from p)
theorem area_all : ∀ (ds : List WData) (vs : List Value), WellAll P h vs ds → plWs ds = true → (∀ d ∈ ds, d.weight ≤ 1048576) → ∃ A : List Addr, (∀ u ∈ vs, OkU A u) ∧ ∀ a ∈ A, ArgOb h A a
  | [], _, x, _, _ => by
    cases x
    exact ⟨[], fun u m => absurd m (by simp), fun a m => absurd m (by simp)⟩
  | d :: ds, _, x, p, z => by
    obtain ⟨v, vs, rfl, x1, x2⟩ := well_cons x
    have q : plW d = true ∧ plWs ds = true := Bool.and_eq_true_iff.mp p
    obtain ⟨A, a1, a2⟩ := area_one d v x1 q.1 (z d (List.mem_cons_self ..))
    obtain ⟨B, b1, b2⟩ := area_all ds vs x2 q.2 fun e he => z e (List.mem_cons_of_mem _ he)
    have kA : ∀ b ∈ A, b ∈ A ++ B := fun b hb => List.mem_append.mpr (.inl hb)
    have kB : ∀ b ∈ B, b ∈ A ++ B := fun b hb => List.mem_append.mpr (.inr hb)
    refine ⟨A ++ B, fun u hu => ?_, fun b hb => ?_⟩
    · rcases List.mem_cons.mp hu with e | m
      · rw [e]
        exact a1.mono kA
      · exact (b1 u m).mono kB
    · rcases List.mem_append.mp hb with m | m
      · exact (a2 b m).mono kA
      · exact (b2 b m).mono kB
end
end
def hoOf (o : Obj) : Option HO := match o.data with
  | .seq vs _ => if (o.cls == Value.type "list") = true then some (.frz o (.lst (vs.toList.map toV))) else some (.frz o (.tup (vs.toList.map toV)))
  | _ => none
def argH (K : PySem.W.Frag) (h : Heap) (A : List Addr) : Hp := fun b => if b ∈ A then (if (K.lookup b).isNone = true then (h.get? b).bind hoOf else none) else none
def OnlyF (H : Hp) : Prop := ∀ b, H b = none ∨ ∃ o u, H b = some (.frz o u)
theorem hoOf_lst (vs : List Value) : hoOf { cls := .type "list", data := .seq vs.toArray } = some (.frz { cls := .type "list", data := .seq vs.toArray } (.lst (vs.map toV))) := by
  show (if (Value.type "list" == Value.type "list") = true then some (HO.frz { cls := .type "list", data := .seq vs.toArray } (.lst (vs.toArray.toList.map toV))) else some (HO.frz { cls := .type "list", data := .seq vs.toArray } (.tup (vs.toArray.toList.map toV)))) = _
  rw [if_pos (beq_self_eq_true _)]
theorem hoOf_tup (vs : List Value) : hoOf { cls := .type "tuple", data := .seq vs.toArray } = some (.frz { cls := .type "tuple", data := .seq vs.toArray } (.tup (vs.map toV))) := by
  show (if (Value.type "tuple" == Value.type "list") = true then some (HO.frz { cls := .type "tuple", data := .seq vs.toArray } (.lst (vs.toArray.toList.map toV))) else some (HO.frz { cls := .type "tuple", data := .seq vs.toArray } (.tup (vs.toArray.toList.map toV)))) = _
  rw [if_neg (by decide)]
section
variable {P : Program} {w : World} {K : PySem.W.Frag} {h : Heap} {A : List Addr}
theorem argH_at {b : Addr} {o : Obj} (hb : b ∈ A) (hk : K.lookup b = none) (e : h.get? b = some o) : argH K h A b = hoOf o := by
  unfold argH
  rw [if_pos hb, hk, if_pos (show (none : Option Obj).isNone = true from rfl), e] <;> rfl
theorem of_argH {b : Addr} {u : HO} (q : argH K h A b = some u) : b ∈ A ∧ K.lookup b = none := by
  unfold argH at q
  by_cases hb : b ∈ A
  · rw [if_pos hb] at q
    cases hk : K.lookup b with
    | none => exact ⟨hb, rfl⟩
    | some o =>
      rw [hk, if_neg (by simp)] at q
      cases q
  · rw [if_neg hb] at q
    cases q
theorem argH_is (ar : ∀ a ∈ A, ArgOb h A a) {b : Addr} {u : HO} (q : argH K h A b = some u) : K.lookup b = none ∧ ∃ vs : List Value, vs.length ≤ sizeLine ∧ (∀ u ∈ vs, OkU A u) ∧
    ((h.get? b = some { cls := .type "list", data := .seq vs.toArray } ∧ u = .frz { cls := .type "list", data := .seq vs.toArray } (.lst (vs.map toV))) ∨
     (h.get? b = some { cls := .type "tuple", data := .seq vs.toArray } ∧ u = .frz { cls := .type "tuple", data := .seq vs.toArray } (.tup (vs.map toV)))) := by
  obtain ⟨hb, hk⟩ := of_argH q
  obtain ⟨vs, h1, h2, h3⟩ := ar b hb
  refine ⟨hk, vs, h1, h2, ?_⟩
  rcases h3 with e | e
  · rw [argH_at hb hk e, hoOf_lst] at q
    exact .inl ⟨e, (Option.some.inj q).symm⟩
  · rw [argH_at hb hk e, hoOf_tup] at q
    exact .inr ⟨e, (Option.some.inj q).symm⟩
theorem argH_only (ar : ∀ a ∈ A, ArgOb h A a) : OnlyF (argH K h A) := fun b => by
  cases q : argH K h A b with
  | none => exact .inl rfl
  | some u =>
    obtain ⟨_, vs, _, _, ⟨_, e⟩ | ⟨_, e⟩⟩ := argH_is ar q
    · exact .inr ⟨_, _, by rw [e]⟩
    · exact .inr ⟨_, _, by rw [e]⟩
theorem argH_ok (ar : ∀ a ∈ A, ArgOb h A a) : HOk P w (argH K h A) h := fun b u q => by
  obtain ⟨_, vs, h1, h2, ⟨e, rfl⟩ | ⟨e, rfl⟩⟩ := argH_is ar q
  · exact ⟨e, by rw [List.length_map]; exact h1, vs, _, vals_toV h2, e⟩
  · exact ⟨e, by rw [List.length_map]; exact h1, vs, vals_toV h2, _, e, rfl, _, rfl⟩
theorem seq_inj {c c' : Value} {vs us : List Value} (e : (some { cls := c, data := .seq vs.toArray } : Option Obj) = some { cls := c', data := .seq us.toArray }) : c = c' ∧ vs = us := by
  have e1 := Option.some.inj e
  have e2 : c = c' := congrArg Obj.cls e1
  have e3 : Data.seq vs.toArray = Data.seq us.toArray := congrArg Obj.data e1
  injection e3 with e4
  refine ⟨e2, ?_⟩
  have e5 := congrArg Array.toList e4
  simpa using e5
theorem argL (KX : K.In h) (ar : ∀ a ∈ A, ArgOb h A a) {a : Addr} {vs : List Value} (ha : a ∈ A) (e : h.get? a = some { cls := .type "list", data := .seq vs.toArray }) : (∀ u ∈ vs, OkU A u) ∧ SqL K (argH K h A) a (vs.map toV) := by
  obtain ⟨us, h1, h2, h3⟩ := ar a ha
  have hu : us = vs := by
    rcases h3 with q | q
    · rw [e] at q
      exact (seq_inj q).2.symm
    · rw [e] at q
      exact absurd (Value.type.inj (seq_inj q).1) (by decide)
  subst hu
  refine ⟨h2, ?_⟩
  cases hk : K.lookup a with
  | none => exact .inl (.inr ⟨_, by rw [argH_at ha hk e, hoOf_lst]⟩)
  | some o =>
    have e2 := KX a o hk
    rw [e] at e2
    obtain rfl := Option.some.inj e2
    exact .inr ⟨_, us.toArray, _, hk, rfl, rfl, rfl, by rw [List.size_toArray]; exact h1, by simpa using vals_toV h2⟩
theorem argT (KX : K.In h) (ar : ∀ a ∈ A, ArgOb h A a) {a : Addr} {vs : List Value} (ha : a ∈ A) (e : h.get? a = some { cls := .type "tuple", data := .seq vs.toArray }) : (∀ u ∈ vs, OkU A u) ∧ SqT K (argH K h A) a (vs.map toV) := by
  obtain ⟨us, h1, h2, h3⟩ := ar a ha
  have hu : us = vs := by
    rcases h3 with q | q
    · rw [e] at q
      exact absurd (Value.type.inj (seq_inj q).1) (by decide)
    · rw [e] at q
      exact (seq_inj q).2.symm
  subst hu
  refine ⟨h2, ?_⟩
  cases hk : K.lookup a with
  | none => exact .inl (.inr ⟨_, by rw [argH_at ha hk e, hoOf_tup]⟩)
  | some o =>
    have e2 := KX a o hk
    rw [e] at e2
    obtain rfl := Option.some.inj e2
    exact .inr ⟨_, us.toArray, _, hk, rfl, rfl, by rw [List.size_toArray]; exact h1, by simpa using vals_toV h2⟩
mutual
theorem dw_one {Pm : Params} (KX : K.In h) (ar : ∀ a ∈ A, ArgOb h A a) : ∀ (d : WData) (v : Value), Well Pm h v d → plW d = true → OkU A v → Dw K (argH K h A) (toV v) d
  | .none, _, x, _, _ => by
    cases x
    exact .non
  | .bool b, _, x, _, _ => by
    cases x
    exact .bl b
  | .int i, _, x, _, _ => by
    cases x
    exact .int i
  | .str s, _, x, _, _ => by
    cases x
    exact .str s
  | .bytes b, _, x, _, _ => by
    cases x
    have z := Dw.byt (K := K) (H := argH K h A) b.toArray
    exact z
  | .list ds, _, x, p, hu => by
    obtain ⟨a, vs, rfl, ho, hall⟩ := well_list x
    obtain ⟨h2, hs⟩ := argL KX ar hu ho
    exact .lst hs (dw_all KX ar ds _ hall p h2)
  | .tuple ds, _, x, p, hu => by
    obtain ⟨a, vs, rfl, ho, hall⟩ := well_tuple x
    obtain ⟨h2, hs⟩ := argT KX ar hu ho
    exact .tup hs (dw_all KX ar ds _ hall p h2)
  | .float _, _, _, p, _ => Bool.noConfusion (show false = true from p)
  | .dict _, _, _, p, _ => Bool.noConfusion (show false = true from p)
  | .bytearray _, _, _, p, _ => Bool.noConfusion (show false = true from p)
  | .set _, _, _, p, _ => Bool.noConfusion (show false = true from p)
  | .frozenset _, _, _, p, _ => Bool.noConfusion (show false = true from p)
  | .obj _ _, _, _, p, _ => Bool.noConfusion (show false = true from p)
theorem dw_all {Pm : Params} (KX : K.In h) (ar : ∀ a ∈ A, ArgOb h A a) : ∀ (ds : List WData) (vs : List Value), WellAll Pm h vs ds → plWs ds = true → (∀ u ∈ vs, OkU A u) → DwAll K (argH K h A) (vs.map toV) ds
  | [], _, x, _, _ => by
    cases x
    exact .nil
  | d :: ds, _, x, p, hu => by
    obtain ⟨v, vs, rfl, x1, x2⟩ := well_cons x
    have q : plW d = true ∧ plWs ds = true := Bool.and_eq_true_iff.mp p
    exact .cons (dw_one KX ar d v x1 q.1 (hu _ (List.mem_cons_self ..))) (dw_all KX ar ds vs x2 q.2 fun u m => hu u (List.mem_cons_of_mem _ m))
end
end
theorem spec_call {P : Program} {w : World} {K : PySem.W.Frag} {mg mb : Str → Option Value} {CX : CXT} {k : Nat} {fa : Addr} {fd : FuncData} {ps : List Str} {sp : Sp} {s₁ : Shared} {vals : List Value} {ds : List WData} {R : PySem.W.WRecords} {cl : Str → Option Addr} {d0 : WData}
    (KX : K.In s₁.heap) (hns : s₁.heap.Ns mainGlobals mg) (hb : s₁.heap.Ns builtinsNs mb) (hbb : ∀ x : Str, x ≠ "__name__" → mb x = bootBuiltins x) (hlim : s₁.heap.NoLimit) (hg : s₁.gens = #[])
    (hwl : WellAll w.params s₁.heap vals ds) (hpl : plWs ds = true) (hwt : ∀ d ∈ ds, d.weight ≤ 1048576) (hr : Room k callerA)
    (F : ∀ base : Heap, K.In base → base.Ns mainGlobals mg → FnOk P w K mg base CX k fa fd ps sp) (hbind : ∀ (s : Shared) (us : List Value), us.length = ps.length → BindsTo s fd ⟨us, []⟩ (ps.zip us)) (hlen : ds.length = ps.length)
    (hsp : ∀ (H : Hp) (xs : List V), OnlyF H → DwAll K H xs ds → sp xs H (fun v H' => Dw K H' v d0) fun _ _ _ => False)
    (hCX : ∀ H e s', CX [] H s₁ (fun _ _ _ => False) e s' → False) :
    codeAny (model P w) callerA (.call (.ref fa) ⟨vals, []⟩) (fun r s' => ∃ u as, r = .ok (.ret u) ∧ ReadsW R cl s'.heap u d0 as ∧ OldK s₁.heap s'.heap ∧ s'.os = s₁.os ∧ AllBare s'.gens) s₁ := by
  obtain ⟨A, ho, ar⟩ := area_all ds vals hwl hpl hwt
  have hO : OnlyF (argH K s₁.heap A) := argH_only ar
  have hok : HOk P w (argH K s₁.heap A) s₁.heap := argH_ok ar
  have hS := dw_all KX ar ds vals hwl hpl ho
  have hV := vals_toV ho
  have hK : ∀ b u, argH K s₁.heap A b = some u → K.lookup b = none := fun b u q => (argH_is ar q).1
  have noA : ∀ {b : Addr} {o : Obj} {es : Array DictEntry} {ep : Nat}, s₁.heap.get? b = some o → o.data = .dict es ep → argH K s₁.heap A b = none := fun {b o es ep} e d => by
    cases q : argH K s₁.heap A b with
    | none => rfl
    | some u =>
      obtain ⟨_, vs, _, _, ⟨e2, _⟩ | ⟨e2, _⟩⟩ := argH_is ar q
      · rw [e2] at e
        cases e
        have d' : Data.seq vs.toArray _ = Data.dict es ep := d
        cases d'
      · rw [e2] at e
        cases e
        have d' : Data.seq vs.toArray _ = Data.dict es ep := d
        cases d'
  generalize argH K s₁.heap A = H at hO hok hS hK noA
  have base_of : ∀ {b : Addr} {o : Obj}, s₁.heap.get? b = some o → H b = none → (hidT s₁.heap H).get? b = some o := fun e n => hidT_get e n
  have nsK : ∀ {b : Addr} {m : Str → Option Value}, s₁.heap.Ns b m → (hidT s₁.heap H).Ns b m := fun {b m} ⟨o, es, ep, e, d, r⟩ => ⟨o, es, ep, base_of e (noA e d), d, r⟩
  have nK : ∀ b o, K.lookup b = some o → H b = none := fun b o e => by
    cases q : H b with
    | none => rfl
    | some u =>
      rw [hK b u q] at e
      cases e
  have hKb : K.In (hidT s₁.heap H) := fun b o e => base_of (KX b o e) (nK b o e)
  have hM : Mod K mg (hidT s₁.heap H) := ⟨hKb, nsK hns, ⟨mb, nsK hb, hbb⟩, let ⟨mc, h1, h2⟩ := hlim; ⟨mc, nsK h1, h2⟩⟩
  have e0 : Env0 P w K mg (hidT s₁.heap H) callerA [] s₁ H := ⟨rfl, hM, fun b o e => of_hidT e, Nat.le_of_eq (hidT_size _ _), trivial, fun b hb => absurd (show b ∈ ([] : List Addr) from hb) (by simp), hok, .of_eq hg⟩
  have hl : vals.length = ps.length := by rw [wellAll_len hwl]; exact hlen
  refine codeAny_mono ((F _ hKb (nsK hns)).run callerA [] s₁ H ⟨vals, []⟩ vals (vals.map toV) _ _ hr e0 (hbind s₁ vals hl) hV (hsp H _ hO hS)) fun r s' x => ?_
  cases r with
  | error e => exact (hCX H e s' x).elim
  | ok fl =>
    cases fl with
    | next => exact False.elim x
    | brk => exact False.elim x
    | cont => exact False.elim x
    | ret u =>
      obtain ⟨v, H', os, bare, un, hok', r', q⟩ := x
      have kept : ∀ b o, s₁.heap.get? b = some o → s'.heap.get? b = some o := fun b o e => by
        cases q2 : H b with
        | none => exact un.keep b o e q2 (by intro z; exact absurd (show b ∈ ([] : List Addr) from z) (by simp)) (by simp)
        | some u2 =>
          rcases hO b with z | ⟨ob, u3, z⟩
          · rw [q2] at z
            cases z
          · have z2 := un.frzs b ob _ z
            obtain ⟨e1, _⟩ := hok b _ z
            obtain ⟨e2, _⟩ := hok' b _ z2
            rw [e] at e1
            cases e1
            exact e2
      have KX' : K.In s'.heap := fun b o e => kept b o (KX b o e)
      obtain ⟨as, hrd⟩ := Dw.reads (R := R) (cl := cl) hok' KX' d0 v u q r'
      exact ⟨u, as, rfl, hrd, OldK.of_keep kept, os, bare⟩
theorem layable_weight {ds : List WData} (h : WData.layableAll ds = true) : ∀ d ∈ ds, d.weight ≤ 1048576 := fun d hd =>
  (PySem.W.layableW_iff.mp (List.all_eq_true.mp h d hd)).2.2
theorem encAll_len : ∀ (cs : List Codec) (a : Codec.denoteAll cs), (Codec.encAll cs a).length = cs.length
  | [], _ => rfl
  | c :: cs, a => by
    show (Codec.encAll cs a.2).length + 1 = cs.length + 1
    rw [encAll_len cs a.2]
theorem walk_spec {r : OpenSpec} {k : Nat} {q : Program} {loose : List Str} {XP : (Str → Option Value) → Heap → Prop} {YP : World → Heap → Prop} {d : DefRec} {K : Params → PySem.W.Frag} {CX : World → CXT} {ps : List Str} {sp : World → Sp}
    (hwell : r.wellSaid = true) (hdf : d.params.defaults = []) (hlen : r.args.length = ps.length) (hr : Room k callerA)
    (hY : ∀ (w : World) (h : Heap), YP w h → (K w.params).In h)
    (F : ∀ (w : World) (mg : Str → Option Value) (fa : Addr) (h : Heap), YP w h → (K w.params).In h → h.Ns mainGlobals mg → mg d.name = some (.ref fa) →
      ∃ fd : FuncData, (∀ (s : Shared) (us : List Value), us.length = ps.length → BindsTo s fd ⟨us, []⟩ (ps.zip us)) ∧
        ∀ base : Heap, (K w.params).In base → base.Ns mainGlobals mg → FnOk r.prog w (K w.params) mg base (CX w) k fa fd ps (sp w))
    (hsp : ∀ (w : World) (H : Hp) (xs : List V) (a : Codec.denoteAll r.args), OnlyF H → Codec.withinAll r.args a = true → Codec.app r.args r.asked a = true → DwAll (K w.params) H xs (Codec.encAll r.args a) →
      sp w xs H (fun v H' => Dw (K w.params) H' v (r.ret.enc (Codec.app r.args r.f a))) fun _ _ _ => False)
    (hCX : ∀ (w : World) (H : Hp) (s : Shared) (e : Value) (s' : Shared), CX w [] H s (fun _ _ _ => False) e s' → False) :
    PySem.W.WalkOS q loose XP YP r d [] (fun f vs => PySem.call f vs) := by
  intro w s_0 s₁ mg mb G Y fa o pm cd doc dV kV ho hd hcd hD hmg hg args vals as hpre hlay hrd hwl hlo
  obtain ⟨a, e1, e2⟩ := PySem.W.os_pre_some hpre
  obtain ⟨e3, hwi⟩ := Codec.encAll_of_decAll r.args args a e1
  subst e3
  have KX := hY w _ Y
  obtain ⟨fd, hb, hF⟩ := F w mg fa _ Y KX G.T.g hmg
  refine PySem.W.enter_call (codeAny_mono (spec_call (R := []) (cl := classAt s_0.heap) (d0 := r.ret.enc (Codec.app r.args r.f a)) KX G.T.g G.T.b G.T.builtins G.T.nolimit hg hwl (pl_encAll _ _) (layable_weight hlay) hr hF hb (by rw [encAll_len]; exact hlen)
    (fun H xs hO hS => hsp w H xs a hO hwi e2 hS) fun H e s' => hCX w H s₁ e s') fun r' s' hq => ?_)
  obtain ⟨u, as', rfl, h1, h2, h3, h4⟩ := hq
  exact ⟨.inl ⟨u, _, as', rfl, fun _ => rfl, h1, (OpenSpec.post_iff hwell hwi _ _).mpr rfl, fun z => Bool.noConfusion (show false = true from z)⟩, h2, h3, h4⟩
theorem walk_specK {r : OpenSpec} {k : Nat} {q : Program} {loose : List Str} {XP : (Str → Option Value) → Heap → Prop} {YP : World → Heap → Prop} {d : DefRec} {K : Params → PySem.W.Frag} {CX : CXT} {ps : List Str} {sp : PySem.W.Frag → Sp}
    (hwell : r.wellSaid = true) (hdf : d.params.defaults = []) (hlen : r.args.length = ps.length) (hr : Room k callerA)
    (hY : ∀ (w : World) (h : Heap), YP w h → (K w.params).In h)
    (F : ∀ (w : World) (mg : Str → Option Value) (fa : Addr) (h : Heap), YP w h → (K w.params).In h → h.Ns mainGlobals mg → mg d.name = some (.ref fa) →
      ∃ fd : FuncData, (∀ (s : Shared) (us : List Value), us.length = ps.length → BindsTo s fd ⟨us, []⟩ (ps.zip us)) ∧
        ∀ base : Heap, (K w.params).In base → base.Ns mainGlobals mg → FnOk r.prog w (K w.params) mg base CX k fa fd ps (sp (K w.params)))
    (hsp : ∀ (K : PySem.W.Frag) (H : Hp) (xs : List V) (a : Codec.denoteAll r.args), OnlyF H → Codec.withinAll r.args a = true → Codec.app r.args r.asked a = true → DwAll K H xs (Codec.encAll r.args a) →
      sp K xs H (fun v H' => Dw K H' v (r.ret.enc (Codec.app r.args r.f a))) fun _ _ _ => False)
    (hCX : ∀ (H : Hp) (s : Shared) (e : Value) (s' : Shared), CX [] H s (fun _ _ _ => False) e s' → False) :
    PySem.W.WalkOS q loose XP YP r d [] (fun f vs => PySem.call f vs) :=
  walk_spec (K := K) (CX := fun _ => CX) (sp := fun w => sp (K w.params)) hwell hdf hlen hr hY F (fun w H xs a h1 h2 h3 h4 => hsp (K w.params) H xs a h1 h2 h3 h4) fun _ H s e s' => hCX H s e s'
end L2
end
namespace Sj
open Si44
def walk1 (n : Nat) (b : Nat) (r : Nat × Nat) : Nat := if b < r.2 ∧ r.1 < b + n then r.2 else b
def firstTime (rests : List (Nat × Nat)) (ready n : Nat) : Nat := rests.foldl (walk1 n) ready
structure Apart (rs : List (Nat × Nat)) : Prop where
  pw : rs.Pairwise fun a b => a.2 ≤ b.1
  ne : ∀ r ∈ rs, r.1 < r.2
theorem restsOk_apart : ∀ (rs : List (Nat × Nat)) (t : Nat), restsOk t rs = true → Apart rs ∧ (∀ r ∈ rs, t ≤ r.1) ∧ ∀ r ∈ rs, r.2 ≤ TIME
  | [], t, _ => ⟨⟨.nil, by simp⟩, by simp, by simp⟩
  | r :: rs, t, h => by
    unfold restsOk at h
    simp only [Bool.and_eq_true, decide_eq_true_eq] at h
    obtain ⟨h1, h2, h3, h4⟩ := h
    obtain ⟨⟨pw, ne⟩, lo, hi⟩ := restsOk_apart rs r.2 h4
    refine ⟨⟨List.pairwise_cons.mpr ⟨fun b hb => lo b hb, pw⟩, fun x hx => ?_⟩, fun x hx => ?_, fun x hx => ?_⟩
    · rcases List.mem_cons.mp hx with rfl | hx
      · exact h2
      · exact ne x hx
    · rcases List.mem_cons.mp hx with rfl | hx
      · exact h1
      · have := lo x hx; omega
    · rcases List.mem_cons.mp hx with rfl | hx
      · exact h3
      · exact hi x hx
theorem free_walk (n : Nat) : ∀ (suf pre : List (Nat × Nat)) (t f : Nat), Apart (pre ++ suf) → (∀ r ∈ pre, r.2 ≤ t ∨ t + n ≤ r.1) → suf.length + 1 ≤ f → freeFrom (pre ++ suf) n f t = suf.foldl (walk1 n) t
  | [], pre, t, f, A, hp, hf => by
    cases f with
    | zero => simp at hf
    | succ f =>
      unfold freeFrom
      have e : (pre ++ []).find? (fun (r : Nat × Nat) => decide (r.1 < t + n) && decide (t < r.2)) = none := by
        rw [List.find?_eq_none]
        intro r hr
        rw [List.append_nil] at hr
        have := hp r hr
        simp only [Bool.and_eq_true, decide_eq_true_eq]
        omega
      rw [e]
      rfl
  | r :: suf, pre, t, f, A, hp, hf => by
    have eA : pre ++ r :: suf = (pre ++ [r]) ++ suf := by simp
    by_cases ht : t < r.2 ∧ r.1 < t + n
    · cases f with
      | zero => simp at hf
      | succ f =>
        unfold freeFrom
        have e : (pre ++ r :: suf).find? (fun (r : Nat × Nat) => decide (r.1 < t + n) && decide (t < r.2)) = some r := by
          rw [List.find?_append]
          have e1 : pre.find? (fun (r : Nat × Nat) => decide (r.1 < t + n) && decide (t < r.2)) = none := by
            rw [List.find?_eq_none]
            intro x hx
            have := hp x hx
            simp only [Bool.and_eq_true, decide_eq_true_eq]
            omega
          rw [e1, List.find?_cons]
          have e2 : (decide (r.1 < t + n) && decide (t < r.2)) = true := by simp only [Bool.and_eq_true, decide_eq_true_eq]; exact ⟨ht.2, ht.1⟩
          simp [e2]
        rw [e]
        show freeFrom (pre ++ r :: suf) n f r.2 = (r :: suf).foldl (walk1 n) t
        rw [List.foldl_cons]
        have e3 : walk1 n t r = r.2 := by unfold walk1; rw [if_pos ht]
        rw [e3, eA]
        refine free_walk n suf (pre ++ [r]) r.2 f (eA ▸ A) (fun x hx => ?_) (by simp at hf; omega)
        rcases List.mem_append.mp hx with hx | hx
        · have h1 := (List.pairwise_append.mp A.pw).2.2 x hx r (by simp)
          have h2 := A.ne r (by simp)
          exact .inl (by omega)
        · have e : x = r := by simpa using hx
          subst e
          exact .inl (Nat.le_refl _)
    · rw [List.foldl_cons]
      have e3 : walk1 n t r = t := by unfold walk1; rw [if_neg ht]
      rw [e3, eA]
      refine free_walk n suf (pre ++ [r]) t f (eA ▸ A) (fun x hx => ?_) (by simp at hf; omega)
      rcases List.mem_append.mp hx with hx | hx
      · exact hp x hx
      · have e : x = r := by simpa using hx
        subst e
        omega
theorem free_eq {rs : List (Nat × Nat)} (A : Apart rs) (n t : Nat) : freeFrom rs n (rs.length + 1) t = firstTime rs t n :=
  free_walk n rs [] t (rs.length + 1) A (by simp) (Nat.le_refl _)
theorem total_append (a b : List Nat) : total (a ++ b) = total a + total b := by
  unfold total
  induction a with
  | nil => simp
  | cons x a ih => simp only [List.cons_append, List.foldr_cons, ih]; omega
theorem total_cons (x : Nat) (a : List Nat) : total (x :: a) = x + total a := rfl
theorem total_nil : total [] = 0 := rfl
theorem count_below (o : List Nat) : ∀ n : Nat, total ((List.range n).map fun j => o.count j) = (o.filter fun x => decide (x < n)).length
  | 0 => by
    have e : (o.filter fun x => decide (x < 0)) = [] := by rw [List.filter_eq_nil_iff]; intro x _; simp
    rw [e]; rfl
  | n + 1 => by
    rw [List.range_succ, List.map_append, total_append, count_below o n]
    show _ + (o.count n + 0) = _
    clear count_below
    induction o with
    | nil => rfl
    | cons x o ih =>
      rw [List.count_cons, List.filter_cons, List.filter_cons]
      by_cases h1 : x < n
      · have h2 : x < n + 1 := by omega
        have h3 : ¬ (x == n) = true := by simp; omega
        simp only [h1, h2, h3, decide_true, if_true, List.length_cons, if_false] at ih ⊢
        simp at ih ⊢
        omega
      · by_cases h2 : x = n
        · subst h2
          simp at ih ⊢
          omega
        · have h3 : ¬ x < n + 1 := by omega
          have h4 : ¬ (x == n) = true := by simp; exact h2
          simp only [h1, h3, h4, decide_false, if_false, Bool.false_eq_true] at ih ⊢
          omega
theorem total_le : ∀ (f g : Nat → Nat) (n : Nat), (∀ j, j < n → f j ≤ g j) → total ((List.range n).map f) ≤ total ((List.range n).map g)
  | f, g, 0, _ => Nat.le_refl _
  | f, g, n + 1, h => by
    rw [List.range_succ, List.map_append, List.map_append, total_append, total_append]
    have := total_le f g n fun j hj => h j (by omega)
    have := h n (by omega)
    show _ + (f n + 0) ≤ _ + (g n + 0)
    omega
theorem total_tight : ∀ (f g : Nat → Nat) (n : Nat), (∀ j, j < n → f j ≤ g j) → total ((List.range n).map g) ≤ total ((List.range n).map f) → ∀ j, j < n → f j = g j
  | f, g, 0, _, _, j, hj => by omega
  | f, g, n + 1, h, ht, j, hj => by
    rw [List.range_succ, List.map_append, List.map_append, total_append, total_append] at ht
    have ht : total ((List.range n).map g) + (g n + 0) ≤ total ((List.range n).map f) + (f n + 0) := ht
    have h1 := total_le f g n fun j hj => h j (by omega)
    have h2 := h n (by omega)
    by_cases e : j = n
    · subst e; omega
    · exact total_tight f g n (fun j hj => h j (by omega)) (by omega) j (by omega)
def lens (h : House) : List Nat := h.jobs.map fun b => b.steps.length
theorem lens_range (c : List Nat) : (List.range c.length).map (fun j => c.getD j 0) = c := by
  apply List.ext_getElem?
  intro i
  rw [List.getElem?_map]
  by_cases hi : i < c.length
  · rw [List.getElem?_range hi, List.getElem?_eq_getElem hi]
    simp [hi]
  · rw [List.getElem?_eq_none (by simpa using hi), List.getElem?_eq_none (by simpa using hi)]
    rfl
def IsOrd (h : House) (o : List Nat) : Prop := o.length = total (lens h) ∧ ∀ j, j < h.jobs.length → o.count j = (lens h).getD j 0
instance (h : House) (o : List Nat) : Decidable (IsOrd h o) := by unfold IsOrd; infer_instance
def Fits (h : House) (l : List Done) (o : List Nat) : Prop := ∀ j, o.count j ≠ 0 → j < h.jobs.length ∧ (l.filter fun x => x.job == j).length + o.count j ≤ (lens h).getD j 0
theorem lens_get {h : House} {j : Nat} {b : Job} (e : h.jobs[j]? = some b) : (lens h).getD j 0 = b.steps.length := by
  unfold lens
  rw [List.getD_eq_getElem?_getD, List.getElem?_map, e]
  rfl
theorem put_some {h : House} {l : List Done} {j : Nat} {b : Job} {s : Step} (hb : h.jobs[j]? = some b) (hs : b.steps[(l.filter fun x => x.job == j).length]? = some s) :
    put h l j = some (l ++ [⟨j, (l.filter fun x => x.job == j).length, s.machine, s.kind,
      freeFrom (h.machines.getD s.machine ⟨0, []⟩).rests (takes h l s) ((h.machines.getD s.machine ⟨0, []⟩).rests.length + 1) (max (readyAt l j b) (machineAt l s.machine)),
      freeFrom (h.machines.getD s.machine ⟨0, []⟩).rests (takes h l s) ((h.machines.getD s.machine ⟨0, []⟩).rests.length + 1) (max (readyAt l j b) (machineAt l s.machine)) + takes h l s⟩]) := by
  unfold put
  rw [hb]
  show (b.steps[(l.filter fun x => x.job == j).length]?).map _ = _
  rw [hs]
  rfl
theorem filter_snoc (l : List Done) (d : Done) (j : Nat) : ((l ++ [d]).filter fun x => x.job == j).length = (l.filter fun x => x.job == j).length + (if d.job = j then 1 else 0) := by
  rw [List.filter_append, List.length_append, List.filter_cons]
  by_cases e : d.job = j
  · simp [e]
  · simp [e]
theorem putAll_fits (h : House) : ∀ (o : List Nat) (l : List Done), (putAll h l o).isSome = true ↔ Fits h l o
  | [], l => by
    constructor
    · intro _ j hj; simp at hj
    · intro _; rfl
  | j :: o, l => by
    unfold putAll
    cases hb : h.jobs[j]? with
    | none =>
      have e : put h l j = none := by unfold put; rw [hb]; rfl
      rw [e]
      constructor
      · intro z; simp at z
      · intro F
        have := (F j (by simp)).1
        rw [List.getElem?_eq_getElem this] at hb
        cases hb
    | some b =>
      have hjl : j < h.jobs.length := by
        rcases Nat.lt_or_ge j h.jobs.length with z | z
        · exact z
        · rw [List.getElem?_eq_none z] at hb; cases hb
      cases hs : b.steps[(l.filter fun x => x.job == j).length]? with
      | none =>
        have e : put h l j = none := by unfold put; rw [hb]; show (b.steps[(l.filter fun x => x.job == j).length]?).map _ = _; rw [hs]; rfl
        rw [e]
        constructor
        · intro z; simp at z
        · intro F
          have h1 := (F j (by simp)).2
          rw [lens_get hb] at h1
          have h2 := List.getElem?_eq_none_iff.mp hs
          simp at h1
          omega
      | some s =>
        rw [put_some hb hs]
        show (putAll h (l ++ [_]) o).isSome = true ↔ _
        rw [putAll_fits h o _]
        have hlt : (l.filter fun x => x.job == j).length < b.steps.length := by
          rcases Nat.lt_or_ge (l.filter fun x => x.job == j).length b.steps.length with z | z
          · exact z
          · rw [List.getElem?_eq_none z] at hs; cases hs
        constructor
        · intro F i hi
          by_cases e : i = j
          · subst e
            refine ⟨hjl, ?_⟩
            rw [lens_get hb, List.count_cons_self]
            by_cases hz : o.count i = 0
            · omega
            · have := (F i hz).2
              rw [filter_snoc, lens_get hb, if_pos rfl] at this
              omega
          · have ec : (j :: o).count i = o.count i := by rw [List.count_cons]; simp; intro z; exact e z.symm
            rw [ec] at hi ⊢
            have := F i hi
            rw [filter_snoc, if_neg (fun z => e z.symm)] at this
            exact this
        · intro F i hi
          rw [filter_snoc]
          by_cases e : i = j
          · subst e
            have := F i (by simp)
            rw [List.count_cons_self] at this
            rw [if_pos rfl]
            exact ⟨this.1, by omega⟩
          · have ec : (j :: o).count i = o.count i := by rw [List.count_cons]; simp; intro z; exact e z.symm
            have := F i (by rw [ec]; exact hi)
            rw [ec] at this
            rw [if_neg (fun z => e z.symm)]
            exact this
theorem fits_iff (h : House) (o : List Nat) (hl : o.length = total (lens h)) : Fits h [] o ↔ ∀ j, j < h.jobs.length → o.count j = (lens h).getD j 0 := by
  have hn : (lens h).length = h.jobs.length := by unfold lens; rw [List.length_map]
  have e1 := count_below o h.jobs.length
  have e2 : total ((List.range h.jobs.length).map fun j => (lens h).getD j 0) = total (lens h) := by rw [← hn, lens_range]
  constructor
  · intro F
    refine total_tight _ _ h.jobs.length (fun j hj => ?_) ?_
    · by_cases hz : o.count j = 0
      · omega
      · have := (F j hz).2
        simp at this
        simpa using this
    · rw [e1, e2, ← hl]
      have e3 : (o.filter fun x => decide (x < h.jobs.length)) = o := by
        rw [List.filter_eq_self]
        intro x hx
        have := (F x (by rw [Ne, List.count_eq_zero]; exact fun z => z hx)).1
        simpa using this
      rw [e3]
      exact Nat.le_refl _
  · intro C j hj
    have e4 : total ((List.range h.jobs.length).map fun j => o.count j) = total (lens h) := by
      rw [← e2]
      congr 1
      apply List.map_congr_left
      intro j hj
      exact C j (List.mem_range.mp hj)
    rw [e1, ← hl] at e4
    have e5 : (o.filter fun x => decide (x < h.jobs.length)) = o := List.filter_sublist.eq_of_length e4
    have hm : j ∈ o := by
      rw [Ne, List.count_eq_zero] at hj
      exact Classical.not_not.mp hj
    have : j < h.jobs.length := by
      rw [← e5] at hm
      have := (List.mem_filter.mp hm).2
      simpa using this
    refine ⟨this, ?_⟩
    rw [C j this]
    simp
theorem times_isSome (h : House) (o : List Nat) : (Si44.times h o).isSome = true ↔ IsOrd h o := by
  unfold Si44.times IsOrd
  by_cases hl : o.length = total (lens h)
  · rw [if_pos (show o.length = total (h.jobs.map fun b => b.steps.length) from hl), putAll_fits, fits_iff h o hl]
    exact ⟨fun z => ⟨hl, z⟩, fun z => z.2⟩
  · rw [if_neg (show ¬ o.length = total (h.jobs.map fun b => b.steps.length) from hl)]
    constructor
    · intro z; cases z
    · intro z; exact absurd z.1 hl
end Sj
namespace Sj
open Si44
def cnt (l : List Done) (j : Nat) : Nat := (l.filter fun x => x.job == j).length
def kindAt (l : List Done) (m : Nat) : Nat := ((lastOn l m).map fun x => x.kind).getD 0
def ups (h : House) (l : List Done) : List Nat := (List.range h.jobs.length).map (cnt l)
def jss (h : House) (l : List Done) : List Nat := h.jobs.zipIdx.map fun x => if cnt l x.2 < x.1.steps.length then readyAt l x.2 x.1 else 0
def mss (h : House) (l : List Done) : List Nat := (List.range h.machines.length).map (machineAt l)
def kss (h : House) (l : List Done) : List Nat := (List.range h.machines.length).map (kindAt l)
theorem range_get {f : Nat → Nat} {n i : Nat} : ((List.range n).map f)[i]? = if i < n then some (f i) else none := by
  rw [List.getElem?_map]
  by_cases h : i < n
  · rw [List.getElem?_range h, if_pos h]; rfl
  · rw [List.getElem?_eq_none (by simpa using h), if_neg h]; rfl
theorem zip_get {α β : Type} {l : List α} {f : α × Nat → β} {i : Nat} : (l.zipIdx.map f)[i]? = (l[i]?).map fun x => f (x, i) := by
  rw [List.getElem?_map, List.getElem?_zipIdx]
  cases l[i]? <;> simp
theorem lastOn_snoc (l : List Done) (d : Done) (m : Nat) : lastOn (l ++ [d]) m = if d.machine = m then some d else lastOn l m := by
  unfold lastOn
  rw [List.filter_append, List.filter_cons]
  by_cases e : d.machine = m
  · simp [e]
  · simp [e]
theorem lastOf_snoc (l : List Done) (d : Done) (j : Nat) : lastOf (l ++ [d]) j = if d.job = j then some d else lastOf l j := by
  unfold lastOf
  rw [List.filter_append, List.filter_cons]
  by_cases e : d.job = j
  · simp [e]
  · simp [e]
theorem cnt_snoc (l : List Done) (d : Done) (j : Nat) : cnt (l ++ [d]) j = if d.job = j then cnt l j + 1 else cnt l j := by
  unfold cnt
  rw [filter_snoc]
  split <;> omega
theorem readyAt_snoc (l : List Done) (d : Done) (j : Nat) (b : Job) : readyAt (l ++ [d]) j b = if d.job = j then d.halt_ else readyAt l j b := by
  unfold readyAt
  rw [lastOf_snoc]
  split <;> rfl
theorem machineAt_snoc (l : List Done) (d : Done) (m : Nat) : machineAt (l ++ [d]) m = if d.machine = m then d.halt_ else machineAt l m := by
  unfold machineAt
  rw [lastOn_snoc]
  split <;> rfl
theorem kindAt_snoc (l : List Done) (d : Done) (m : Nat) : kindAt (l ++ [d]) m = if d.machine = m then d.kind else kindAt l m := by
  unfold kindAt
  rw [lastOn_snoc]
  split <;> rfl
theorem set_range {f g : Nat → Nat} {n k v : Nat} (h : ∀ i, g i = if k = i then v else f i) : (List.range n).map g = ((List.range n).map f).set k v := by
  apply List.ext_getElem?
  intro i
  rw [List.getElem?_set, range_get, range_get, h i, List.length_map, List.length_range]
  by_cases e : k = i
  · subst e; simp
  · simp [e]
theorem ups_snoc (h : House) (l : List Done) (d : Done) : ups h (l ++ [d]) = (ups h l).set d.job (cnt l d.job + 1) :=
  set_range fun i => by
    rw [cnt_snoc]
    split
    · rename_i e; rw [e]
    · rfl
theorem mss_snoc (h : House) (l : List Done) (d : Done) : mss h (l ++ [d]) = (mss h l).set d.machine d.halt_ := set_range fun i => machineAt_snoc l d i
theorem kss_snoc (h : House) (l : List Done) (d : Done) : kss h (l ++ [d]) = (kss h l).set d.machine d.kind := set_range fun i => kindAt_snoc l d i
theorem jss_snoc {h : House} (l : List Done) {d : Done} {b : Job} (hb : h.jobs[d.job]? = some b) : jss h (l ++ [d]) = (jss h l).set d.job (if cnt l d.job + 1 < b.steps.length then d.halt_ else 0) := by
  unfold jss
  apply List.ext_getElem?
  intro i
  rw [List.getElem?_set, zip_get, zip_get]
  simp only [readyAt_snoc, cnt_snoc, List.length_map, List.length_zipIdx]
  by_cases e : d.job = i
  · subst e
    simp only [if_true]
    have hi : d.job < h.jobs.length := (List.getElem?_eq_some_iff.mp hb).1
    rw [if_pos hi, hb]; rfl
  · simp only [if_neg e]
theorem ups_nil (h : House) : ups h [] = h.jobs.map fun _ => 0 := by
  apply List.ext_getElem?
  intro i
  unfold ups
  rw [range_get, List.getElem?_map]
  by_cases hi : i < h.jobs.length
  · rw [if_pos hi, List.getElem?_eq_getElem hi]; rfl
  · rw [if_neg hi, List.getElem?_eq_none (by omega)]; rfl
theorem mss_nil (h : House) : mss h [] = h.machines.map fun _ => 0 := by
  apply List.ext_getElem?
  intro i
  unfold mss
  rw [range_get, List.getElem?_map]
  by_cases hi : i < h.machines.length
  · rw [if_pos hi, List.getElem?_eq_getElem hi]; rfl
  · rw [if_neg hi, List.getElem?_eq_none (by omega)]; rfl
theorem kss_nil (h : House) : kss h [] = h.machines.map fun _ => 0 := by
  apply List.ext_getElem?
  intro i
  unfold kss
  rw [range_get, List.getElem?_map]
  by_cases hi : i < h.machines.length
  · rw [if_pos hi, List.getElem?_eq_getElem hi]; rfl
  · rw [if_neg hi, List.getElem?_eq_none (by omega)]; rfl
theorem jss_nil {h : House} (v : ∀ b ∈ h.jobs, 1 ≤ b.steps.length) : jss h [] = h.jobs.map fun b => b.from_ := by
  apply List.ext_getElem?
  intro i
  unfold jss
  rw [zip_get, List.getElem?_map]
  cases hb : h.jobs[i]? with
  | none => rfl
  | some b =>
    have := v b (List.mem_of_getElem? hb)
    show some (if cnt [] i < b.steps.length then readyAt [] i b else 0) = some b.from_
    rw [if_pos (show cnt [] i < b.steps.length from this)]
    rfl
theorem ups_get {h : House} (l : List Done) {j : Nat} (hj : j < h.jobs.length) : (ups h l)[j]? = some (cnt l j) := by
  unfold ups; rw [range_get, if_pos hj]
theorem jss_get {h : House} (l : List Done) {j : Nat} {b : Job} (hb : h.jobs[j]? = some b) (hc : cnt l j < b.steps.length) : (jss h l)[j]? = some (readyAt l j b) := by
  unfold jss; rw [zip_get, hb]
  show some (if cnt l j < b.steps.length then readyAt l j b else 0) = _
  rw [if_pos hc]
theorem mss_get {h : House} (l : List Done) {m : Nat} (hm : m < h.machines.length) : (mss h l)[m]? = some (machineAt l m) := by
  unfold mss; rw [range_get, if_pos hm]
theorem kss_get {h : House} (l : List Done) {m : Nat} (hm : m < h.machines.length) : (kss h l)[m]? = some (kindAt l m) := by
  unfold kss; rw [range_get, if_pos hm]
def takesP (m : Machine) (l : List Done) (s : Step) : Nat := if s.kind = kindAt l s.machine then s.long else s.long + m.change
def doneP (m : Machine) (l : List Done) (j : Nat) (b : Job) (s : Step) : Done :=
  ⟨j, cnt l j, s.machine, s.kind, firstTime m.rests (max (readyAt l j b) (machineAt l s.machine)) (takesP m l s), firstTime m.rests (max (readyAt l j b) (machineAt l s.machine)) (takesP m l s) + takesP m l s⟩
structure Valid (h : House) : Prop where
  few : h.machines.length ≤ 4
  mach : ∀ m ∈ h.machines, m.change ≤ 1000 ∧ m.rests.length ≤ 4 ∧ restsOk 0 m.rests = true
  job : ∀ b ∈ h.jobs, jobOk h b = true
  steps : total (lens h) ≤ STEPS
theorem Valid.apart {h : House} (v : Valid h) {m : Machine} (hm : m ∈ h.machines) : Apart m.rests := (restsOk_apart _ _ (v.mach m hm).2.2).1
theorem jobOk_iff (h : House) (b : Job) : jobOk h b = true ↔ b.from_ ≤ TIME ∧ b.due ≤ TIME ∧ b.weight ≤ 1000 ∧ 1 ≤ b.steps.length ∧ ∀ s ∈ b.steps, stepOk h s = true := by
  unfold jobOk
  simp only [Bool.and_eq_true, decide_eq_true_eq, List.all_eq_true]
theorem stepOk_iff (h : House) (s : Step) : stepOk h s = true ↔ s.machine < h.machines.length ∧ s.kind ≤ 9 ∧ 1 ≤ s.long ∧ s.long ≤ 1000 := by
  unfold stepOk
  simp only [Bool.and_eq_true, decide_eq_true_eq]
structure Sound (h : House) : Prop where
  few : h.machines.length ≤ 4
  apart : ∀ m ∈ h.machines, Apart m.rests
  mach : ∀ b ∈ h.jobs, ∀ s ∈ b.steps, s.machine < h.machines.length
  one : ∀ b ∈ h.jobs, 1 ≤ b.steps.length
  wt : ∀ b ∈ h.jobs, b.weight ≤ 1000
  steps : total (lens h) ≤ 8
theorem Valid.sound {h : House} (v : Valid h) : Sound h :=
  ⟨v.few, fun m hm => v.apart hm, fun b hb s hs => ((stepOk_iff h s).mp (((jobOk_iff h b).mp (v.job b hb)).2.2.2.2 s hs)).1, fun b hb => ((jobOk_iff h b).mp (v.job b hb)).2.2.2.1, fun b hb => ((jobOk_iff h b).mp (v.job b hb)).2.2.1, v.steps⟩
theorem Sound.machine {h : House} (v : Sound h) {j k : Nat} {b : Job} {s : Step} (hb : h.jobs[j]? = some b) (hs : b.steps[k]? = some s) : s.machine < h.machines.length :=
  v.mach b (List.mem_of_getElem? hb) s (List.mem_of_getElem? hs)
theorem Sound.jobs_few {h : House} (v : Sound h) : h.jobs.length ≤ 8 := by
  have h1 : ∀ js : List Job, (∀ b ∈ js, 1 ≤ b.steps.length) → js.length ≤ total (js.map fun b => b.steps.length) := by
    intro js
    induction js with
    | nil => intro _; exact Nat.le_refl _
    | cons b js ih =>
      intro hb
      rw [List.map_cons, total_cons, List.length_cons]
      have := ih fun x hx => hb x (by simp [hx])
      have := hb b (by simp)
      omega
  exact Nat.le_trans (h1 h.jobs v.one) v.steps
theorem Valid.machine {h : House} (v : Valid h) {j k : Nat} {b : Job} {s : Step} (hb : h.jobs[j]? = some b) (hs : b.steps[k]? = some s) : s.machine < h.machines.length :=
  ((stepOk_iff h s).mp (((jobOk_iff h b).mp (v.job b (List.mem_of_getElem? hb))).2.2.2.2 s (List.mem_of_getElem? hs))).1
theorem getD_of {α : Type} {l : List α} {i : Nat} {x d : α} (h : l[i]? = some x) : l.getD i d = x := by
  rw [List.getD_eq_getElem?_getD, h]; rfl
theorem takes_P {h : House} {l : List Done} {s : Step} {m : Machine} (hm : h.machines[s.machine]? = some m) : takes h l s = takesP m l s := by
  unfold takes takesP kindAt
  rw [getD_of hm]
  show (if _ then 0 else m.change) + s.long = _
  split <;> omega
theorem put_P {h : House} (v : Sound h) {l : List Done} {j : Nat} {b : Job} {s : Step} {m : Machine} (hb : h.jobs[j]? = some b) (hs : b.steps[cnt l j]? = some s) (hm : h.machines[s.machine]? = some m) :
    put h l j = some (l ++ [doneP m l j b s]) := by
  rw [put_some hb hs, getD_of hm, takes_P hm, free_eq (v.apart m (List.mem_of_getElem? hm))]
  rfl
theorem putAll_jobs (h : House) : ∀ (o : List Nat) (l l' : List Done), putAll h l o = some l' → l'.map (·.job) = l.map (·.job) ++ o
  | [], l, l', e => by
    cases e
    simp
  | j :: o, l, l', e => by
    unfold putAll at e
    cases hp : put h l j with
    | none => rw [hp] at e; cases e
    | some m =>
      rw [hp] at e
      have e : putAll h m o = some l' := e
      rw [putAll_jobs h o m l' e]
      unfold put at hp
      cases hb : h.jobs[j]? with
      | none => rw [hb] at hp; cases hp
      | some b =>
        rw [hb] at hp
        cases hs : b.steps[(l.filter fun x => x.job == j).length]? with
        | none =>
          have hp : (b.steps[(l.filter fun x => x.job == j).length]?).map _ = some m := hp
          rw [hs] at hp; cases hp
        | some s =>
          have hp : (b.steps[(l.filter fun x => x.job == j).length]?).map _ = some m := hp
          rw [hs] at hp
          cases hp
          simp
theorem cnt_jobs (l : List Done) (j : Nat) : cnt l j = (l.map (·.job)).count j := by
  unfold cnt
  rw [List.count_eq_length_filter, List.filter_map, List.length_map]
  rfl
theorem times_jobs {h : House} {o : List Nat} {l : List Done} (e : Si44.times h o = some l) : l.map (·.job) = o := by
  unfold Si44.times at e
  split at e
  · have := putAll_jobs h o [] l e
    simpa using this
  · cases e
theorem times_put {h : House} {o : List Nat} {l : List Done} (e : Si44.times h o = some l) : putAll h [] o = some l := by
  unfold Si44.times at e
  split at e
  · exact e
  · cases e
theorem putAll_cons {h : House} {l l' : List Done} {j : Nat} {o : List Nat} (e : putAll h l (j :: o) = some l') : ∃ b s, h.jobs[j]? = some b ∧ b.steps[cnt l j]? = some s ∧ ∃ m, put h l j = some m ∧ putAll h m o = some l' := by
  unfold putAll at e
  cases hp : put h l j with
  | none => rw [hp] at e; cases e
  | some m =>
    rw [hp] at e
    have e : putAll h m o = some l' := e
    cases hb : h.jobs[j]? with
    | none => unfold put at hp; rw [hb] at hp; cases hp
    | some b =>
      cases hs : b.steps[cnt l j]? with
      | none =>
        unfold put at hp
        rw [hb] at hp
        have hp : (b.steps[cnt l j]?).map _ = some m := hp
        rw [hs] at hp; cases hp
      | some s => exact ⟨b, s, rfl, hs, m, rfl, e⟩
def stopOf (l : List Done) (j : Nat) : Nat := ((lastOf l j).map fun x => x.halt_).getD 0
def stops (h : House) (l : List Done) : List Nat := (List.range h.jobs.length).map (stopOf l)
theorem stopOf_snoc (l : List Done) (d : Done) (j : Nat) : stopOf (l ++ [d]) j = if d.job = j then d.halt_ else stopOf l j := by
  unfold stopOf
  rw [lastOf_snoc]
  split <;> rfl
theorem stops_snoc (h : House) (l : List Done) (d : Done) : stops h (l ++ [d]) = (stops h l).set d.job d.halt_ := set_range fun i => stopOf_snoc l d i
theorem stops_nil (h : House) : stops h [] = h.jobs.map fun _ => 0 := by
  apply List.ext_getElem?
  intro i
  unfold stops
  rw [range_get, List.getElem?_map]
  by_cases hi : i < h.jobs.length
  · rw [if_pos hi, List.getElem?_eq_getElem hi]; rfl
  · rw [if_neg hi, List.getElem?_eq_none (by omega)]; rfl
theorem lastOf_some {l : List Done} {j : Nat} (h : cnt l j ≠ 0) : ∃ d, lastOf l j = some d := by
  unfold lastOf
  unfold cnt at h
  cases e : (l.filter fun x => x.job == j).getLast? with
  | some d => exact ⟨d, rfl⟩
  | none =>
    rw [List.getLast?_eq_none_iff] at e
    rw [e] at h
    exact absurd rfl h
theorem stop_end {l : List Done} {j : Nat} (h : cnt l j ≠ 0) (b : Job) : stopOf l j = endOf l j b := by
  obtain ⟨d, e⟩ := lastOf_some h
  unfold stopOf endOf readyAt
  rw [e]
  rfl
theorem times_cnt {h : House} (v : Sound h) {o : List Nat} {l : List Done} (e : Si44.times h o = some l) {j : Nat} {b : Job} (hb : h.jobs[j]? = some b) : cnt l j = b.steps.length ∧ cnt l j ≠ 0 := by
  have ho : IsOrd h o := (times_isSome h o).mp (by rw [e]; rfl)
  have hj : j < h.jobs.length := by
    rcases Nat.lt_or_ge j h.jobs.length with z | z
    · exact z
    · rw [List.getElem?_eq_none z] at hb; cases hb
  have h1 := ho.2 j hj
  rw [lens_get hb] at h1
  have h2 : cnt l j = b.steps.length := by rw [cnt_jobs, times_jobs e]; exact h1
  refine ⟨h2, ?_⟩
  rw [h2]
  have := v.one b (List.mem_of_getElem? hb)
  omega
def costP (h : House) (ends : List Nat) : Int := ((h.jobs.zip ends).map fun (x : Job × Nat) => (x.1.weight : Int) * (if (x.2 : Int) - x.1.due > 0 then (x.2 : Int) - x.1.due else 0)).sum
theorem late_int (w e d : Nat) : (w : Int) * (if (e : Int) - d > 0 then (e : Int) - d else 0) = ((w * (e - d) : Nat) : Int) := by
  by_cases h : (e : Int) - d > 0
  · rw [if_pos h, Int.natCast_mul, Int.ofNat_sub (by omega)]
  · rw [if_neg h]
    have : e - d = 0 := by omega
    rw [this]
    simp
theorem sum_total : ∀ l : List Nat, (l.map fun (n : Nat) => (n : Int)).sum = ((total l : Nat) : Int)
  | [] => rfl
  | x :: l => by
    rw [List.map_cons, List.sum_cons, sum_total l, total_cons]
    simp
theorem zip2_get {α β : Type} : ∀ {a : List α} {b : List β} {i : Nat}, (a.zip b)[i]? = match a[i]?, b[i]? with | some x, some y => some (x, y) | _, _ => none
  | [], b, i => by simp
  | x :: a, [], i => by
    simp
  | x :: a, y :: b, 0 => by simp
  | x :: a, y :: b, i + 1 => by
    simp only [List.zip_cons_cons, List.getElem?_cons_succ]
    exact zip2_get
theorem cost_P {h : House} (v : Sound h) {o : List Nat} {l : List Done} (e : Si44.times h o = some l) : costP h (stops h l) = ((cost h l : Nat) : Int) := by
  unfold costP cost
  rw [← sum_total, List.map_map]
  congr 1
  apply List.ext_getElem?
  intro i
  rw [List.getElem?_map, zip_get, zip2_get]
  cases hb : h.jobs[i]? with
  | none => rfl
  | some b =>
    have hi : i < h.jobs.length := by
      rcases Nat.lt_or_ge i h.jobs.length with z | z
      · exact z
      · rw [List.getElem?_eq_none z] at hb; cases hb
    have e2 : (stops h l)[i]? = some (stopOf l i) := by unfold stops; rw [range_get, if_pos hi]
    rw [e2]
    show some _ = some _
    have e3 := stop_end (times_cnt v e hb).2 b
    rw [Option.some.injEq]
    show (b.weight : Int) * (if ((stopOf l i : Nat) : Int) - b.due > 0 then ((stopOf l i : Nat) : Int) - b.due else 0) = ((b.weight * (endOf l i b - b.due) : Nat) : Int)
    rw [late_int, e3]
end Sj
namespace Sj
open Si44
theorem Valid.init : Valid Si44.init := ⟨by decide, by simp [Si44.init], by simp [Si44.init], by decide⟩
theorem stepOk_more {h : House} {m : Machine} {s : Step} (hs : stepOk h s = true) : stepOk { h with machines := h.machines ++ [m] } s = true := by
  rw [stepOk_iff] at hs ⊢
  simp only [List.length_append, List.length_cons, List.length_nil]
  omega
theorem jobOk_more {h : House} {m : Machine} {b : Job} (hb : jobOk h b = true) : jobOk { h with machines := h.machines ++ [m] } b = true := by
  rw [jobOk_iff] at hb ⊢
  exact ⟨hb.1, hb.2.1, hb.2.2.1, hb.2.2.2.1, fun s hs => stepOk_more (hb.2.2.2.2 s hs)⟩
theorem jobOk_jobs {h : House} {js : List Job} {b : Job} : jobOk { h with jobs := js } b = jobOk h b := rfl
theorem total_erase : ∀ (l : List Nat) (j : Nat), total (l.eraseIdx j) ≤ total l
  | [], _ => Nat.le_refl _
  | x :: l, 0 => by rw [List.eraseIdx_cons_zero, total_cons]; omega
  | x :: l, j + 1 => by
    rw [List.eraseIdx_cons_succ, total_cons, total_cons]
    have := total_erase l j
    omega
theorem map_erase {α β : Type} (f : α → β) : ∀ (l : List α) (j : Nat), (l.eraseIdx j).map f = (l.map f).eraseIdx j
  | [], _ => rfl
  | x :: l, 0 => rfl
  | x :: l, j + 1 => by
    simp only [List.eraseIdx_cons_succ, List.map_cons]
    rw [map_erase f l j]
theorem Valid.step {h : House} (v : Valid h) (c : Si44.Call) : Valid (Si44.step h c).1 := by
  cases c with
  | begins => exact Valid.init
  | machine ch r =>
    show Valid (if 1000 < ch ∨ 4 < r.length ∨ restsOk 0 r = false then (h, ok (-1)) else if 4 ≤ h.machines.length then (h, ok (-5)) else ({ h with machines := h.machines ++ [⟨ch, r⟩] }, ok (h.machines.length : Int))).1
    by_cases h1 : 1000 < ch ∨ 4 < r.length ∨ restsOk 0 r = false
    · rw [if_pos h1]; exact v
    · rw [if_neg h1]
      by_cases h2 : 4 ≤ h.machines.length
      · rw [if_pos h2]; exact v
      · rw [if_neg h2]
        refine ⟨by simp only [List.length_append, List.length_cons, List.length_nil]; omega, fun m hm => ?_, fun b hb => jobOk_more (v.job b hb), v.steps⟩
        rcases List.mem_append.mp hm with hm | hm
        · exact v.mach m hm
        · have e : m = ⟨ch, r⟩ := by simpa using hm
          subst e
          refine ⟨by show ch ≤ 1000; omega, by show r.length ≤ 4; omega, ?_⟩
          show restsOk 0 r = true
          cases q : restsOk 0 r with
          | true => rfl
          | false => exact absurd (.inr (.inr q)) h1
  | job b =>
    show Valid (if jobOk h b = false then (h, ok (-1)) else if STEPS < total (h.jobs.map fun x => x.steps.length) + b.steps.length then (h, ok (-5)) else ({ h with jobs := h.jobs ++ [b] }, ok (h.jobs.length : Int))).1
    by_cases h1 : jobOk h b = false
    · rw [if_pos h1]; exact v
    · rw [if_neg h1]
      by_cases h2 : STEPS < total (h.jobs.map fun x => x.steps.length) + b.steps.length
      · rw [if_pos h2]; exact v
      · rw [if_neg h2]
        refine ⟨v.few, v.mach, fun x hx => ?_, ?_⟩
        · rcases List.mem_append.mp hx with hx | hx
          · exact v.job x hx
          · have e : x = b := by simpa using hx
            subst e
            show jobOk h x = true
            cases q : jobOk h x with
            | true => rfl
            | false => exact absurd q h1
        · show total ((h.jobs ++ [b]).map fun x => x.steps.length) ≤ STEPS
          rw [List.map_append, total_append]
          show _ + (b.steps.length + 0) ≤ _
          omega
  | drop j =>
    show Valid (if h.jobs.length ≤ j then (h, ok (-2)) else ({ h with jobs := h.jobs.eraseIdx j }, ok ((h.jobs.length - 1 : Nat) : Int))).1
    by_cases h1 : h.jobs.length ≤ j
    · rw [if_pos h1]; exact v
    · rw [if_neg h1]
      refine ⟨v.few, v.mach, fun x hx => v.job x (List.mem_of_mem_eraseIdx hx), ?_⟩
      show total ((h.jobs.eraseIdx j).map fun x => x.steps.length) ≤ STEPS
      rw [map_erase]
      exact Nat.le_trans (total_erase _ _) v.steps
  | times o => exact v
  | best => exact v
  | ways => exact v
  | why j o => exact v
  | slack j k o => exact v
theorem call_head {p : Int} {r : List Int} {c : List (List Int)} {t : List Int} (h : PyWide.call (p :: r) = some (c, t)) (h1 : c.length = 1) :
    ∃ ns : List Int, c = [p :: ns] ∧ r = (ns.length : Int) :: (ns ++ 0 :: t) := by
  unfold PyWide.call at h
  cases r with
  | nil => simp [PyFlat.row] at h
  | cons n r =>
    simp only [PyFlat.row] at h
    by_cases hn : 0 ≤ n ∧ n.toNat ≤ r.length
    · rw [if_pos hn] at h
      cases hd : r.drop n.toNat with
      | nil => rw [hd] at h; simp at h
      | cons k u =>
        rw [hd] at h
        have h : (if 0 ≤ k then (match PyFlat.rows k.toNat u with
          | none => none
          | some (xs, u) => some ((p :: r.take n.toNat) :: xs, u)) else none) = some (c, t) := h
        by_cases hk : 0 ≤ k
        · rw [if_pos hk] at h
          cases hr : PyFlat.rows k.toNat u with
          | none => rw [hr] at h; simp at h
          | some q =>
            obtain ⟨xs, u'⟩ := q
            rw [hr] at h
            simp only [Option.some.injEq, Prod.mk.injEq] at h
            obtain ⟨hc, ht⟩ := h
            subst hc
            have hxs : xs = [] := by
              simp at h1
              exact h1
            subst hxs
            have hk0 : k.toNat = 0 := by
              cases hkn : k.toNat with
              | zero => rfl
              | succ m =>
                rw [hkn] at hr
                simp only [PyFlat.rows] at hr
                cases h2 : PyFlat.row u with
                | none => rw [h2] at hr; simp at hr
                | some q2 =>
                  obtain ⟨a, b⟩ := q2
                  rw [h2] at hr
                  simp only at hr
                  cases h3 : PyFlat.rows m b with
                  | none => rw [h3] at hr; simp at hr
                  | some q3 =>
                    obtain ⟨a2, b2⟩ := q3
                    rw [h3] at hr
                    simp at hr
            rw [hk0] at hr
            simp only [PyFlat.rows, Option.some.injEq, Prod.mk.injEq] at hr
            obtain ⟨_, hu⟩ := hr
            subst hu
            subst ht
            have hk1 : k = 0 := by omega
            subst hk1
            refine ⟨r.take n.toNat, rfl, ?_⟩
            have hlen : (r.take n.toNat).length = n.toNat := by rw [List.length_take]; omega
            rw [hlen, ← hd, List.take_append_drop]
            have : ((n.toNat : Nat) : Int) = n := by omega
            rw [this]
        · rw [if_neg hk] at h; simp at h
    · rw [if_neg hn] at h; simp at h
theorem calls_cons {f : Nat} {p : Int} {r : List Int} {cs : List (List (List Int))} (h : PyWide.calls f (p :: r) = some cs) :
    ∃ c t cr f', PyWide.call (p :: r) = some (c, t) ∧ PyWide.calls f' t = some cr ∧ cs = c :: cr := by
  cases f with
  | zero => simp [PyWide.calls] at h
  | succ f =>
    unfold PyWide.calls at h
    cases hc : PyWide.call (p :: r) with
    | none => rw [hc] at h; simp at h
    | some q =>
      obtain ⟨c, t⟩ := q
      rw [hc] at h
      simp only at h
      cases hr : PyWide.calls f t with
      | none => rw [hr] at h; simp at h
      | some cr =>
        rw [hr] at h
        simp only [Option.some.injEq] at h
        exact ⟨c, t, cr, f, rfl, hr, h.symm⟩
theorem calls_nil {f : Nat} {cs : List (List (List Int))} (h : PyWide.calls f [] = some cs) : cs = [] := by
  cases f <;> simp [PyWide.calls] at h <;> exact h
structure Left (rest : List Int) (cs : List (List (List Int))) (s : House) (n : Nat) : Prop where
  parse : ∃ f, PyWide.calls f rest = some cs
  ok : ∀ c ∈ cs, Si44Neutral.asked1 c = true
  short : Si44Neutral.short s n cs = true
theorem asked1_one {c : List (List Int)} (h : Si44Neutral.asked1 c = true) : c.length = 1 ∧ (∀ z ∈ c.headD [], 0 ≤ z ∧ z < 2 ^ 32) ∧ ∃ q, Si44Neutral.callOf (c.headD []) = some q := by
  unfold Si44Neutral.asked1 at h
  simp only [Bool.and_eq_true, beq_iff_eq, List.all_eq_true] at h
  refine ⟨h.1, fun z hz => ?_, ?_⟩
  · have := h.2.1 z hz
    unfold Si44Neutral.natural at this
    simp only [Bool.and_eq_true, decide_eq_true_eq] at this
    exact this
  · cases e : Si44Neutral.callOf (c.headD []) with
    | none => rw [e] at h; simp at h
    | some q => exact ⟨q, rfl⟩
theorem Left.turn {p : Int} {r : List Int} {cs : List (List (List Int))} {s : House} {n : Nat} (L : Left (p :: r) cs s n) :
    ∃ (ns t : List Int) (cr : List (List (List Int))) (q : Si44.Call), cs = [p :: ns] :: cr ∧ r = (ns.length : Int) :: (ns ++ 0 :: t) ∧ Si44Neutral.callOf (p :: ns) = some q ∧ (∀ z ∈ p :: ns, 0 ≤ z ∧ z < 2 ^ 32) ∧
      1 + (Si44.step s q).2.l.length ≤ n ∧ Left t cr (Si44.step s q).1 (n - (1 + (Si44.step s q).2.l.length)) ∧ Si44Neutral.step s [p :: ns] = ((Si44.step s q).1, (Si44.step s q).2.v :: (Si44.step s q).2.l) := by
  obtain ⟨f, hf⟩ := L.parse
  obtain ⟨c, t, cr, f', h1, h2, rfl⟩ := calls_cons hf
  obtain ⟨hl, hz, q, hq⟩ := asked1_one (L.ok c (by simp))
  obtain ⟨ns, rfl, hr⟩ := call_head h1 hl
  have hst : Si44Neutral.step s [p :: ns] = ((Si44.step s q).1, (Si44.step s q).2.v :: (Si44.step s q).2.l) := by
    unfold Si44Neutral.step
    have hq' : Si44Neutral.callOf (([p :: ns] : List (List Int)).headD []) = some q := hq
    rw [hq']
  have hs := L.short
  unfold Si44Neutral.short at hs
  simp only [Bool.and_eq_true, decide_eq_true_eq] at hs
  rw [hst] at hs
  simp only [List.length_cons] at hs
  refine ⟨ns, t, cr, q, rfl, hr, hq, hz, by omega, ⟨⟨f', h2⟩, fun c hc => L.ok c (by simp [hc]), ?_⟩, hst⟩
  rw [Nat.add_comm]
  exact hs.2
end Sj
namespace Sj
open Si44
def flat2 : List (Nat × Nat) → List Nat
  | [] => []
  | (a, b) :: r => a :: b :: flat2 r
def flat3 : List Si44.Step → List Nat
  | [] => []
  | s :: r => s.machine :: s.kind :: s.long :: flat3 r
theorem flat2_len : ∀ rs, (flat2 rs).length = 2 * rs.length
  | [] => rfl
  | (a, b) :: r => by
    show (flat2 r).length + 1 + 1 = 2 * (r.length + 1)
    rw [flat2_len r]
    omega
theorem flat3_len : ∀ rs, (flat3 rs).length = 3 * rs.length
  | [] => rfl
  | s :: r => by
    show (flat3 r).length + 1 + 1 + 1 = 3 * (r.length + 1)
    rw [flat3_len r]
    omega
theorem flat2_at : ∀ {rs : List (Nat × Nat)} {i : Nat} {r : Nat × Nat}, rs[i]? = some r → (flat2 rs)[2 * i]? = some r.1 ∧ (flat2 rs)[2 * i + 1]? = some r.2
  | [], i, r, h => by simp at h
  | (a, b) :: rs, 0, r, h => by
    have e : (a, b) = r := Option.some.inj h
    subst e
    exact ⟨rfl, rfl⟩
  | (a, b) :: rs, i + 1, r, h => by
    have := flat2_at (rs := rs) (i := i) (r := r) h
    have e1 : 2 * (i + 1) = 2 * i + 1 + 1 := by omega
    rw [e1]
    exact this
theorem flat3_at : ∀ {rs : List Si44.Step} {i : Nat} {r : Si44.Step}, rs[i]? = some r → (flat3 rs)[3 * i]? = some r.machine ∧ (flat3 rs)[3 * i + 1]? = some r.kind ∧ (flat3 rs)[3 * i + 2]? = some r.long
  | [], i, r, h => by simp at h
  | s :: rs, 0, r, h => by
    have e : s = r := Option.some.inj h
    subst e
    exact ⟨rfl, rfl, rfl⟩
  | s :: rs, i + 1, r, h => by
    have := flat3_at (rs := rs) (i := i) (r := r) h
    have e1 : 3 * (i + 1) = 3 * i + 1 + 1 + 1 := by omega
    rw [e1]
    exact this
theorem restsOf_flat : ∀ (n : Nat) (r : List Nat) (x : List (Nat × Nat)), Si44Neutral.restsOf n r = some x → r = flat2 x ∧ x.length ≤ n
  | n, [], x, h => by
    cases n <;> (simp [Si44Neutral.restsOf] at h; subst h; exact ⟨rfl, Nat.zero_le _⟩)
  | 0, [a], x, h => by simp [Si44Neutral.restsOf] at h
  | 0, a :: b :: r, x, h => by simp [Si44Neutral.restsOf] at h
  | n + 1, [a], x, h => by simp [Si44Neutral.restsOf] at h
  | n + 1, a :: b :: r, x, h => by
    simp only [Si44Neutral.restsOf] at h
    cases e : Si44Neutral.restsOf n r with
    | none => rw [e] at h; simp at h
    | some l =>
      rw [e] at h
      simp at h
      subst h
      obtain ⟨h1, h2⟩ := restsOf_flat n r l e
      subst h1
      exact ⟨rfl, by simp; omega⟩
theorem stepsOf_flat : ∀ (n : Nat) (r : List Nat) (x : List Si44.Step), Si44Neutral.stepsOf n r = some x → r = flat3 x ∧ x.length ≤ n
  | n, [], x, h => by
    cases n <;> (simp [Si44Neutral.stepsOf] at h; subst h; exact ⟨rfl, Nat.zero_le _⟩)
  | 0, [a], x, h => by simp [Si44Neutral.stepsOf] at h
  | 0, [a, b], x, h => by simp [Si44Neutral.stepsOf] at h
  | 0, a :: b :: d :: r, x, h => by simp [Si44Neutral.stepsOf] at h
  | n + 1, [a], x, h => by simp [Si44Neutral.stepsOf] at h
  | n + 1, [a, b], x, h => by simp [Si44Neutral.stepsOf] at h
  | n + 1, a :: b :: d :: r, x, h => by
    simp only [Si44Neutral.stepsOf] at h
    cases e : Si44Neutral.stepsOf n r with
    | none => rw [e] at h; simp at h
    | some l =>
      rw [e] at h
      simp at h
      subst h
      obtain ⟨h1, h2⟩ := stepsOf_flat n r l e
      subst h1
      exact ⟨rfl, by simp; omega⟩
def up (o : List Nat) : List Int := o.map fun (n : Nat) => (n : Int)
theorem up_of : ∀ (ns : List Int), (∀ z ∈ ns, 0 ≤ z) → ns = up (ns.map Int.toNat)
  | [], _ => rfl
  | z :: ns, h => by
    show z :: ns = ((z.toNat : Nat) : Int) :: up (ns.map Int.toNat)
    rw [← up_of ns fun y hy => h y (by simp [hy])]
    have := h z (by simp)
    congr 1
    omega
inductive CallIs : Int → List Int → Si44.Call → Prop
  | begins : CallIs 0 [] .begins
  | machine (m : Machine) : m.rests.length ≤ 10 → CallIs 1 (up (m.change :: flat2 m.rests)) (.machine m.change m.rests)
  | job (b : Job) : b.steps.length ≤ 12 → CallIs 2 (up (b.from_ :: b.due :: b.weight :: flat3 b.steps)) (.job b)
  | drop (j : Nat) : CallIs 3 (up [j]) (.drop j)
  | times (o : List Nat) : o.length ≤ 20 → CallIs 4 (up o) (.times o)
  | best : CallIs 5 [] .best
  | ways : CallIs 6 [] .ways
  | why (j : Nat) (o : List Nat) : o.length ≤ 20 → CallIs 7 (up (j :: o)) (.why j o)
  | slack (j k : Nat) (o : List Nat) : o.length ≤ 20 → CallIs 8 (up (j :: k :: o)) (.slack j k o)
theorem callOf_is {cp : Int} {ns : List Int} {q : Si44.Call} (hz : ∀ z ∈ cp :: ns, 0 ≤ z ∧ z < 2 ^ 32) (h : Si44Neutral.callOf (cp :: ns) = some q) : CallIs cp ns q := by
  have h0 : 0 ≤ cp := (hz cp (by simp)).1
  have hn : ns = up (ns.map Int.toNat) := up_of ns fun z hz' => (hz z (by simp [hz'])).1
  obtain ⟨n, hnn⟩ : ∃ n : Nat, cp = (n : Int) := ⟨cp.toNat, by omega⟩
  subst hnn
  generalize ns.map Int.toNat = o at hn
  subst hn
  have ho : (up o).map Int.toNat = o := by
    unfold up
    rw [List.map_map]
    conv => rhs; rw [← List.map_id o]
    apply List.map_congr_left
    intro x _
    simp
  unfold Si44Neutral.callOf at h
  have e : ((n : Int) :: up o).map Int.toNat = n :: o := by
    rw [List.map_cons, ho]
    simp
  rw [e] at h
  clear hz e ho h0
  match n, o, h with
  | 0, [], h => cases h; exact .begins
  | 0, _ :: _, h => cases h
  | 1, [], h => cases h
  | 1, c :: r, h =>
    have h : (Si44Neutral.restsOf 10 r).map (fun x => Si44.Call.machine c x) = some q := h
    cases e : Si44Neutral.restsOf 10 r with
    | none => rw [e] at h; cases h
    | some x =>
      rw [e] at h
      cases h
      obtain ⟨h1, h2⟩ := restsOf_flat 10 r x e
      subst h1
      exact .machine ⟨c, x⟩ h2
  | 2, [], h => cases h
  | 2, [_], h => cases h
  | 2, [_, _], h => cases h
  | 2, f :: d :: w :: r, h =>
    have h : (Si44Neutral.stepsOf 12 r).map (fun x => Si44.Call.job ⟨f, d, w, x⟩) = some q := h
    cases e : Si44Neutral.stepsOf 12 r with
    | none => rw [e] at h; cases h
    | some x =>
      rw [e] at h
      cases h
      obtain ⟨h1, h2⟩ := stepsOf_flat 12 r x e
      subst h1
      exact .job ⟨f, d, w, x⟩ h2
  | 3, [], h => cases h
  | 3, [j], h => cases h; exact .drop j
  | 3, _ :: _ :: _, h => cases h
  | 4, o, h =>
    have h : (if o.length ≤ 20 then some (Si44.Call.times o) else none) = some q := h
    by_cases z : o.length ≤ 20
    · rw [if_pos z] at h; cases h; exact .times o z
    · rw [if_neg z] at h; cases h
  | 5, [], h => cases h; exact .best
  | 5, _ :: _, h => cases h
  | 6, [], h => cases h; exact .ways
  | 6, _ :: _, h => cases h
  | 7, [], h => cases h
  | 7, j :: o, h =>
    have h : (if o.length ≤ 20 then some (Si44.Call.why j o) else none) = some q := h
    by_cases z : o.length ≤ 20
    · rw [if_pos z] at h; cases h; exact .why j o z
    · rw [if_neg z] at h; cases h
  | 8, [], h => cases h
  | 8, [_], h => cases h
  | 8, j :: k :: o, h =>
    have h : (if o.length ≤ 20 then some (Si44.Call.slack j k o) else none) = some q := h
    by_cases z : o.length ≤ 20
    · rw [if_pos z] at h; cases h; exact .slack j k o z
    · rw [if_neg z] at h; cases h
  | n + 9, o, h => cases h
end Sj
namespace Sj
open Si44
def ahead (h : House) (l : List Done) : List (List Nat) := [ups h l, jss h l, mss h l, kss h l]
theorem lt_at {α : Type} {l : List α} {i : Nat} {x : α} (h : l[i]? = some x) : i < l.length := (List.getElem?_eq_some_iff.mp h).1
theorem put_cases {h : House} (v : Sound h) (l : List Done) {j : Nat} (hj : j < h.jobs.length) : (∃ b, h.jobs[j]? = some b ∧ b.steps.length ≤ cnt l j ∧ put h l j = none) ∨
    ∃ b s m, h.jobs[j]? = some b ∧ b.steps[cnt l j]? = some s ∧ h.machines[s.machine]? = some m ∧ put h l j = some (l ++ [doneP m l j b s]) := by
  have hb : h.jobs[j]? = some h.jobs[j] := List.getElem?_eq_getElem hj
  generalize h.jobs[j] = b at hb
  cases hs : b.steps[cnt l j]? with
  | none =>
    refine .inl ⟨b, hb, List.getElem?_eq_none_iff.mp hs, ?_⟩
    unfold put
    rw [hb]
    show (b.steps[cnt l j]?).map _ = none
    rw [hs]
    rfl
  | some s =>
    have hm := List.getElem?_eq_getElem (v.machine hb hs)
    exact .inr ⟨b, s, _, hb, hs, hm, put_P v hb hs hm⟩
theorem ahead_cnt {h : House} {l l' : List Done} (e : ahead h l = ahead h l') {j : Nat} (hj : j < h.jobs.length) : cnt l j = cnt l' j := by
  unfold ahead at e
  injection e with e1 e2
  have a := ups_get l hj
  rw [e1, ups_get l' hj] at a
  exact (Option.some.inj a).symm
theorem done_same {h : House} (v : Sound h) {l l' : List Done} (e : ahead h l = ahead h l') {j : Nat} {b : Job} {s : Step} {m : Machine} (hb : h.jobs[j]? = some b) (hs : b.steps[cnt l j]? = some s) (hm : h.machines[s.machine]? = some m) :
    doneP m l j b s = doneP m l' j b s := by
  have ec := ahead_cnt e (lt_at hb)
  have hc : cnt l j < b.steps.length := lt_at hs
  unfold ahead at e
  injection e with e1 e2
  injection e2 with e2 e3
  injection e3 with e3 e4
  injection e4 with e4 _
  have er : readyAt l j b = readyAt l' j b := by
    have a := jss_get l hb hc
    rw [e2, jss_get l' hb (by omega)] at a
    exact (Option.some.inj a).symm
  have em : machineAt l s.machine = machineAt l' s.machine := by
    have a := mss_get l (lt_at hm)
    rw [e3, mss_get l' (lt_at hm)] at a
    exact (Option.some.inj a).symm
  have ek : kindAt l s.machine = kindAt l' s.machine := by
    have a := kss_get l (lt_at hm)
    rw [e4, kss_get l' (lt_at hm)] at a
    exact (Option.some.inj a).symm
  have et : takesP m l s = takesP m l' s := by unfold takesP; rw [ek]
  unfold doneP
  rw [ec, er, em, et]
theorem ahead_snoc {h : House} {l l' : List Done} (e : ahead h l = ahead h l') {d : Done} {b : Job} (hb : h.jobs[d.job]? = some b) : ahead h (l ++ [d]) = ahead h (l' ++ [d]) := by
  have ec := ahead_cnt e (lt_at hb)
  unfold ahead at e ⊢
  injection e with e1 e2
  injection e2 with e2 e3
  injection e3 with e3 e4
  injection e4 with e4 _
  rw [ups_snoc, ups_snoc, jss_snoc l hb, jss_snoc l' hb, mss_snoc, mss_snoc, kss_snoc, kss_snoc, e1, e2, e3, e4, ec]
def remc (h : House) (l : List Done) : List Nat := h.jobs.zipIdx.map fun x => x.1.steps.length - cnt l x.2
theorem remc_get {h : House} (l : List Done) {j : Nat} {b : Job} (hb : h.jobs[j]? = some b) : (remc h l)[j]? = some (b.steps.length - cnt l j) := by
  unfold remc; rw [zip_get, hb]; rfl
theorem remc_len (h : House) (l : List Done) : (remc h l).length = h.jobs.length := by unfold remc; rw [List.length_map, List.length_zipIdx]
theorem remc_nil (h : House) : remc h [] = lens h := by
  apply List.ext_getElem?
  intro i
  unfold remc lens
  rw [zip_get, List.getElem?_map]
  rfl
theorem remc_snoc {h : House} (l : List Done) {d : Done} {b : Job} (hb : h.jobs[d.job]? = some b) : remc h (l ++ [d]) = (remc h l).set d.job ((remc h l).getD d.job 0 - 1) := by
  rw [getD_of (remc_get l hb)]
  apply List.ext_getElem?
  intro i
  rw [List.getElem?_set, remc_len]
  unfold remc
  rw [zip_get, zip_get]
  by_cases e : d.job = i
  · subst e
    rw [if_pos rfl, if_pos (lt_at hb), hb]
    show some (b.steps.length - cnt (l ++ [d]) d.job) = _
    rw [cnt_snoc, if_pos rfl]
    congr 1
  · rw [if_neg e]
    simp only [cnt_snoc, if_neg e]
theorem total_set : ∀ {L : List Nat} {j u : Nat} (v : Nat), L[j]? = some u → total (L.set j v) + u = total L + v
  | [], j, u, v, h => by simp at h
  | x :: L, 0, u, v, h => by
    have e : x = u := Option.some.inj h
    subst e
    rw [List.set_cons_zero, total_cons, total_cons]
    omega
  | x :: L, j + 1, u, v, h => by
    have := total_set (L := L) (j := j) v h
    rw [List.set_cons_succ, total_cons, total_cons]
    omega
theorem total_zero : ∀ {L : List Nat}, total L = 0 → ∀ x ∈ L, x = 0
  | [], _, x, hx => by simp at hx
  | y :: L, h, x, hx => by
    rw [total_cons] at h
    rcases List.mem_cons.mp hx with rfl | hx
    · omega
    · exact total_zero (by omega) x hx
theorem total_pos : ∀ {L : List Nat}, total L ≠ 0 → ∃ (j u : Nat), L[j]? = some u ∧ u ≠ 0
  | [], h => absurd rfl h
  | x :: L, h => by
    by_cases e : x = 0
    · subst e
      rw [total_cons] at h
      obtain ⟨j, u, h1, h2⟩ := total_pos (L := L) (by omega)
      exact ⟨j + 1, u, h1, h2⟩
    · exact ⟨0, x, rfl, e⟩
theorem remc_put {h : House} {l : List Done} {d : Done} {b : Job} {r : Nat} (hb : h.jobs[d.job]? = some b) (hc : cnt l d.job < b.steps.length) (hr : total (remc h l) = r + 1) : total (remc h (l ++ [d])) = r := by
  have g := remc_get l hb
  rw [remc_snoc l hb, getD_of g]
  have := total_set (b.steps.length - cnt l d.job - 1) g
  omega
def spentOf (h : House) (l : List Done) : Nat := total (h.jobs.zipIdx.map fun x => if x.1.steps.length ≤ cnt l x.2 then x.1.weight * lateOf l x.2 x.1 else 0)
def endedOf (h : House) (l : List Done) : Nat := total (h.jobs.zipIdx.map fun x => if x.1.steps.length ≤ cnt l x.2 then endOf l x.2 x.1 else 0)
theorem total_one {js : List Job} {f g : Job × Nat → Nat} {j : Nat} {b : Job} (hb : js[j]? = some b) (ho : ∀ i b', js[i]? = some b' → i ≠ j → g (b', i) = f (b', i)) (h0 : f (b, j) = 0) :
    total (js.zipIdx.map g) = total (js.zipIdx.map f) + g (b, j) := by
  have e : js.zipIdx.map g = (js.zipIdx.map f).set j (g (b, j)) := by
    apply List.ext_getElem?
    intro i
    rw [List.getElem?_set, zip_get, zip_get, List.length_map, List.length_zipIdx]
    by_cases e : j = i
    · subst e
      rw [if_pos rfl, if_pos (lt_at hb), hb]
      rfl
    · rw [if_neg e]
      cases q : js[i]? with
      | none => rfl
      | some b' => show some (g (b', i)) = some (f (b', i)); rw [ho i b' q (fun z => e z.symm)]
  have g1 : (js.zipIdx.map f)[j]? = some (f (b, j)) := by rw [zip_get, hb]; rfl
  have := total_set (g (b, j)) g1
  rw [e]
  omega
theorem spent_snoc {h : House} {l : List Done} {d : Done} {b : Job} (hb : h.jobs[d.job]? = some b) (hc : cnt l d.job < b.steps.length) :
    spentOf h (l ++ [d]) = spentOf h l + (if b.steps.length ≤ cnt l d.job + 1 then b.weight * (d.halt_ - b.due) else 0) := by
  unfold spentOf
  have key := total_one (f := fun x => if x.1.steps.length ≤ cnt l x.2 then x.1.weight * lateOf l x.2 x.1 else 0) (g := fun x => if x.1.steps.length ≤ cnt (l ++ [d]) x.2 then x.1.weight * lateOf (l ++ [d]) x.2 x.1 else 0) hb
    (fun i b' _ n => ?_) (if_neg (by show ¬ b.steps.length ≤ cnt l d.job; omega))
  · rw [key]
    congr 1
    show (if b.steps.length ≤ cnt (l ++ [d]) d.job then b.weight * lateOf (l ++ [d]) d.job b else 0) = _
    unfold lateOf endOf
    rw [cnt_snoc, if_pos rfl, readyAt_snoc, if_pos rfl]
  · show (if b'.steps.length ≤ cnt (l ++ [d]) i then b'.weight * lateOf (l ++ [d]) i b' else 0) = _
    have nj : ¬ d.job = i := fun z => n z.symm
    unfold lateOf endOf
    simp only [cnt_snoc, readyAt_snoc, if_neg nj]
theorem ended_snoc {h : House} {l : List Done} {d : Done} {b : Job} (hb : h.jobs[d.job]? = some b) (hc : cnt l d.job < b.steps.length) :
    endedOf h (l ++ [d]) = endedOf h l + (if b.steps.length ≤ cnt l d.job + 1 then d.halt_ else 0) := by
  unfold endedOf
  have key := total_one (f := fun x => if x.1.steps.length ≤ cnt l x.2 then endOf l x.2 x.1 else 0) (g := fun x => if x.1.steps.length ≤ cnt (l ++ [d]) x.2 then endOf (l ++ [d]) x.2 x.1 else 0) hb
    (fun i b' _ n => ?_) (if_neg (by show ¬ b.steps.length ≤ cnt l d.job; omega))
  · rw [key]
    congr 1
    show (if b.steps.length ≤ cnt (l ++ [d]) d.job then endOf (l ++ [d]) d.job b else 0) = _
    unfold endOf
    rw [cnt_snoc, if_pos rfl, readyAt_snoc, if_pos rfl]
  · show (if b'.steps.length ≤ cnt (l ++ [d]) i then endOf (l ++ [d]) i b' else 0) = _
    have nj : ¬ d.job = i := fun z => n z.symm
    unfold endOf
    simp only [cnt_snoc, readyAt_snoc, if_neg nj]
theorem all_done {h : House} {l : List Done} (hr : total (remc h l) = 0) {j : Nat} {b : Job} (hb : h.jobs[j]? = some b) : b.steps.length ≤ cnt l j := by
  have := total_zero hr _ (List.mem_of_getElem? (remc_get l hb))
  omega
theorem spent_end {h : House} {l : List Done} (hr : total (remc h l) = 0) : cost h l = spentOf h l := by
  unfold cost spentOf
  congr 1
  apply List.ext_getElem?
  intro i
  rw [zip_get, zip_get]
  cases hb : h.jobs[i]? with
  | none => rfl
  | some b =>
    show some _ = some (if b.steps.length ≤ cnt l i then b.weight * lateOf l i b else 0)
    rw [if_pos (all_done hr hb)]
theorem ended_end {h : House} {l : List Done} (hr : total (remc h l) = 0) : ends h l = endedOf h l := by
  unfold ends endedOf
  congr 1
  apply List.ext_getElem?
  intro i
  rw [zip_get, zip_get]
  cases hb : h.jobs[i]? with
  | none => rfl
  | some b =>
    show some _ = some (if b.steps.length ≤ cnt l i then endOf l i b else 0)
    rw [if_pos (all_done hr hb)]
theorem spent_nil {h : House} (v : Sound h) : spentOf h [] = 0 := by
  have e : ∀ L : List Nat, (∀ x ∈ L, x = 0) → total L = 0 := by
    intro L
    induction L with
    | nil => intro _; rfl
    | cons x L ih => intro q; rw [total_cons, q x (by simp), ih fun y hy => q y (by simp [hy])]
  refine e _ fun x hx => ?_
  obtain ⟨i, hi⟩ := List.getElem?_of_mem hx
  rw [zip_get] at hi
  cases hb : h.jobs[i]? with
  | none => rw [hb] at hi; cases hi
  | some b =>
    rw [hb] at hi
    have hi : (if b.steps.length ≤ cnt [] i then b.weight * lateOf [] i b else 0) = x := Option.some.inj hi
    rw [if_neg] at hi
    · exact hi.symm
    · have := v.one b (List.mem_of_getElem? hb)
      show ¬ b.steps.length ≤ 0
      omega
theorem ended_nil {h : House} (v : Sound h) : endedOf h [] = 0 := by
  have e : ∀ L : List Nat, (∀ x ∈ L, x = 0) → total L = 0 := by
    intro L
    induction L with
    | nil => intro _; rfl
    | cons x L ih => intro q; rw [total_cons, q x (by simp), ih fun y hy => q y (by simp [hy])]
  refine e _ fun x hx => ?_
  obtain ⟨i, hi⟩ := List.getElem?_of_mem hx
  rw [zip_get] at hi
  cases hb : h.jobs[i]? with
  | none => rw [hb] at hi; cases hi
  | some b =>
    rw [hb] at hi
    have hi : (if b.steps.length ≤ cnt [] i then endOf [] i b else 0) = x := Option.some.inj hi
    rw [if_neg] at hi
    · exact hi.symm
    · have := v.one b (List.mem_of_getElem? hb)
      show ¬ b.steps.length ≤ 0
      omega
abbrev Tri := Nat × Nat × List Nat
def trip (h : House) : Nat → List Done → List Tri
  | 0, l => [(cost h l, ends h l, [])]
  | r + 1, l => (List.range h.jobs.length).flatMap fun j => match put h l j with
    | none => []
    | some l' => (trip h r l').map fun t => (t.1, t.2.1, j :: t.2.2)
theorem filterMap_in {α β : Type} {f g : α → Option β} : ∀ {l : List α}, (∀ x ∈ l, f x = g x) → l.filterMap f = l.filterMap g
  | [], _ => rfl
  | x :: l, h => by
    rw [List.filterMap_cons, List.filterMap_cons, h x (by simp), filterMap_in fun y hy => h y (by simp [hy])]
theorem flatMap_in {α β : Type} {f g : α → List β} : ∀ {l : List α}, (∀ x ∈ l, f x = g x) → l.flatMap f = l.flatMap g
  | [], _ => rfl
  | x :: l, h => by
    rw [List.flatMap_cons, List.flatMap_cons, h x (by simp), flatMap_in fun y hy => h y (by simp [hy])]
theorem rows_len : ∀ (r : Nat) (c : List Nat) (o : List Nat), o ∈ rowsOf r c → o.length = r
  | 0, c, o, h => by
    simp only [rowsOf, List.mem_singleton] at h
    subst h
    rfl
  | r + 1, c, o, h => by
    simp only [rowsOf, List.mem_flatMap] at h
    obtain ⟨j, _, h⟩ := h
    split at h
    · simp at h
    · obtain ⟨o', h1, rfl⟩ := List.mem_map.mp h
      rw [List.length_cons, rows_len r _ o' h1]
theorem rows_trip {h : House} (v : Sound h) : ∀ (r : Nat) (l : List Done), total (remc h l) = r → (rowsOf r (remc h l)).filterMap (fun o => (putAll h l o).map fun l' => (cost h l', ends h l', o)) = trip h r l
  | 0, l, _ => rfl
  | r + 1, l, hr => by
    unfold rowsOf trip
    rw [List.filterMap_flatMap, remc_len]
    refine flatMap_in fun j hj => ?_
    have hj := List.mem_range.mp hj
    rcases put_cases v l hj with ⟨b, hb, hc, hp⟩ | ⟨b, s, m, hb, hs, hm, hp⟩
    · rw [hp, getD_of (remc_get l hb), if_pos (by omega)]
      rfl
    · have hc : cnt l j < b.steps.length := lt_at hs
      rw [hp, getD_of (remc_get l hb), if_neg (by omega), List.filterMap_map]
      have ih := rows_trip v r (l ++ [doneP m l j b s]) (remc_put (d := doneP m l j b s) hb hc hr)
      rw [remc_snoc (d := doneP m l j b s) l hb] at ih
      have e : (doneP m l j b s).job = j := rfl
      rw [e, getD_of (remc_get l hb)] at ih
      show _ = (trip h r (l ++ [doneP m l j b s])).map fun t => (t.1, t.2.1, j :: t.2.2)
      rw [← ih, List.map_filterMap]
      refine filterMap_in fun o _ => ?_
      show (putAll h l (j :: o)).map _ = _
      have e2 : putAll h l (j :: o) = putAll h (l ++ [doneP m l j b s]) o := by
        rw [putAll, hp]
        rfl
      rw [e2, Option.map_map]
      rfl
theorem spec_trip {h : House} (v : Sound h) : (orders h).filterMap (fun o => (Si44.times h o).map fun l => (cost h l, ends h l, o)) = trip h (total (lens h)) [] := by
  rw [← rows_trip v (total (lens h)) [] (by rw [remc_nil]), remc_nil]
  refine filterMap_in fun o ho => ?_
  have := rows_len _ _ _ ho
  unfold Si44.times
  rw [if_pos this]
theorem spec_costs {h : House} (v : Sound h) : (orders h).filterMap (fun o => (Si44.times h o).map (cost h)) = (trip h (total (lens h)) []).map (·.1) := by
  rw [← spec_trip v, List.map_filterMap]
  refine filterMap_in fun o _ => ?_
  rw [Option.map_map]
  rfl
theorem map_inj {α β : Type} {G : α → β} (inj : ∀ a b, G a = G b → a = b) : ∀ {xs ys : List α}, xs.map G = ys.map G → xs = ys
  | [], [], _ => rfl
  | [], _ :: _, e => by simp at e
  | _ :: _, [], e => by simp at e
  | x :: xs, y :: ys, e => by
    rw [List.map_cons, List.map_cons] at e
    injection e with e1 e2
    rw [inj _ _ e1, map_inj inj e2]
theorem trip_par {h : House} (v : Sound h) : ∀ (r : Nat) (l l' : List Done), ahead h l = ahead h l' → total (remc h l) = r → total (remc h l') = r →
    (trip h r l).map (fun t => (t.1 + spentOf h l', t.2.1 + endedOf h l', t.2.2)) = (trip h r l').map (fun t => (t.1 + spentOf h l, t.2.1 + endedOf h l, t.2.2))
  | 0, l, l', e, hr, hr' => by
    unfold trip
    rw [List.map_cons, List.map_cons, List.map_nil, List.map_nil]
    show [(cost h l + spentOf h l', ends h l + endedOf h l', ([] : List Nat))] = [(cost h l' + spentOf h l, ends h l' + endedOf h l, [])]
    rw [spent_end hr, spent_end hr', ended_end hr, ended_end hr', Nat.add_comm, Nat.add_comm (endedOf h l)]
  | r + 1, l, l', e, hr, hr' => by
    unfold trip
    rw [List.map_flatMap, List.map_flatMap]
    refine flatMap_in fun j hj => ?_
    have hj := List.mem_range.mp hj
    have ec := ahead_cnt e hj
    rcases put_cases v l hj with ⟨b, hb, hc, hp⟩ | ⟨b, s, m, hb, hs, hm, hp⟩
    · rcases put_cases v l' hj with ⟨b', hb', hc', hp'⟩ | ⟨b', s', m', hb', hs', hm', hp'⟩
      · rw [hp, hp']
        rfl
      · rw [hb] at hb'
        cases hb'
        have := lt_at hs'
        omega
    · have hc : cnt l j < b.steps.length := lt_at hs
      have hs' : b.steps[cnt l' j]? = some s := by rw [← ec]; exact hs
      have hp' := put_P v hb hs' hm
      have ed := done_same v e hb hs hm
      rw [← ed] at hp'
      rw [hp, hp']
      generalize hd : doneP m l j b s = d at hp hp' ed ⊢
      have hdj : d.job = j := by rw [← hd]; rfl
      have hbd : h.jobs[d.job]? = some b := by rw [hdj]; exact hb
      have hcd : cnt l d.job < b.steps.length := by rw [hdj]; exact hc
      have hcd' : cnt l' d.job < b.steps.length := by rw [hdj, ← ec]; exact hc
      have ih := trip_par v r (l ++ [d]) (l' ++ [d]) (ahead_snoc e hbd) (remc_put hbd hcd hr) (remc_put hbd hcd' hr')
      rw [spent_snoc hbd hcd, spent_snoc hbd hcd', ended_snoc hbd hcd, ended_snoc hbd hcd', hdj, ← ec] at ih
      generalize (if b.steps.length ≤ cnt l j + 1 then b.weight * (d.halt_ - b.due) else 0) = i1 at ih
      generalize (if b.steps.length ≤ cnt l j + 1 then d.halt_ else 0) = i2 at ih
      have ih2 : (trip h r (l ++ [d])).map (fun t => (t.1 + spentOf h l', t.2.1 + endedOf h l', t.2.2)) = (trip h r (l' ++ [d])).map (fun t => (t.1 + spentOf h l, t.2.1 + endedOf h l, t.2.2)) := by
        apply map_inj (G := fun (t : Tri) => ((t.1 + i1, t.2.1 + i2, t.2.2) : Tri))
        · rintro ⟨a1, a2, a3⟩ ⟨b1, b2, b3⟩ q
          simp only [Prod.mk.injEq] at q ⊢
          exact ⟨by omega, by omega, q.2.2⟩
        · rw [List.map_map, List.map_map]
          have e1 : ∀ (S E : Nat), ((fun (t : Tri) => ((t.1 + i1, t.2.1 + i2, t.2.2) : Tri)) ∘ fun (t : Tri) => ((t.1 + S, t.2.1 + E, t.2.2) : Tri)) = fun (t : Tri) => ((t.1 + (S + i1), t.2.1 + (E + i2), t.2.2) : Tri) := by
            intro S E
            funext t
            simp only [Function.comp, Nat.add_assoc]
          rw [e1, e1]
          exact ih
      show ((trip h r (l ++ [d])).map fun t => (t.1, t.2.1, j :: t.2.2)).map _ = ((trip h r (l' ++ [d])).map fun t => (t.1, t.2.1, j :: t.2.2)).map _
      have := congrArg (List.map fun (t : Tri) => ((t.1, t.2.1, j :: t.2.2) : Tri)) ih2
      rw [List.map_map, List.map_map] at this ⊢
      exact this
theorem trip_ne {h : House} (v : Sound h) : ∀ (r : Nat) (l : List Done), total (remc h l) = r → trip h r l ≠ []
  | 0, l, _ => by unfold trip; simp
  | r + 1, l, hr => by
    obtain ⟨j, u, hj, hu⟩ := total_pos (L := remc h l) (by omega)
    have hjl : j < h.jobs.length := by rw [← remc_len h l]; exact lt_at hj
    rcases put_cases v l hjl with ⟨b, hb, hc, hp⟩ | ⟨b, s, m, hb, hs, hm, hp⟩
    · rw [remc_get l hb] at hj
      have := Option.some.inj hj
      omega
    · have ih := trip_ne v r (l ++ [doneP m l j b s]) (remc_put (d := doneP m l j b s) hb (lt_at hs) hr)
      intro z
      unfold trip at z
      rw [List.flatMap_eq_nil_iff] at z
      have := z j (List.mem_range.mpr hjl)
      rw [hp] at this
      have this : (trip h r (l ++ [doneP m l j b s])).map _ = [] := this
      rw [List.map_eq_nil_iff] at this
      exact ih this
end Sj
namespace Sj
open Si44
def lexLt : List Nat → List Nat → Bool
  | _, [] => false
  | [], _ :: _ => true
  | x :: xs, y :: ys => decide (x < y) || (decide (x = y) && lexLt xs ys)
theorem lex_cons (x y : Nat) (xs ys : List Nat) : lexLt (x :: xs) (y :: ys) = true ↔ x < y ∨ (x = y ∧ lexLt xs ys = true) := by
  rw [lexLt]
  simp only [Bool.or_eq_true, Bool.and_eq_true, decide_eq_true_eq]
theorem lex_irrefl : ∀ xs, lexLt xs xs = false
  | [] => rfl
  | x :: xs => by
    cases q : lexLt (x :: xs) (x :: xs) with
    | false => rfl
    | true =>
      rcases (lex_cons x x xs xs).mp q with z | z
      · omega
      · rw [lex_irrefl xs] at z; cases z.2
theorem lex_trans : ∀ {xs ys zs : List Nat}, lexLt xs ys = true → lexLt ys zs = true → lexLt xs zs = true
  | _, _, [], _, b => by
    cases ‹List Nat› <;> simp [lexLt] at b
  | _, [], _ :: _, a, _ => by cases ‹List Nat› <;> simp [lexLt] at a
  | [], _ :: _, _ :: _, _, _ => rfl
  | x :: xs, y :: ys, z :: zs, a, b => by
    rw [lex_cons] at a b ⊢
    rcases a with a | ⟨rfl, a⟩
    · rcases b with b | ⟨rfl, b⟩
      · exact .inl (by omega)
      · exact .inl a
    · rcases b with b | ⟨rfl, b⟩
      · exact .inl b
      · exact .inr ⟨rfl, lex_trans a b⟩
theorem lex_anti : ∀ {xs ys : List Nat}, lexLt xs ys = false → lexLt ys xs = false → xs = ys
  | [], [], _, _ => rfl
  | [], _ :: _, a, _ => by simp [lexLt] at a
  | _ :: _, [], _, b => by simp [lexLt] at b
  | x :: xs, y :: ys, a, b => by
    have a' : ¬ (x < y ∨ (x = y ∧ lexLt xs ys = true)) := fun z => by rw [(lex_cons x y xs ys).mpr z] at a; cases a
    have b' : ¬ (y < x ∨ (y = x ∧ lexLt ys xs = true)) := fun z => by rw [(lex_cons y x ys xs).mpr z] at b; cases b
    have e : x = y := by omega
    subst e
    rw [lex_anti (xs := xs) (ys := ys)]
    · cases q : lexLt xs ys with
      | false => rfl
      | true => exact absurd (.inr ⟨rfl, q⟩) a'
    · cases q : lexLt ys xs with
      | false => rfl
      | true => exact absurd (.inr ⟨rfl, q⟩) b'
theorem lex_append : ∀ {a b c : List Nat}, a.length = b.length → lexLt (a ++ c) (b ++ c) = true → lexLt a b = true
  | [], [], c, _, h => by rw [List.nil_append, lex_irrefl] at h; cases h
  | [], _ :: _, _, e, _ => by simp at e
  | _ :: _, [], _, e, _ => by simp at e
  | x :: a, y :: b, c, e, h => by
    rw [List.cons_append, List.cons_append, lex_cons] at h
    rw [lex_cons]
    rcases h with h | ⟨h1, h2⟩
    · exact .inl h
    · exact .inr ⟨h1, lex_append (by simpa using e) h2⟩
def rkLt (a b : Tri) : Bool := decide (a.1 < b.1) || (decide (a.1 = b.1) && (decide (a.2.1 < b.2.1) || (decide (a.2.1 = b.2.1) && lexLt a.2.2 b.2.2)))
theorem rk_iff (a b : Tri) : rkLt a b = true ↔ a.1 < b.1 ∨ (a.1 = b.1 ∧ (a.2.1 < b.2.1 ∨ (a.2.1 = b.2.1 ∧ lexLt a.2.2 b.2.2 = true))) := by
  unfold rkLt
  simp only [Bool.or_eq_true, Bool.and_eq_true, decide_eq_true_eq]
theorem rk_not (a b : Tri) : rkLt a b = false ↔ ¬ (a.1 < b.1 ∨ (a.1 = b.1 ∧ (a.2.1 < b.2.1 ∨ (a.2.1 = b.2.1 ∧ lexLt a.2.2 b.2.2 = true)))) := by
  rw [← rk_iff]
  cases rkLt a b <;> simp
theorem rk_irrefl (a : Tri) : rkLt a a = false := by
  rw [rk_not]
  rintro (z | ⟨_, z | ⟨_, z⟩⟩)
  · omega
  · omega
  · rw [lex_irrefl] at z; cases z
theorem rk_trans {a b c : Tri} (x : rkLt a b = true) (y : rkLt b c = true) : rkLt a c = true := by
  rw [rk_iff] at x y ⊢
  rcases x with x | ⟨x1, x2 | ⟨x2, x3⟩⟩ <;> rcases y with y | ⟨y1, y2 | ⟨y2, y3⟩⟩
  · exact .inl (by omega)
  · exact .inl (by omega)
  · exact .inl (by omega)
  · exact .inl (by omega)
  · exact .inr ⟨by omega, .inl (by omega)⟩
  · exact .inr ⟨by omega, .inl (by omega)⟩
  · exact .inl (by omega)
  · exact .inr ⟨by omega, .inl (by omega)⟩
  · exact .inr ⟨by omega, .inr ⟨by omega, lex_trans x3 y3⟩⟩
theorem rk_anti {a b : Tri} (x : rkLt a b = false) (y : rkLt b a = false) : a = b := by
  rw [rk_not] at x y
  obtain ⟨a1, a2, a3⟩ := a
  obtain ⟨b1, b2, b3⟩ := b
  simp only at x y
  have e1 : a1 = b1 := by omega
  subst e1
  have e2 : a2 = b2 := by
    rcases Nat.lt_trichotomy a2 b2 with z | z | z
    · exact absurd (.inr ⟨rfl, .inl z⟩) x
    · exact z
    · exact absurd (.inr ⟨rfl, .inl z⟩) y
  subst e2
  have e3 : a3 = b3 := by
    apply lex_anti
    · cases q : lexLt a3 b3 with
      | false => rfl
      | true => exact absurd (.inr ⟨rfl, .inr ⟨rfl, q⟩⟩) x
    · cases q : lexLt b3 a3 with
      | false => rfl
      | true => exact absurd (.inr ⟨rfl, .inr ⟨rfl, q⟩⟩) y
  rw [e3]
theorem rk_not_trans {a b c : Tri} (x : rkLt a b = false) (y : rkLt b c = false) : rkLt a c = false := by
  cases q : rkLt a c with
  | false => rfl
  | true =>
    cases z : rkLt c b with
    | true => rw [rk_trans q z] at x; cases x
    | false =>
      have e := rk_anti y z
      subst e
      rw [q] at x; cases x
theorem trip_sorted (h : House) : ∀ (r : Nat) (l : List Done), (trip h r l).Pairwise fun a b => lexLt a.2.2 b.2.2 = true
  | 0, l => by unfold trip; exact List.pairwise_singleton _ _
  | r + 1, l => by
    unfold trip
    rw [List.pairwise_flatMap]
    refine ⟨fun j _ => ?_, ?_⟩
    · cases q : put h l j with
      | none => exact .nil
      | some l' =>
        show ((trip h r l').map fun t => ((t.1, t.2.1, j :: t.2.2) : Tri)).Pairwise _
        rw [List.pairwise_map]
        exact (trip_sorted h r l').imp fun {a b} z => (lex_cons j j _ _).mpr (.inr ⟨rfl, z⟩)
    · refine List.Pairwise.imp (fun {i j} hij => ?_) (List.pairwise_lt_range (n := h.jobs.length))
      intro x hx y hy
      cases q : put h l i with
      | none => rw [q] at hx; cases hx
      | some l1 =>
        cases q' : put h l j with
        | none => rw [q'] at hy; cases hy
        | some l2 =>
          rw [q] at hx
          rw [q'] at hy
          obtain ⟨t, _, rfl⟩ := List.mem_map.mp hx
          obtain ⟨u, _, rfl⟩ := List.mem_map.mp hy
          exact (lex_cons _ _ _ _).mpr (.inl hij)
def pick (b : Option Tri) (x : Tri) : Option Tri := match b with
  | none => some x
  | some y => if better x y = true then some x else some y
theorem better_iff (a b : Tri) : better a b = true ↔ a.1 < b.1 ∨ (a.1 = b.1 ∧ a.2.1 < b.2.1) := by
  unfold better
  simp only [Bool.or_eq_true, Bool.and_eq_true, decide_eq_true_eq, beq_iff_eq]
theorem pick_fold : ∀ (suf pre : List Tri) (x : Tri), (pre ++ suf).Pairwise (fun a b => lexLt a.2.2 b.2.2 = true) → x ∈ pre → (∀ y ∈ pre, rkLt y x = false) →
    ∃ z, suf.foldl pick (some x) = some z ∧ z ∈ pre ++ suf ∧ ∀ y ∈ pre ++ suf, rkLt y z = false
  | [], pre, x, _, hx, hy => ⟨x, rfl, by simpa using hx, by simpa using hy⟩
  | w :: suf, pre, x, pw, hx, hy => by
    have eA : pre ++ w :: suf = (pre ++ [w]) ++ suf := by simp
    have hlt : ∀ y ∈ pre, lexLt y.2.2 w.2.2 = true := fun y hy' => (List.pairwise_append.mp pw).2.2 y hy' w (by simp)
    rw [List.foldl_cons]
    by_cases hb : better w x = true
    · have e : pick (some x) w = some w := by show (if better w x = true then some w else some x) = some w; rw [if_pos hb]
      rw [e, eA]
      have hwx : rkLt w x = true := by
        rw [rk_iff]
        rcases (better_iff w x).mp hb with z | z
        · exact .inl z
        · exact .inr ⟨z.1, .inl z.2⟩
      refine pick_fold suf (pre ++ [w]) w (eA ▸ pw) (by simp) fun y hy' => ?_
      rcases List.mem_append.mp hy' with hy' | hy'
      · cases q : rkLt y w with
        | false => rfl
        | true => have := hy y hy'; rw [rk_trans q hwx] at this; cases this
      · have e : y = w := by simpa using hy'
        subst e
        exact rk_irrefl y
    · have e : pick (some x) w = some x := by show (if better w x = true then some w else some x) = some x; rw [if_neg hb]
      rw [e, eA]
      refine pick_fold suf (pre ++ [w]) x (eA ▸ pw) (by simp [hx]) fun y hy' => ?_
      rcases List.mem_append.mp hy' with hy' | hy'
      · exact hy y hy'
      · have e : y = w := by simpa using hy'
        subst e
        rw [rk_not]
        rintro (z | ⟨z1, z2 | ⟨z2, z3⟩⟩)
        · exact hb ((better_iff y x).mpr (.inl z))
        · exact hb ((better_iff y x).mpr (.inr ⟨z1, z2⟩))
        · have := lex_trans z3 (hlt x hx)
          rw [lex_irrefl] at this
          cases this
theorem best_is {h : House} (v : Sound h) : ∃ z, Si44.best h = some z ∧ z ∈ trip h (total (lens h)) [] ∧ ∀ y ∈ trip h (total (lens h)) [], rkLt y z = false := by
  have e : Si44.best h = (trip h (total (lens h)) []).foldl pick none := by
    unfold Si44.best
    rw [spec_trip v]
    rfl
  rw [e]
  have ne := trip_ne v (total (lens h)) [] (by rw [remc_nil])
  have so := trip_sorted h (total (lens h)) []
  cases q : trip h (total (lens h)) [] with
  | nil => exact absurd q ne
  | cons x suf =>
    rw [q] at so
    rw [List.foldl_cons]
    exact pick_fold suf [x] x so (by simp) fun y hy => by
      have e : y = x := by simpa using hy
      subst e
      exact rk_irrefl y
def trip1 (h : House) (r : Nat) (l : List Done) (j : Nat) : List Tri := match put h l j with
  | none => []
  | some l' => (trip h r l').map fun t => (t.1, t.2.1, j :: t.2.2)
theorem trip_succ (h : House) (r : Nat) (l : List Done) : trip h (r + 1) l = (List.range h.jobs.length).flatMap (trip1 h r l) := rfl
structure Bg where
  l : List Done
  ways : Nat
def jobsOf (l : List Done) : List Nat := l.map (·.job)
def rk (h : House) (b : Bg) : Tri := (spentOf h b.l, endedOf h b.l, jobsOf b.l)
def cm (m : Nat) (T : List Tri) : Nat := (T.filter fun t => t.1 == m).length
theorem cm_map {m : Nat} {T : List Tri} {f : Tri → Tri} (hf : ∀ t, (f t).1 = t.1) : cm m (T.map f) = cm m T := by
  unfold cm
  rw [List.filter_map, List.length_map]
  congr 2
  funext t
  simp [hf t]
theorem cm_append (m : Nat) (A B : List Tri) : cm m (A ++ B) = cm m A + cm m B := by unfold cm; rw [List.filter_append, List.length_append]
theorem total_flat {α : Type} (f : α → List Nat) : ∀ l : List α, total (l.flatMap f) = total (l.map fun a => total (f a))
  | [] => rfl
  | x :: l => by rw [List.flatMap_cons, total_append, total_flat f l, List.map_cons, total_cons]
theorem cm_flat {α : Type} (m : Nat) (f : α → List Tri) : ∀ l : List α, cm m (l.flatMap f) = total (l.map fun a => cm m (f a))
  | [] => rfl
  | x :: l => by rw [List.flatMap_cons, cm_append, cm_flat m f l, List.map_cons, total_cons]
theorem total_mul (k : Nat) : ∀ l : List Nat, total (l.map fun x => k * x) = k * total l
  | [] => rfl
  | x :: l => by rw [List.map_cons, total_cons, total_mul k l, total_cons, Nat.mul_add]
def nx1 (h : House) (b : Bg) : List Bg := (List.range h.jobs.length).filterMap fun j => (put h b.l j).map fun l' => ⟨l', b.ways⟩
def nx (h : House) (bs : List Bg) : List Bg := bs.flatMap (nx1 h)
structure Begs (h : House) (x : Tri) (n r : Nat) (bs : List Bg) : Prop where
  len : ∀ b ∈ bs, b.l.length = n
  rem : ∀ b ∈ bs, total (remc h b.l) = r
  sub : ∀ b ∈ bs, ∀ t ∈ trip h r b.l, (t.1, t.2.1, jobsOf b.l ++ t.2.2) ∈ trip h (total (lens h)) []
  best : ∃ b ∈ bs, ∃ t ∈ trip h r b.l, (t.1, t.2.1, jobsOf b.l ++ t.2.2) = x
  ways : total (bs.map fun b => b.ways * cm x.1 (trip h r b.l)) = cm x.1 (trip h (total (lens h)) [])
theorem Begs.start {h : House} {x : Tri} (hx : x ∈ trip h (total (lens h)) []) : Begs h x 0 (total (lens h)) [⟨[], 1⟩] := by
  refine ⟨fun b hb => ?_, fun b hb => ?_, fun b hb t ht => ?_, ⟨⟨[], 1⟩, by simp, x, hx, rfl⟩, ?_⟩
  · have e : b = ⟨[], 1⟩ := by simpa using hb
    subst e; rfl
  · have e : b = ⟨[], 1⟩ := by simpa using hb
    subst e
    show total (remc h []) = _
    rw [remc_nil]
  · have e : b = ⟨[], 1⟩ := by simpa using hb
    subst e
    exact ht
  · show 1 * cm x.1 (trip h (total (lens h)) []) + 0 = _
    omega
theorem nx_mem {h : House} {bs : List Bg} {y : Bg} (hy : y ∈ nx h bs) : ∃ b ∈ bs, ∃ j, j < h.jobs.length ∧ put h b.l j = some y.l ∧ y.ways = b.ways := by
  unfold nx at hy
  obtain ⟨b, hb, hy⟩ := List.mem_flatMap.mp hy
  unfold nx1 at hy
  obtain ⟨j, hj, e⟩ := List.mem_filterMap.mp hy
  cases q : put h b.l j with
  | none => rw [q] at e; cases e
  | some l' =>
    rw [q] at e
    have e : (⟨l', b.ways⟩ : Bg) = y := Option.some.inj e
    subst e
    exact ⟨b, hb, j, List.mem_range.mp hj, q, rfl⟩
theorem Begs.next {h : House} (v : Sound h) {x : Tri} {n r : Nat} {bs : List Bg} (B : Begs h x n (r + 1) bs) : Begs h x (n + 1) r (nx h bs) := by
  have info : ∀ y ∈ nx h bs, ∃ b ∈ bs, ∃ j d bj, h.jobs[j]? = some bj ∧ d.job = j ∧ cnt b.l j < bj.steps.length ∧ y.l = b.l ++ [d] ∧ put h b.l j = some y.l := by
    intro y hy
    obtain ⟨b, hb, j, hj, hp, _⟩ := nx_mem hy
    rcases put_cases v b.l hj with ⟨bj, _, _, hp'⟩ | ⟨bj, s, m, hbj, hs, hm, hp'⟩
    · rw [hp] at hp'; cases hp'
    · rw [hp] at hp'
      exact ⟨b, hb, j, doneP m b.l j bj s, bj, hbj, rfl, lt_at hs, Option.some.inj hp', hp⟩
  have tsub : ∀ b ∈ bs, ∀ j l', put h b.l j = some l' → j < h.jobs.length → ∀ t ∈ trip h r l', (t.1, t.2.1, j :: t.2.2) ∈ trip h (r + 1) b.l := by
    intro b hb j l' hp hj t ht
    unfold trip
    refine List.mem_flatMap.mpr ⟨j, List.mem_range.mpr hj, ?_⟩
    rw [hp]
    exact List.mem_map.mpr ⟨t, ht, rfl⟩
  refine ⟨fun y hy => ?_, fun y hy => ?_, fun y hy t ht => ?_, ?_, ?_⟩
  · obtain ⟨b, hb, j, d, bj, hbj, hd, hc, e, hp⟩ := info y hy
    rw [e, List.length_append, B.len b hb]
    rfl
  · obtain ⟨b, hb, j, d, bj, hbj, hd, hc, e, hp⟩ := info y hy
    rw [e]
    subst hd
    exact remc_put hbj hc (B.rem b hb)
  · obtain ⟨b, hb, j, d, bj, hbj, hd, hc, e, hp⟩ := info y hy
    have := B.sub b hb _ (tsub b hb j y.l hp (lt_at hbj) t ht)
    have ej : jobsOf y.l ++ t.2.2 = jobsOf b.l ++ j :: t.2.2 := by
      rw [e]
      unfold jobsOf
      rw [List.map_append, List.append_assoc]
      show _ ++ (d.job :: t.2.2) = _
      rw [hd]
    rw [ej]
    exact this
  · obtain ⟨b, hb, t, ht, e⟩ := B.best
    unfold trip at ht
    obtain ⟨j, hj, ht⟩ := List.mem_flatMap.mp ht
    cases q : put h b.l j with
    | none => rw [q] at ht; cases ht
    | some l' =>
      rw [q] at ht
      obtain ⟨u, hu, rfl⟩ := List.mem_map.mp ht
      have hy : (⟨l', b.ways⟩ : Bg) ∈ nx h bs := by
        unfold nx nx1
        refine List.mem_flatMap.mpr ⟨b, hb, List.mem_filterMap.mpr ⟨j, hj, ?_⟩⟩
        rw [q]
        rfl
      refine ⟨_, hy, u, hu, ?_⟩
      rcases put_cases v b.l (List.mem_range.mp hj) with ⟨bj, _, _, hp'⟩ | ⟨bj, s, m, hbj, hs, hm, hp'⟩
      · rw [q] at hp'; cases hp'
      · rw [q] at hp'
        have e' : l' = b.l ++ [doneP m b.l j bj s] := Option.some.inj hp'
        rw [← e]
        show (u.1, u.2.1, jobsOf l' ++ u.2.2) = (u.1, u.2.1, jobsOf b.l ++ j :: u.2.2)
        have : jobsOf l' ++ u.2.2 = jobsOf b.l ++ j :: u.2.2 := by
          rw [e']
          unfold jobsOf
          rw [List.map_append, List.append_assoc]
          rfl
        rw [this]
  · rw [← B.ways]
    have one : ∀ b : Bg, total ((nx1 h b).map fun y => y.ways * cm x.1 (trip h r y.l)) = b.ways * cm x.1 (trip h (r + 1) b.l) := by
      intro b
      rw [trip_succ, cm_flat, ← total_mul, List.map_map]
      unfold nx1
      generalize List.range h.jobs.length = js
      induction js with
      | nil => rfl
      | cons j js ih =>
        rw [List.filterMap_cons, List.map_cons, total_cons]
        show _ = b.ways * cm x.1 (trip1 h r b.l j) + _
        cases q : put h b.l j with
        | none =>
          have z : trip1 h r b.l j = [] := by unfold trip1; rw [q]
          rw [z, ← ih]
          show _ = b.ways * 0 + _
          simp
        | some l' =>
          have z : cm x.1 (trip1 h r b.l j) = cm x.1 (trip h r l') := by
            unfold trip1
            rw [q]
            exact cm_map (fun t => rfl)
          rw [z, ← ih]
          show total ((_ :: _).map _) = _
          rw [List.map_cons, total_cons]
    unfold nx
    rw [List.map_flatMap, total_flat]
    congr 1
    apply List.map_congr_left
    intro b _
    exact one b
end Sj
namespace Sj
open Si44
theorem trip_lens (h : House) : ∀ (r : Nat) (l : List Done) (t : Tri), t ∈ trip h r l → t.2.2.length = r
  | 0, l, t, ht => by
    unfold trip at ht
    have e : t = (cost h l, ends h l, []) := by simpa using ht
    subst e
    rfl
  | r + 1, l, t, ht => by
    rw [trip_succ] at ht
    obtain ⟨j, _, ht⟩ := List.mem_flatMap.mp ht
    unfold trip1 at ht
    cases q : put h l j with
    | none => rw [q] at ht; cases ht
    | some l' =>
      rw [q] at ht
      obtain ⟨u, hu, rfl⟩ := List.mem_map.mp ht
      show u.2.2.length + 1 = r + 1
      rw [trip_lens h r l' u hu]
end Sj
namespace Sj
open Si44
def OneOf (h : House) (g : List Bg) (x : Bg) : Prop :=
  ∃ b ∈ g, (∀ y ∈ g, rkLt (rk h y) (rk h b) = false) ∧ x.l = b.l ∧ x.ways = total ((g.filter fun y => spentOf h y.l == spentOf h b.l).map fun y => y.ways)
def ins (gs : List (List (List Nat) × List Bg)) (k : List (List Nat)) (x : Bg) : List (List (List Nat) × List Bg) :=
  if (gs.any fun g => decide (g.1 = k)) = true then gs.map fun g => if g.1 = k then (g.1, g.2 ++ [x]) else g else gs ++ [(k, [x])]
structure Grp (h : House) (ns : List Bg) (gs : List (List (List Nat) × List Bg)) : Prop where
  key : ∀ g ∈ gs, ∀ y ∈ g.2, ahead h y.l = g.1
  ne : ∀ g ∈ gs, g.2 ≠ []
  nd : (gs.map (·.1)).Nodup
  mem : ∀ y ∈ ns, ∃ g ∈ gs, y ∈ g.2
  of : ∀ g ∈ gs, ∀ y ∈ g.2, y ∈ ns
  sum : ∀ f : Bg → Nat, total (ns.map f) = total (gs.map fun g => total (g.2.map f))
theorem Grp.nil (h : House) : Grp h [] [] := ⟨by simp, by simp, .nil, by simp, by simp, fun f => rfl⟩
theorem sum_one {f : Bg → Nat} {k : List (List Nat)} {x : Bg} : ∀ {gs : List (List (List Nat) × List Bg)}, (gs.map (·.1)).Nodup → (∃ g ∈ gs, g.1 = k) →
    total ((gs.map fun g => if g.1 = k then (g.1, g.2 ++ [x]) else g).map fun g => total (g.2.map f)) = total (gs.map fun g => total (g.2.map f)) + f x
  | [], _, ⟨g, hg, _⟩ => by simp at hg
  | g :: gs, nd, ⟨g', hg', e⟩ => by
    rw [List.map_cons, List.nodup_cons] at nd
    rw [List.map_cons, List.map_cons, List.map_cons, total_cons, total_cons]
    by_cases ek : g.1 = k
    · have e2 : (gs.map fun g => if g.1 = k then (g.1, g.2 ++ [x]) else g) = gs := by
        rw [List.map_congr_left (g := id), List.map_id]
        intro u hu
        rw [if_neg]
        · rfl
        · intro z
          exact nd.1 (List.mem_map.mpr ⟨u, hu, z.trans ek.symm⟩)
      rw [e2, if_pos ek]
      show total ((g.2 ++ [x]).map f) + _ = _
      rw [List.map_append, total_append]
      show _ + (f x + 0) + _ = _
      omega
    · rw [if_neg ek, sum_one nd.2 (by
        rcases List.mem_cons.mp hg' with rfl | hg'
        · exact absurd e ek
        · exact ⟨g', hg', e⟩)]
      omega
theorem Grp.snoc {h : House} {ns : List Bg} {gs : List (List (List Nat) × List Bg)} (G : Grp h ns gs) (x : Bg) : Grp h (ns ++ [x]) (ins gs (ahead h x.l) x) := by
  unfold ins
  by_cases ha : (gs.any fun g => decide (g.1 = ahead h x.l)) = true
  · rw [if_pos ha]
    obtain ⟨g0, hg0, e0⟩ := List.any_eq_true.mp ha
    have e0 : g0.1 = ahead h x.l := of_decide_eq_true e0
    refine ⟨fun g hg y hy => ?_, fun g hg => ?_, ?_, fun y hy => ?_, fun g hg y hy => ?_, fun f => ?_⟩
    · obtain ⟨g', hg', rfl⟩ := List.mem_map.mp hg
      by_cases ek : g'.1 = ahead h x.l
      · rw [if_pos ek] at hy ⊢
        rcases List.mem_append.mp hy with hy | hy
        · exact G.key g' hg' y hy
        · have e : y = x := by simpa using hy
          subst e
          exact ek.symm
      · rw [if_neg ek] at hy ⊢
        exact G.key g' hg' y hy
    · obtain ⟨g', hg', rfl⟩ := List.mem_map.mp hg
      by_cases ek : g'.1 = ahead h x.l
      · rw [if_pos ek]
        simp
      · rw [if_neg ek]
        exact G.ne g' hg'
    · rw [List.map_map]
      have e : ((fun (g : List (List Nat) × List Bg) => g.1) ∘ fun (g : List (List Nat) × List Bg) => if g.1 = ahead h x.l then (g.1, g.2 ++ [x]) else g) = fun g => g.1 := by
        funext g
        show (if g.1 = ahead h x.l then (g.1, g.2 ++ [x]) else g).1 = g.1
        split <;> rfl
      rw [e]
      exact G.nd
    · rcases List.mem_append.mp hy with hy | hy
      · obtain ⟨g, hg, hyg⟩ := G.mem y hy
        refine ⟨_, List.mem_map.mpr ⟨g, hg, rfl⟩, ?_⟩
        by_cases ek : g.1 = ahead h x.l
        · rw [if_pos ek]
          exact List.mem_append.mpr (.inl hyg)
        · rw [if_neg ek]
          exact hyg
      · have e : y = x := by simpa using hy
        subst e
        refine ⟨_, List.mem_map.mpr ⟨g0, hg0, rfl⟩, ?_⟩
        rw [if_pos e0]
        simp
    · obtain ⟨g', hg', rfl⟩ := List.mem_map.mp hg
      by_cases ek : g'.1 = ahead h x.l
      · rw [if_pos ek] at hy
        rcases List.mem_append.mp hy with hy | hy
        · exact List.mem_append.mpr (.inl (G.of g' hg' y hy))
        · exact List.mem_append.mpr (.inr hy)
      · rw [if_neg ek] at hy
        exact List.mem_append.mpr (.inl (G.of g' hg' y hy))
    · rw [sum_one G.nd ⟨g0, hg0, e0⟩, List.map_append, total_append, G.sum f]
      rfl
  · rw [if_neg ha]
    refine ⟨fun g hg y hy => ?_, fun g hg => ?_, ?_, fun y hy => ?_, fun g hg y hy => ?_, fun f => ?_⟩
    · rcases List.mem_append.mp hg with hg | hg
      · exact G.key g hg y hy
      · have e : g = (ahead h x.l, [x]) := by simpa using hg
        subst e
        have e : y = x := by simpa using hy
        rw [e]
    · rcases List.mem_append.mp hg with hg | hg
      · exact G.ne g hg
      · have e : g = (ahead h x.l, [x]) := by simpa using hg
        subst e
        simp
    · rw [List.map_append, List.nodup_append]
      refine ⟨G.nd, by simp, fun a ha' b hb => ?_⟩
      have e : b = ahead h x.l := by simpa using hb
      subst e
      rintro rfl
      obtain ⟨g, hg, e⟩ := List.mem_map.mp ha'
      exact ha (List.any_eq_true.mpr ⟨g, hg, decide_eq_true e⟩)
    · rcases List.mem_append.mp hy with hy | hy
      · obtain ⟨g, hg, hyg⟩ := G.mem y hy
        exact ⟨g, List.mem_append.mpr (.inl hg), hyg⟩
      · have e : y = x := by simpa using hy
        subst e
        exact ⟨(ahead h y.l, [y]), by simp, by simp⟩
    · rcases List.mem_append.mp hg with hg | hg
      · exact List.mem_append.mpr (.inl (G.of g hg y hy))
      · have e : g = (ahead h x.l, [x]) := by simpa using hg
        subst e
        exact List.mem_append.mpr (.inr hy)
    · rw [List.map_append, List.map_append, total_append, total_append, G.sum f]
      show _ + (f x + 0) = _ + ((f x + 0) + 0)
      omega
theorem par_mem {h : House} (v : Sound h) {r : Nat} {l l' : List Done} (e : ahead h l = ahead h l') (hr : total (remc h l) = r) (hr' : total (remc h l') = r) {t : Tri} (ht : t ∈ trip h r l) :
    ∃ t' ∈ trip h r l', t'.1 + spentOf h l = t.1 + spentOf h l' ∧ t'.2.1 + endedOf h l = t.2.1 + endedOf h l' ∧ t'.2.2 = t.2.2 := by
  have p := trip_par v r l l' e hr hr'
  have m : ((t.1 + spentOf h l', t.2.1 + endedOf h l', t.2.2) : Tri) ∈ (trip h r l).map (fun t => ((t.1 + spentOf h l', t.2.1 + endedOf h l', t.2.2) : Tri)) := List.mem_map.mpr ⟨t, ht, rfl⟩
  rw [p] at m
  obtain ⟨t', ht', e'⟩ := List.mem_map.mp m
  simp only [Prod.mk.injEq] at e'
  exact ⟨t', ht', e'.1, e'.2.1, e'.2.2⟩
theorem par_cm {h : House} (v : Sound h) {r : Nat} {l l' : List Done} (e : ahead h l = ahead h l') (hr : total (remc h l) = r) (hr' : total (remc h l') = r) (es : spentOf h l = spentOf h l') (m : Nat) :
    cm m (trip h r l) = cm m (trip h r l') := by
  have p := congrArg (List.map fun (t : Tri) => t.1) (trip_par v r l l' e hr hr')
  rw [List.map_map, List.map_map] at p
  have q : (trip h r l).map (fun t => t.1) = (trip h r l').map (fun t => t.1) := by
    apply map_inj (G := fun n : Nat => n + spentOf h l)
    · intro a b z
      have z : a + spentOf h l = b + spentOf h l := z
      omega
    · rw [List.map_map, List.map_map]
      conv => lhs; rw [show ((fun n => n + spentOf h l) ∘ fun (t : Tri) => t.1) = ((fun (t : Tri) => t.1) ∘ fun (t : Tri) => ((t.1 + spentOf h l', t.2.1 + endedOf h l', t.2.2) : Tri)) from by funext t; simp [es]]
      rw [p]
      rfl
  have c : ∀ T : List Tri, cm m T = ((T.map fun t => t.1).filter fun n => n == m).length := by
    intro T
    unfold cm
    rw [List.filter_map, List.length_map]
    rfl
  rw [c, c, q]
theorem min_cost {x : Tri} {T : List Tri} (hmany : ∀ y ∈ T, rkLt y x = false) {y : Tri} (hy : y ∈ T) : x.1 ≤ y.1 := by
  have := (rk_not y x).mp (hmany y hy)
  omega
theorem total_filter (p : Bg → Bool) (f : Bg → Nat) (k : Nat) : ∀ g : List Bg, (∀ y ∈ g, p y = true → f y = k) → (∀ y ∈ g, p y = false → f y = 0) → total (g.map fun y => y.ways * f y) = total ((g.filter p).map fun y => y.ways) * k
  | [], _, _ => by rw [List.filter_nil, List.map_nil, List.map_nil, total_nil, Nat.zero_mul]
  | y :: g, h1, h2 => by
    have ih := total_filter p f k g (fun z hz => h1 z (by simp [hz])) (fun z hz => h2 z (by simp [hz]))
    rw [List.map_cons, total_cons, ih, List.filter_cons]
    cases q : p y with
    | true =>
      rw [if_pos rfl, List.map_cons, total_cons, Nat.add_mul, h1 y (by simp) q]
    | false =>
      rw [if_neg (by simp), h2 y (by simp) q]
      simp
theorem Begs.merge {h : House} (v : Sound h) {x : Tri} {n r : Nat} {ns bs : List Bg} {gs : List (List (List Nat) × List Bg)} (hmany : ∀ y ∈ trip h (total (lens h)) [], rkLt y x = false) (B : Begs h x n r ns) (G : Grp h ns gs)
    (hlen : bs.length = gs.length) (one : ∀ (i : Nat) g b, gs[i]? = some g → bs[i]? = some b → OneOf h g.2 b) : Begs h x n r bs := by
  have of : ∀ b ∈ bs, ∃ g ∈ gs, OneOf h g.2 b := by
    intro b hb
    obtain ⟨i, hi⟩ := List.getElem?_of_mem hb
    have hl := lt_at hi
    have hg := List.getElem?_eq_getElem (l := gs) (i := i) (by omega)
    exact ⟨_, List.mem_of_getElem? hg, one i _ b hg hi⟩
  refine ⟨fun b hb => ?_, fun b hb => ?_, fun b hb t ht => ?_, ?_, ?_⟩
  · obtain ⟨g, hg, y, hy, _, e, _⟩ := of b hb
    rw [e]; exact B.len y (G.of g hg y hy)
  · obtain ⟨g, hg, y, hy, _, e, _⟩ := of b hb
    rw [e]; exact B.rem y (G.of g hg y hy)
  · obtain ⟨g, hg, y, hy, _, e, _⟩ := of b hb
    rw [e] at ht ⊢; exact B.sub y (G.of g hg y hy) t ht
  · obtain ⟨y, hy, t, ht, ex⟩ := B.best
    obtain ⟨g, hg, hyg⟩ := G.mem y hy
    obtain ⟨i, hi⟩ := List.getElem?_of_mem hg
    have hb := List.getElem?_eq_getElem (l := bs) (i := i) (by have := lt_at hi; omega)
    generalize bs[i]'(by have := lt_at hi; omega) = b at hb
    obtain ⟨z, hz, hmin, ez, _⟩ := one i g b hi hb
    have hzn := G.of g hg z hz
    obtain ⟨t', ht', e1, e2, e3⟩ := par_mem v ((G.key g hg y hyg).trans (G.key g hg z hz).symm) (B.rem y hy) (B.rem z hzn) ht
    refine ⟨b, List.mem_of_getElem? hb, t', by rw [ez]; exact ht', ?_⟩
    rw [ez]
    have a1 := hmany _ (B.sub z hzn t' ht')
    have a2 : rkLt x (t'.1, t'.2.1, jobsOf z.l ++ t'.2.2) = false := by
      have q := (rk_not _ _).mp (hmin y hyg)
      have q : ¬ (spentOf h y.l < spentOf h z.l ∨ (spentOf h y.l = spentOf h z.l ∧ (endedOf h y.l < endedOf h z.l ∨ (endedOf h y.l = endedOf h z.l ∧ lexLt (jobsOf y.l) (jobsOf z.l) = true)))) := q
      rw [← ex, rk_not]
      show ¬ (t.1 < t'.1 ∨ (t.1 = t'.1 ∧ (t.2.1 < t'.2.1 ∨ (t.2.1 = t'.2.1 ∧ lexLt (jobsOf y.l ++ t.2.2) (jobsOf z.l ++ t'.2.2) = true))))
      rintro (w | ⟨w1, w2 | ⟨w2, w3⟩⟩)
      · exact q (.inl (by omega))
      · exact q (.inr ⟨by omega, .inl (by omega)⟩)
      · rw [e3] at w3
        exact q (.inr ⟨by omega, .inr ⟨by omega, lex_append (by unfold jobsOf; rw [List.length_map, List.length_map, B.len y hy, B.len z hzn]) w3⟩⟩)
    exact rk_anti a1 a2
  · rw [← B.ways, G.sum]
    congr 1
    apply List.ext_getElem?
    intro i
    rw [List.getElem?_map, List.getElem?_map]
    cases hi : gs[i]? with
    | none =>
      have := List.getElem?_eq_none_iff.mp hi
      rw [List.getElem?_eq_none (by omega)]
      rfl
    | some g =>
      have hb := List.getElem?_eq_getElem (l := bs) (i := i) (by have := lt_at hi; omega)
      generalize bs[i]'(by have := lt_at hi; omega) = b at hb
      rw [hb]
      have hg := List.mem_of_getElem? hi
      obtain ⟨z, hz, hmin, ez, ew⟩ := one i g b hi hb
      have hzn := G.of g hg z hz
      show some (b.ways * cm x.1 (trip h r b.l)) = some _
      rw [ew, ez]
      congr 1
      refine (total_filter (fun y => spentOf h y.l == spentOf h z.l) (fun y => cm x.1 (trip h r y.l)) (cm x.1 (trip h r z.l)) g.2 (fun y hy q => ?_) (fun y hy q => ?_)).symm
      · have q : spentOf h y.l = spentOf h z.l := by simpa using q
        exact par_cm v ((G.key g hg y hy).trans (G.key g hg z hz).symm) (B.rem y (G.of g hg y hy)) (B.rem z hzn) q x.1
      · have q : ¬ spentOf h y.l = spentOf h z.l := by simpa using q
        have lt : spentOf h z.l < spentOf h y.l := by
          have w := (rk_not _ _).mp (hmin y hy)
          have w : ¬ (spentOf h y.l < spentOf h z.l ∨ _) := w
          rcases Nat.lt_trichotomy (spentOf h y.l) (spentOf h z.l) with u | u | u
          · exact absurd (.inl u) w
          · exact absurd u q
          · exact u
        unfold cm
        rw [List.length_eq_zero_iff, List.filter_eq_nil_iff]
        intro t ht c
        have c : t.1 = x.1 := by simpa using c
        obtain ⟨t', ht', e1, _, _⟩ := par_mem v ((G.key g hg y hy).trans (G.key g hg z hz).symm) (B.rem y (G.of g hg y hy)) (B.rem z hzn) ht
        have := min_cost hmany (B.sub z hzn t' ht')
        have : x.1 ≤ t'.1 := this
        omega
theorem Begs.done {h : House} {x : Tri} {n : Nat} {bs : List Bg} (hmany : ∀ y ∈ trip h (total (lens h)) [], rkLt y x = false) (B : Begs h x n 0 bs) {b : Bg} (o : OneOf h bs b) :
    (spentOf h b.l, endedOf h b.l, jobsOf b.l) = x ∧ b.ways = cm x.1 (trip h (total (lens h)) []) := by
  obtain ⟨z, hz, hmin, ez, ew⟩ := o
  have tr : ∀ y ∈ bs, trip h 0 y.l = [(spentOf h y.l, endedOf h y.l, [])] := by
    intro y hy
    unfold trip
    rw [spent_end (B.rem y hy), ended_end (B.rem y hy)]
  obtain ⟨y, hy, t, ht, ex⟩ := B.best
  rw [tr y hy] at ht
  have et : t = (spentOf h y.l, endedOf h y.l, []) := by simpa using ht
  subst et
  have ey : rk h y = x := by
    rw [← ex]
    show (_, _, _) = (_, _, jobsOf y.l ++ [])
    rw [List.append_nil]
  have hzT : rk h z ∈ trip h (total (lens h)) [] := by
    have := B.sub z hz _ (by rw [tr z hz]; exact List.mem_singleton.mpr rfl)
    rw [List.append_nil] at this
    exact this
  have e : rk h z = x := by
    have a1 := hmany _ hzT
    have a2 := hmin y hy
    rw [ey] at a2
    exact rk_anti a1 a2
  refine ⟨by rw [ez]; exact e, ?_⟩
  rw [ew, ← B.ways]
  have es : spentOf h z.l = x.1 := congrArg (·.1) e
  have key := total_filter (fun y => spentOf h y.l == spentOf h z.l) (fun y => cm x.1 (trip h 0 y.l)) 1 bs (fun y hy q => ?_) (fun y hy q => ?_)
  · rw [key, Nat.mul_one]
  · have q : spentOf h y.l = spentOf h z.l := by simpa using q
    show cm x.1 (trip h 0 y.l) = 1
    rw [tr y hy]
    unfold cm
    rw [List.filter_cons]
    simp [q, es]
  · have q : ¬ spentOf h y.l = spentOf h z.l := by simpa using q
    show cm x.1 (trip h 0 y.l) = 0
    rw [tr y hy]
    unfold cm
    rw [List.filter_cons]
    simp [es] at q
    simp [q]
theorem nx1_few (h : House) (b : Bg) : (nx1 h b).length ≤ h.jobs.length := by
  unfold nx1
  have := List.length_filterMap_le (fun j => (put h b.l j).map fun l' => (⟨l', b.ways⟩ : Bg)) (List.range h.jobs.length)
  rw [List.length_range] at this
  exact this
theorem nx_few (h : House) : ∀ bs : List Bg, (nx h bs).length ≤ bs.length * h.jobs.length
  | [] => by simp [nx]
  | b :: bs => by
    have h1 := nx_few h bs
    have h2 := nx1_few h b
    unfold nx at h1 ⊢
    rw [List.flatMap_cons, List.length_append, List.length_cons, Nat.add_mul]
    omega
theorem ins_few {gs : List (List (List Nat) × List Bg)} {k : List (List Nat)} {x : Bg} : (ins gs k x).length ≤ gs.length + 1 := by
  unfold ins
  split
  · rw [List.length_map]; omega
  · rw [List.length_append]; simp
theorem fold_min : ∀ (z : List Nat) (a m : Nat), (∀ y ∈ z, m ≤ y) → m ≤ a → (m ∈ z ∨ a = m) → z.foldl min a = m
  | [], a, m, _, _, h => by
    rcases h with h | h
    · simp at h
    · exact h
  | y :: z, a, m, h1, h2, h3 => by
    rw [List.foldl_cons]
    have hy := h1 y (by simp)
    refine fold_min z (min a y) m (fun u hu => h1 u (by simp [hu])) (by omega) ?_
    rcases h3 with h3 | h3
    · rcases List.mem_cons.mp h3 with rfl | h3
      · exact .inr (by omega)
      · exact .inl h3
    · exact .inr (by omega)
theorem ways_is {h : House} (v : Sound h) {x : Tri} (hx : x ∈ trip h (total (lens h)) []) (hmany : ∀ y ∈ trip h (total (lens h)) [], rkLt y x = false) :
    (Si44.step h .ways).2 = ⟨((trip h (total (lens h)) []).length : Int), Si44.ints [cm x.1 (trip h (total (lens h)) [])]⟩ := by
  unfold Si44.step
  simp only
  rw [spec_costs v]
  generalize hT : trip h (total (lens h)) [] = T at hx hmany ⊢
  have e : (T.map fun t => t.1).foldl min ((T.map fun t => t.1).headD 0) = x.1 := by
    apply fold_min
    · intro y hy
      obtain ⟨t, ht, rfl⟩ := List.mem_map.mp hy
      exact min_cost hmany ht
    · cases T with
      | nil => simp at hx
      | cons t T => exact min_cost hmany (by simp)
    · exact .inl (List.mem_map.mpr ⟨x, hx, rfl⟩)
  rw [e, List.length_map]
  have c : ((T.map fun t => t.1).filter fun n => n == x.1).length = cm x.1 T := by
    unfold cm
    rw [List.filter_map, List.length_map]
    rfl
  rw [c]
def fact : Nat → Nat
  | 0 => 1
  | n + 1 => (n + 1) * fact n
theorem fact_pos : ∀ n, 0 < fact n
  | 0 => by decide
  | n + 1 => Nat.mul_pos (by omega) (fact_pos n)
def pfac : List Nat → Nat
  | [] => 1
  | x :: l => fact x * pfac l
theorem pfac_pos : ∀ l, 0 < pfac l
  | [] => by decide
  | x :: l => Nat.mul_pos (fact_pos x) (pfac_pos l)
theorem pfac_set : ∀ {c : List Nat} {j k : Nat}, c[j]? = some (k + 1) → pfac c = (k + 1) * pfac (c.set j k)
  | [], j, k, h => by simp at h
  | x :: c, 0, k, h => by
    have e : x = k + 1 := Option.some.inj h
    subst e
    rw [List.set_cons_zero]
    unfold pfac
    rw [fact, Nat.mul_assoc]
  | x :: c, j + 1, k, h => by
    have ih := pfac_set (c := c) (j := j) (k := k) h
    rw [List.set_cons_succ]
    unfold pfac
    rw [ih, Nat.mul_left_comm]
theorem total_const_mul (f : Nat → Nat) (k : Nat) (js : List Nat) : total (js.map fun j => f j * k) = total (js.map f) * k := by
  induction js with
  | nil => simp [total]
  | cons j js ih => rw [List.map_cons, total_cons, ih, List.map_cons, total_cons, Nat.add_mul]
theorem len_flat {α β : Type} (f : α → List β) : ∀ l : List α, (l.flatMap f).length = total (l.map fun a => (f a).length)
  | [] => rfl
  | x :: l => by rw [List.flatMap_cons, List.length_append, len_flat f l, List.map_cons, total_cons]
theorem trip_len {h : House} (v : Sound h) : ∀ (r : Nat) (l : List Done), total (remc h l) = r → (trip h r l).length * pfac (remc h l) = fact r
  | 0, l, hr => by
    have e : ∀ c : List Nat, total c = 0 → pfac c = 1 := by
      intro c
      induction c with
      | nil => intro _; rfl
      | cons x c ih =>
        intro q
        rw [total_cons] at q
        have hx : x = 0 := by omega
        subst hx
        unfold pfac
        rw [ih (by omega)]
        rfl
    rw [e _ hr]
    rfl
  | r + 1, l, hr => by
    rw [trip_succ, len_flat, ← total_const_mul]
    have each : ∀ j ∈ List.range h.jobs.length, (trip1 h r l j).length * pfac (remc h l) = (remc h l).getD j 0 * fact r := by
      intro j hj
      have hj := List.mem_range.mp hj
      rcases put_cases v l hj with ⟨b, hb, hc, hp⟩ | ⟨b, s, m, hb, hs, hmany, hp⟩
      · rw [getD_of (remc_get l hb)]
        unfold trip1
        rw [hp]
        have : b.steps.length - cnt l j = 0 := by omega
        rw [this]
        simp
      · have hc : cnt l j < b.steps.length := lt_at hs
        have g := remc_get l hb
        obtain ⟨k, hk⟩ : ∃ k, b.steps.length - cnt l j = k + 1 := ⟨b.steps.length - cnt l j - 1, by omega⟩
        rw [hk] at g
        rw [getD_of g, pfac_set g]
        have ih := trip_len v r (l ++ [doneP m l j b s]) (remc_put (d := doneP m l j b s) hb hc hr)
        rw [remc_snoc (d := doneP m l j b s) l hb] at ih
        have e : (doneP m l j b s).job = j := rfl
        rw [e, getD_of g] at ih
        have e2 : k + 1 - 1 = k := by omega
        rw [e2] at ih
        unfold trip1
        rw [hp]
        show ((trip h r (l ++ [doneP m l j b s])).map _).length * _ = _
        rw [List.length_map, Nat.mul_left_comm, ih]
    rw [List.map_congr_left each, total_const_mul]
    have e := lens_range (remc h l)
    rw [remc_len] at e
    rw [e, hr, fact]
def bin : Nat → Nat → Nat
  | _, 0 => 1
  | 0, _ + 1 => 0
  | n + 1, k + 1 => bin n k + bin n (k + 1)
theorem bin_step : ∀ n k : Nat, (n + 1) * bin n k = bin (n + 1) (k + 1) * (k + 1)
  | 0, 0 => by simp [bin]
  | 0, k + 1 => by simp [bin]
  | n + 1, 0 => by
    have ih := bin_step n 0
    rw [show bin (n + 1 + 1) (0 + 1) = bin (n + 1) 0 + bin (n + 1) (0 + 1) from rfl]
    have b0 : ∀ m, bin m 0 = 1 := by intro m; cases m <;> rfl
    rw [b0] at ih ⊢
    omega
  | n + 1, k + 1 => by
    have i1 := bin_step n k
    have i2 := bin_step n (k + 1)
    rw [show bin (n + 1 + 1) (k + 1 + 1) = bin (n + 1) (k + 1) + bin (n + 1) (k + 1 + 1) from rfl]
    have e1 : bin (n + 1) (k + 1) = bin n k + bin n (k + 1) := rfl
    have e2 : (n + 1 + 1) * bin (n + 1) (k + 1) = (n + 1) * bin n k + (n + 1) * bin n (k + 1) + bin (n + 1) (k + 1) := by
      rw [Nat.add_mul (n + 1) 1, Nat.one_mul]
      conv => lhs; lhs; rw [e1, Nat.mul_add]
    rw [e2, i1, i2, Nat.add_mul]
    have e3 : bin (n + 1) (k + 1) * (k + 1 + 1) = bin (n + 1) (k + 1) * (k + 1) + bin (n + 1) (k + 1) := by rw [Nat.mul_add, Nat.mul_one]
    rw [e3]
    omega
theorem bin_fact (L : Nat) : ∀ c : Nat, bin (L + c) c * (fact c * fact L) = fact (L + c)
  | 0 => by
    have b0 : ∀ m, bin m 0 = 1 := by intro m; cases m <;> rfl
    rw [b0]
    simp [fact]
  | c + 1 => by
    have ih := bin_fact L c
    have st := bin_step (L + c) c
    show bin (L + c + 1) (c + 1) * ((c + 1) * fact c * fact L) = (L + c + 1) * fact (L + c)
    rw [← ih, ← Nat.mul_assoc (L + c + 1), st, Nat.mul_assoc (c + 1), ← Nat.mul_assoc]
def hmany : Nat → Nat → List Nat → Nat
  | _, M, [] => M
  | L, M, c :: cs => hmany (L + c) (M * bin (L + c) c) cs
theorem hmany_fact : ∀ (cs : List Nat) (L M : Nat), hmany L M cs * (pfac cs * fact L) = M * fact (L + total cs)
  | [], L, M => by simp [hmany, pfac, total]
  | c :: cs, L, M => by
    have ih := hmany_fact cs (L + c) (M * bin (L + c) c)
    rw [total_cons, ← Nat.add_assoc]
    unfold hmany pfac
    have e : fact c * pfac cs * fact L * bin (L + c) c = pfac cs * fact (L + c) := by
      rw [← bin_fact L c]
      rw [Nat.mul_comm (fact c), Nat.mul_assoc, Nat.mul_assoc, ← Nat.mul_assoc (fact c), Nat.mul_comm (fact c * fact L)]
    have pos : 0 < bin (L + c) c := by
      rcases Nat.eq_zero_or_pos (bin (L + c) c) with z | z
      · have := bin_fact L c
        rw [z, Nat.zero_mul] at this
        have := fact_pos (L + c)
        omega
      · exact z
    apply Nat.eq_of_mul_eq_mul_right pos
    rw [Nat.mul_assoc, e, ih]
    rw [Nat.mul_right_comm]
theorem hmany_is {h : House} (v : Sound h) : hmany 0 1 (lens h) = (trip h (total (lens h)) []).length := by
  have a := trip_len v (total (lens h)) [] (by rw [remc_nil])
  have b := hmany_fact (lens h) 0 1
  rw [remc_nil] at a
  have b : hmany 0 1 (lens h) * (pfac (lens h) * 1) = 1 * fact (0 + total (lens h)) := b
  rw [Nat.mul_one, Nat.one_mul, Nat.zero_add, ← a] at b
  exact Nat.eq_of_mul_eq_mul_right (pfac_pos _) b
end Sj
namespace Sj
open Si44
def nxp (h : House) (b : Bg) (j : Nat) : List Bg := (List.range j).filterMap fun j => (put h b.l j).map fun l' => ⟨l', b.ways⟩
theorem nxp_all (h : House) (b : Bg) : nxp h b h.jobs.length = nx1 h b := rfl
theorem nxp_zero (h : House) (b : Bg) : nxp h b 0 = [] := rfl
theorem nxp_some {h : House} {b : Bg} {j : Nat} {l' : List Done} (e : put h b.l j = some l') : nxp h b (j + 1) = nxp h b j ++ [⟨l', b.ways⟩] := by
  unfold nxp
  rw [List.range_succ, List.filterMap_append, List.filterMap_cons, e]
  rfl
theorem nxp_none {h : House} {b : Bg} {j : Nat} (e : put h b.l j = none) : nxp h b (j + 1) = nxp h b j := by
  unfold nxp
  rw [List.range_succ, List.filterMap_append, List.filterMap_cons, e]
  simp
theorem nxp_few (h : House) (b : Bg) (j : Nat) : (nxp h b j).length ≤ j := by
  unfold nxp
  have := List.length_filterMap_le (fun j => (put h b.l j).map fun l' => (⟨l', b.ways⟩ : Bg)) (List.range j)
  rw [List.length_range] at this
  exact this
theorem nx_take {h : House} {bs : List Bg} {i : Nat} {b : Bg} (e : bs[i]? = some b) : nx h (bs.take (i + 1)) = nx h (bs.take i) ++ nx1 h b := by
  obtain ⟨hi, e⟩ := List.getElem?_eq_some_iff.mp e
  rw [List.take_succ_eq_append_getElem hi, e]
  unfold nx
  rw [List.flatMap_append]
  simp
theorem so_far {h : House} {bs : List Bg} {i j : Nat} {b : Bg} (hi : i < bs.length) (hj : j < h.jobs.length) : (nx h (bs.take i) ++ nxp h b j).length < bs.length * h.jobs.length := by
  rw [List.length_append]
  have h1 := nx_few h (bs.take i)
  have h2 := nxp_few h b j
  rw [List.length_take, Nat.min_eq_left (by omega)] at h1
  have h3 : (i + 1) * h.jobs.length ≤ bs.length * h.jobs.length := Nat.mul_le_mul_right _ (by omega)
  rw [Nat.add_mul, Nat.one_mul] at h3
  omega
theorem total_one_le {α : Type} (f : α → Nat) : ∀ (l : List α) (x : α), x ∈ l → f x ≤ total (l.map f)
  | [], x, h => by simp at h
  | y :: l, x, h => by
    rw [List.map_cons, total_cons]
    rcases List.mem_cons.mp h with rfl | h
    · omega
    · have := total_one_le f l x h
      omega
theorem total_ge_len {α : Type} (f : α → Nat) : ∀ (l : List α), (∀ x ∈ l, 1 ≤ f x) → l.length ≤ total (l.map f)
  | [], _ => Nat.le_refl _
  | y :: l, h => by
    rw [List.map_cons, total_cons, List.length_cons]
    have := total_ge_len f l fun x hx => h x (by simp [hx])
    have := h y (by simp)
    omega
theorem total_const (l : List Bg) : total (l.map fun _ => 1) = l.length := by
  induction l with
  | nil => rfl
  | cons x l ih => rw [List.map_cons, total_cons, ih, List.length_cons]; omega
theorem Grp.few {h : House} {ns : List Bg} {gs : List (List (List Nat) × List Bg)} (G : Grp h ns gs) : gs.length ≤ ns.length ∧ ∀ g ∈ gs, g.2.length ≤ ns.length := by
  have e := G.sum fun _ => 1
  rw [total_const] at e
  have e2 : (gs.map fun g => total (g.2.map fun _ => 1)) = gs.map fun g => g.2.length := by
    apply List.map_congr_left
    intro g _
    exact total_const g.2
  rw [e2] at e
  refine ⟨?_, fun g hg => ?_⟩
  · rw [e]
    exact total_ge_len (fun g : List (List Nat) × List Bg => g.2.length) gs fun g hg => by
      have := G.ne g hg
      cases q : g.2 with
      | nil => exact absurd q this
      | cons _ _ => simp
  · rw [e]
    exact total_one_le (fun g : List (List Nat) × List Bg => g.2.length) gs g hg
theorem pow_few {J n k N : Nat} (h1 : J ≤ 8) (h2 : N ≤ 8) (hk : k < N) (hn : n ≤ J ^ k) : n * J ≤ 16777216 ∧ n * J ≤ J ^ (k + 1) := by
  have a : n * J ≤ J ^ k * J := Nat.mul_le_mul_right _ hn
  have b : J ^ k * J = J ^ (k + 1) := (Nat.pow_succ ..).symm
  have c : J ^ (k + 1) ≤ 8 ^ (k + 1) := Nat.pow_le_pow_left h1 _
  have d : 8 ^ (k + 1) ≤ 8 ^ 8 := Nat.pow_le_pow_right (by decide) (by omega)
  have e : 8 ^ 8 = 16777216 := by decide
  omega
end Sj
namespace Sj
open Si44
def Made (h : House) (l : List Done) : Prop := ∀ (i : Nat) (d : Done), l[i]? = some d → ∃ b s m, h.jobs[d.job]? = some b ∧ b.steps[cnt (l.take i) d.job]? = some s ∧ h.machines[s.machine]? = some m ∧ d = doneP m (l.take i) d.job b s
theorem Made.nil (h : House) : Made h [] := fun i d e => by simp at e
theorem Made.snoc {h : House} {l : List Done} (M : Made h l) {j : Nat} {b : Job} {s : Step} {m : Machine} (hb : h.jobs[j]? = some b) (hs : b.steps[cnt l j]? = some s) (hm : h.machines[s.machine]? = some m) : Made h (l ++ [doneP m l j b s]) := by
  intro i d e
  by_cases hi : i < l.length
  · rw [List.getElem?_append_left hi] at e
    rw [List.take_append_of_le_length (by omega)]
    exact M i d e
  · have hlen := lt_at e
    rw [List.length_append] at hlen
    have hi : i = l.length := by simp at hlen; omega
    subst hi
    rw [List.getElem?_append_right (Nat.le_refl _), Nat.sub_self] at e
    have e : doneP m l j b s = d := Option.some.inj e
    subst e
    rw [List.take_left]
    exact ⟨b, s, m, hb, hs, hm, rfl⟩
theorem putAll_made {h : House} (v : Sound h) : ∀ (o : List Nat) (l l' : List Done), Made h l → putAll h l o = some l' → Made h l'
  | [], l, l', M, e => by cases e; exact M
  | j :: o, l, l', M, e => by
    obtain ⟨b, s, hb, hs, l2, hp, e⟩ := putAll_cons e
    have hm := List.getElem?_eq_getElem (v.machine hb hs)
    rw [put_P v hb hs hm] at hp
    have e2 : l ++ [doneP _ l j b s] = l2 := Option.some.inj hp
    subst e2
    exact putAll_made v o _ l' (M.snoc hb hs hm) e
theorem times_made {h : House} (v : Sound h) {o : List Nat} {l : List Done} (e : Si44.times h o = some l) : Made h l := putAll_made v o [] l (Made.nil h) (times_put e)
def rdy (h : House) (p : List Done) (d : Done) : Nat := match h.jobs[d.job]? with
  | some b => max (readyAt p d.job b) (machineAt p d.machine)
  | none => 0
theorem rdy_of {h : House} {p : List Done} {d : Done} {b : Job} (hb : h.jobs[d.job]? = some b) : rdy h p d = max (readyAt p d.job b) (machineAt p d.machine) := by unfold rdy; rw [hb]
def withR (h : House) (l : List Done) : List (Nat × Done) := l.zipIdx.map fun x => (rdy h (l.take x.2) x.1, x.1)
theorem withR_get (h : House) (l : List Done) (i : Nat) : (withR h l)[i]? = (l[i]?).map fun d => (rdy h (l.take i) d, d) := by unfold withR; rw [zip_get]
theorem withR_len (h : House) (l : List Done) : (withR h l).length = l.length := by unfold withR; rw [List.length_map, List.length_zipIdx]
theorem withR_snoc (h : House) (l : List Done) (d : Done) : withR h (l ++ [d]) = withR h l ++ [(rdy h l d, d)] := by
  apply List.ext_getElem?
  intro i
  rw [withR_get]
  by_cases hi : i < l.length
  · rw [List.getElem?_append_left hi, List.getElem?_append_left (by rw [withR_len]; exact hi), withR_get, List.take_append_of_le_length (by omega)]
  · rw [List.getElem?_append_right (by omega), List.getElem?_append_right (by rw [withR_len]; omega), withR_len]
    by_cases h0 : i = l.length
    · subst h0
      rw [Nat.sub_self, List.take_left]
      rfl
    · obtain ⟨k, hk⟩ : ∃ k, i - l.length = k + 1 := ⟨i - l.length - 1, by omega⟩
      rw [hk]
      rfl
theorem withR_take (h : House) (l : List Done) (i : Nat) : withR h (l.take i) = (withR h l).take i := by
  apply List.ext_getElem?
  intro k
  rw [withR_get, List.getElem?_take, List.getElem?_take]
  by_cases hk : k < i
  · rw [if_pos hk, if_pos hk, withR_get, List.take_take, Nat.min_eq_left (by omega)]
  · rw [if_neg hk, if_neg hk]
    rfl
theorem first_ge (rs : List (Nat × Nat)) (n : Nat) : ∀ t, t ≤ rs.foldl (walk1 n) t := by
  induction rs with
  | nil => intro t; exact Nat.le_refl _
  | cons r rs ih =>
    intro t
    rw [List.foldl_cons]
    refine Nat.le_trans ?_ (ih _)
    unfold walk1
    split <;> omega
theorem made_start {h : House} {l : List Done} (M : Made h l) {i : Nat} {d : Done} (hd : l[i]? = some d) : rdy h (l.take i) d ≤ d.start := by
  obtain ⟨b, s, m, hb, hs, hm, e⟩ := M i d hd
  rw [rdy_of hb]
  have e1 : d.machine = s.machine := by rw [e]; rfl
  have e2 : d.start = firstTime m.rests (max (readyAt (l.take i) d.job b) (machineAt (l.take i) s.machine)) (takesP m (l.take i) s) := by
    conv => lhs; rw [e]
    rfl
  rw [e1, e2]
  exact first_ge _ _ _
theorem made_step {h : House} {l : List Done} (M : Made h l) {i : Nat} {d : Done} (hd : l[i]? = some d) : d.step = cnt (l.take i) d.job := by
  obtain ⟨b, s, m, hb, hs, hm, e⟩ := M i d hd
  conv => lhs; rw [e]
  rfl
theorem pb_zero (l : List Done) (f : Done → Bool) : placeBefore l 0 f = none := by unfold placeBefore; rw [List.take_zero]; rfl
theorem pb_succ {l : List Done} {i : Nat} {d : Done} (hd : l[i]? = some d) (f : Done → Bool) : placeBefore l (i + 1) f = if f d = true then some i else placeBefore l i f := by
  have hi := lt_at hd
  unfold placeBefore
  have e : l.take (i + 1) = l.take i ++ [d] := by
    obtain ⟨hi', e'⟩ := List.getElem?_eq_some_iff.mp hd
    rw [List.take_succ_eq_append_getElem hi', e']
  rw [e, List.zipIdx_append, List.filter_append, List.length_take, Nat.min_eq_left (by omega), Nat.zero_add]
  show ((_ ++ ([(d, i)].filter _)).getLast?.map _) = _
  rw [List.filter_cons]
  by_cases hf : f d = true
  · rw [if_pos hf, if_pos hf, List.filter_nil, List.getLast?_append]
    rfl
  · rw [if_neg hf, if_neg hf, List.filter_nil, List.append_nil]
theorem pb_last {l : List Done} {f : Done → Bool} : ∀ {i : Nat}, i ≤ l.length → ∀ {k : Nat}, placeBefore l i f = some k → k < i ∧ (∃ d, l[k]? = some d ∧ f d = true) ∧ ∀ k' d', k' < i → l[k']? = some d' → f d' = true → k' ≤ k
  | 0, _, k, e => by rw [pb_zero] at e; cases e
  | i + 1, hi, k, e => by
    have hd := List.getElem?_eq_getElem (l := l) (i := i) (by omega)
    generalize l[i] = d at hd
    rw [pb_succ hd] at e
    by_cases hf : f d = true
    · rw [if_pos hf] at e
      have e : i = k := Option.some.inj e
      subst e
      exact ⟨by omega, ⟨d, hd, hf⟩, fun k' d' h1 _ _ => by omega⟩
    · rw [if_neg hf] at e
      obtain ⟨h1, h2, h3⟩ := pb_last (i := i) (by omega) e
      refine ⟨by omega, h2, fun k' d' a b c => ?_⟩
      by_cases hk : k' = i
      · subst hk
        rw [hd] at b
        have b : d = d' := Option.some.inj b
        subst b
        exact absurd c hf
      · exact h3 k' d' (by omega) b c
theorem pb_some {l : List Done} {f : Done → Bool} {i k : Nat} {d : Done} (hi : i ≤ l.length) (hk : k < i) (hd : l[k]? = some d) (hf : f d = true) : ∃ k', placeBefore l i f = some k' := by
  induction i with
  | zero => omega
  | succ i ih =>
    have hx := List.getElem?_eq_getElem (l := l) (i := i) (by omega)
    generalize l[i] = x at hx
    rw [pb_succ hx]
    by_cases q : f x = true
    · rw [if_pos q]; exact ⟨_, rfl⟩
    · rw [if_neg q]
      refine ih (by omega) ?_
      rcases Nat.lt_or_ge k i with z | z
      · exact z
      · have : k = i := by omega
        subst this
        rw [hd] at hx
        have hx : d = x := Option.some.inj hx
        subst hx
        exact absurd hf q
theorem take_at' {α : Type} {l : List α} {i : Nat} {x : α} (h : l[i]? = some x) : l.take (i + 1) = l.take i ++ [x] := by
  obtain ⟨hi, e⟩ := List.getElem?_eq_some_iff.mp h
  rw [List.take_succ_eq_append_getElem hi, e]
theorem pb_lastOf {l : List Done} {j : Nat} : ∀ {i : Nat}, i ≤ l.length → lastOf (l.take i) j = (placeBefore l i fun y => y.job == j).bind fun k => l[k]?
  | 0, _ => by rw [pb_zero, List.take_zero]; rfl
  | i + 1, hi => by
    have hd := List.getElem?_eq_getElem (l := l) (i := i) (by omega)
    generalize l[i] = d at hd
    rw [pb_succ hd, take_at' hd, lastOf_snoc]
    by_cases e : d.job = j
    · rw [if_pos e, if_pos (by simp [e])]
      exact hd.symm
    · rw [if_neg e, if_neg (by simp [e])]
      exact pb_lastOf (by omega)
theorem pb_lastOn {l : List Done} {j : Nat} : ∀ {i : Nat}, i ≤ l.length → lastOn (l.take i) j = (placeBefore l i fun y => y.machine == j).bind fun k => l[k]?
  | 0, _ => by rw [pb_zero, List.take_zero]; rfl
  | i + 1, hi => by
    have hd := List.getElem?_eq_getElem (l := l) (i := i) (by omega)
    generalize l[i] = d at hd
    rw [pb_succ hd, take_at' hd, lastOn_snoc]
    by_cases e : d.machine = j
    · rw [if_pos e, if_pos (by simp [e])]
      exact hd.symm
    · rw [if_neg e, if_neg (by simp [e])]
      exact pb_lastOn (by omega)
def causeN (h : House) (l : List Done) (i : Nat) : Nat := match causeOf h l i with
  | some c => causeOut c
  | none => 0
theorem cause_of {h : House} {l : List Done} {i : Nat} {d : Done} {b : Job} (hd : l[i]? = some d) (hb : h.jobs[d.job]? = some b) :
    causeOf h l i = some (if rdy h (l.take i) d < d.start then .rest else if readyAt (l.take i) d.job b = d.start then (if d.step = 0 then .from_ else .own) else .machine) := by
  unfold causeOf
  rw [hd]
  show (h.jobs[d.job]?).map _ = _
  rw [hb, rdy_of hb]
  rfl
theorem ready_zero {l : List Done} {j : Nat} (b : Job) (hc : cnt l j = 0) : readyAt l j b = b.from_ := by
  unfold readyAt lastOf
  unfold cnt at hc
  rw [List.length_eq_zero_iff.mp hc]
  rfl
theorem own_place {l : List Done} {i j : Nat} (hi : i ≤ l.length) (hc : cnt (l.take i) j ≠ 0) (b : Job) : ∃ k d, placeBefore l i (fun y => y.job == j) = some k ∧ k < i ∧ l[k]? = some d ∧ d.job = j ∧ readyAt (l.take i) j b = d.halt_ := by
  obtain ⟨d, e⟩ := lastOf_some hc
  have q := pb_lastOf (l := l) (j := j) hi
  rw [e] at q
  cases hp : placeBefore l i (fun y => y.job == j) with
  | none => rw [hp] at q; cases q
  | some k =>
    rw [hp] at q
    have q : some d = l[k]? := q
    obtain ⟨h1, ⟨d', h2, h3⟩, _⟩ := pb_last hi hp
    rw [← q] at h2
    have h2 : d = d' := Option.some.inj h2
    subst h2
    refine ⟨k, d, rfl, h1, q.symm, by simpa using h3, ?_⟩
    unfold readyAt
    rw [e]
    rfl
theorem machine_place {l : List Done} {i m : Nat} (hi : i ≤ l.length) (hc : machineAt (l.take i) m ≠ 0) : ∃ k, placeBefore l i (fun y => y.machine == m) = some k ∧ k < i := by
  have q := pb_lastOn (l := l) (j := m) hi
  cases hp : placeBefore l i (fun y => y.machine == m) with
  | none =>
    rw [hp] at q
    have q : lastOn (l.take i) m = none := q
    unfold machineAt at hc
    rw [q] at hc
    exact absurd rfl hc
  | some k => exact ⟨k, rfl, (pb_last hi hp).1⟩
theorem why_step {h : House} {l : List Done} (M : Made h l) {i f : Nat} {d : Done} (hd : l[i]? = some d) (hf : i < f + 1) : ∃ c, causeOf h l i = some c ∧
    (c = .own → ∃ k, placeBefore l i (fun y => y.job == d.job) = some k ∧ k < i ∧ whyFrom h l (f + 1) i = (i, c) :: whyFrom h l f k) ∧
    (c = .machine → ∃ k, placeBefore l i (fun y => y.machine == d.machine) = some k ∧ k < i ∧ whyFrom h l (f + 1) i = (i, c) :: whyFrom h l f k) ∧
    (c = .from_ ∨ c = .rest → whyFrom h l (f + 1) i = [(i, c)]) := by
  obtain ⟨b, s, m, hb, hs, hm, e⟩ := M i d hd
  have hi : i ≤ l.length := Nat.le_of_lt (lt_at hd)
  have hst := made_start M hd
  have hsp := made_step M hd
  have hc := cause_of (h := h) hd hb
  refine ⟨_, hc, fun q => ?_, fun q => ?_, fun q => ?_⟩
  · rw [q] at hc
    have hn : cnt (l.take i) d.job ≠ 0 := by
      rw [← hsp]
      intro z
      rw [if_pos z] at q
      split at q
      · cases q
      · split at q <;> cases q
    obtain ⟨k, d', h1, h2, _⟩ := own_place hi hn b
    refine ⟨k, h1, h2, ?_⟩
    rw [q]
    simp only [whyFrom, hd, hc, h1]
  · rw [q] at hc
    have hz : machineAt (l.take i) d.machine ≠ 0 := by
      rw [rdy_of hb] at q hst
      split at q
      · cases q
      · split at q
        · split at q <;> cases q
        · omega
    obtain ⟨k, h1, h2⟩ := machine_place hi hz
    refine ⟨k, h1, h2, ?_⟩
    rw [q]
    simp only [whyFrom, hd, hc, h1]
  · rcases q with q | q
    · rw [q] at hc ⊢
      simp only [whyFrom, hd, hc]
    · rw [q] at hc ⊢
      simp only [whyFrom, hd, hc]
def told3 (l : List Done) (x : Nat × Cause) : List Nat := match l[x.1]? with
  | some d => [d.job, d.step, causeOut x.2]
  | none => []
theorem longer_jobs {h : House} {j k d : Nat} {b : Job} {s : Step} (hb : h.jobs[j]? = some b) (hs : b.steps[k]? = some s) :
    (longer h j k d).jobs = h.jobs.set j { b with steps := b.steps.set k { s with long := s.long + d } } := by
  apply List.ext_getElem?
  intro i
  rw [List.getElem?_set]
  show (h.jobs.zipIdx.map _)[i]? = _
  rw [zip_get]
  by_cases e : j = i
  · subst e
    rw [if_pos rfl, if_pos (lt_at hb), hb]
    show some (if j = j then _ else b) = _
    rw [if_pos rfl]
    have es : (b.steps.zipIdx.map fun y => if y.2 = k then ({ y.1 with long := y.1.long + d } : Step) else y.1) = b.steps.set k { s with long := s.long + d } := by
      apply List.ext_getElem?
      intro q
      rw [List.getElem?_set, zip_get]
      by_cases e : k = q
      · subst e
        rw [if_pos rfl, if_pos (lt_at hs), hs]
        show some (if k = k then _ else s) = _
        rw [if_pos rfl]
      · rw [if_neg e]
        cases b.steps[q]? with
        | none => rfl
        | some u =>
          show some (if q = k then _ else u) = _
          rw [if_neg (fun z => e z.symm)]
    show some ({ b with steps := b.steps.zipIdx.map fun y => if y.2 = k then ({ y.1 with long := y.1.long + d } : Step) else y.1 } : Job) = _
    rw [es]
  · rw [if_neg e]
    cases h.jobs[i]? with
    | none => rfl
    | some u =>
      show some (if i = j then _ else u) = _
      rw [if_neg (fun z => e z.symm)]
theorem longer_lens (h : House) (j k d : Nat) : lens (longer h j k d) = lens h := by
  apply List.ext_getElem?
  intro i
  unfold lens
  rw [List.getElem?_map, List.getElem?_map]
  show ((h.jobs.zipIdx.map _)[i]?).map _ = _
  rw [zip_get]
  cases h.jobs[i]? with
  | none => rfl
  | some u =>
    show some (if i = j then _ else u).steps.length = some _
    by_cases e : i = j
    · rw [if_pos e]
      show some (u.steps.zipIdx.map _).length = _
      rw [List.length_map, List.length_zipIdx]
    · rw [if_neg e]
theorem longer_len (h : House) (j k d : Nat) : (longer h j k d).jobs.length = h.jobs.length := by
  show (h.jobs.zipIdx.map _).length = _
  rw [List.length_map, List.length_zipIdx]
theorem longer_ord (h : House) (j k d : Nat) (o : List Nat) : IsOrd (longer h j k d) o ↔ IsOrd h o := by
  unfold IsOrd
  rw [longer_lens, longer_len]
theorem longer_job {h : House} {j k d i : Nat} {u : Job} (hu : (longer h j k d).jobs[i]? = some u) : ∃ b, h.jobs[i]? = some b ∧ u.from_ = b.from_ ∧ u.due = b.due ∧ u.weight = b.weight ∧ u.steps.length = b.steps.length ∧ ∀ s ∈ u.steps, ∃ s' ∈ b.steps, s.machine = s'.machine := by
  have hu : (h.jobs.zipIdx.map _)[i]? = some u := hu
  rw [zip_get] at hu
  cases hb : h.jobs[i]? with
  | none => rw [hb] at hu; cases hu
  | some b =>
    rw [hb] at hu
    have hu : (if i = j then { b with steps := b.steps.zipIdx.map fun y => if y.2 = k then { y.1 with long := y.1.long + d } else y.1 } else b) = u := Option.some.inj hu
    refine ⟨b, rfl, ?_⟩
    by_cases e : i = j
    · rw [if_pos e] at hu
      subst hu
      refine ⟨rfl, rfl, rfl, by simp, fun s hs => ?_⟩
      obtain ⟨y, hy, rfl⟩ := List.mem_map.mp hs
      have : y.1 ∈ b.steps := by
        obtain ⟨q, hq⟩ := List.getElem?_of_mem hy
        rw [List.getElem?_zipIdx] at hq
        cases e : b.steps[q]? with
        | none => rw [e] at hq; cases hq
        | some w =>
          rw [e] at hq
          have hq : (w, 0 + q) = y := Option.some.inj hq
          subst hq
          exact List.mem_of_getElem? e
      refine ⟨y.1, this, ?_⟩
      split <;> rfl
    · rw [if_neg e] at hu
      subst hu
      exact ⟨rfl, rfl, rfl, rfl, fun s hs => ⟨s, hs, rfl⟩⟩
theorem longer_sound {h : House} (v : Sound h) (j k d : Nat) : Sound (longer h j k d) := by
  refine ⟨v.few, v.apart, fun u hu s hs => ?_, fun u hu => ?_, fun u hu => ?_, by rw [longer_lens]; exact v.steps⟩
  all_goals
    obtain ⟨i, hi⟩ := List.getElem?_of_mem hu
    obtain ⟨b, hb, h1, h2, h3, h4, h5⟩ := longer_job hi
    have hb := List.mem_of_getElem? hb
  · obtain ⟨s', hs', e⟩ := h5 s hs
    rw [e]
    exact v.mach b hb s' hs'
  · rw [h4]; exact v.one b hb
  · rw [h3]; exact v.wt b hb
theorem longer_cost (h : House) (j k d : Nat) (l : List Done) : cost (longer h j k d) l = cost h l := by
  unfold cost
  congr 1
  apply List.ext_getElem?
  intro i
  rw [zip_get, zip_get]
  cases hu : (longer h j k d).jobs[i]? with
  | none =>
    have := List.getElem?_eq_none_iff.mp hu
    rw [longer_len] at this
    rw [List.getElem?_eq_none this]
  | some u =>
    obtain ⟨b, hb, h1, h2, h3, h4, h5⟩ := longer_job hu
    rw [hb]
    show some (u.weight * lateOf l i u) = some (b.weight * lateOf l i b)
    unfold lateOf endOf readyAt
    rw [h1, h2, h3]
theorem longer_zero (h : House) (j k : Nat) : longer h j k 0 = h := by
  unfold longer
  have e : (h.jobs.zipIdx.map fun x => if x.2 = j then ({ x.1 with steps := x.1.steps.zipIdx.map fun y => if y.2 = k then { y.1 with long := y.1.long + 0 } else y.1 } : Job) else x.1) = h.jobs := by
    apply List.ext_getElem?
    intro i
    rw [zip_get]
    cases h.jobs[i]? with
    | none => rfl
    | some u =>
      show some (if i = j then ({ u with steps := u.steps.zipIdx.map fun y => if y.2 = k then { y.1 with long := y.1.long + 0 } else y.1 } : Job) else u) = some u
      split
      · congr 2
        apply List.ext_getElem?
        intro q
        rw [zip_get]
        cases u.steps[q]? with
        | none => rfl
        | some w =>
          show some (if q = k then ({ w with long := w.long + 0 } : Step) else w) = some w
          split <;> rfl
      · rfl
  rw [e]
def costL (h : House) (o : List Nat) (j k d : Nat) : Nat := match Si44.times (longer h j k d) o with
  | some m => cost h m
  | none => 0
theorem find_rev {p : Nat → Bool} : ∀ {n d : Nat}, d ≤ n → p d = true → (∀ d', d < d' → d' ≤ n → p d' = false) → (List.range (n + 1)).reverse.find? p = some d
  | n, d, hd, hp, hf => by
    rw [List.range_succ, List.reverse_append]
    show (n :: (List.range n).reverse).find? p = some d
    rw [List.find?_cons]
    by_cases e : d = n
    · subst e
      rw [hp]
    · rw [hf n (by omega) (Nat.le_refl _)]
      show (List.range n).reverse.find? p = some d
      obtain ⟨k, hk⟩ : ∃ k, n = k + 1 := ⟨n - 1, by omega⟩
      subst hk
      exact find_rev (by omega) hp fun d' h1 h2 => hf d' h1 (by omega)
theorem times_some {h : House} {o : List Nat} (ho : IsOrd h o) : ∃ l, Si44.times h o = some l := by
  have := (times_isSome h o).mpr ho
  cases e : Si44.times h o with
  | none => rw [e] at this; cases this
  | some l => exact ⟨l, rfl⟩
theorem slack_is {h : House} {o : List Nat} {j k d : Nat} (ho : IsOrd h o) (hd : d ≤ 100) (hp : costL h o j k d ≤ costL h o j k 0) (hf : ∀ d', d < d' → d' ≤ 100 → costL h o j k 0 < costL h o j k d') : Si44.slack h o j k = some d := by
  obtain ⟨l, hl⟩ := times_some ho
  have e0 : costL h o j k 0 = cost h l := by unfold costL; rw [longer_zero, hl]
  unfold Si44.slack
  rw [hl, Option.bind_some]
  have each : ∀ d', ∃ m, Si44.times (longer h j k d') o = some m ∧ costL h o j k d' = cost h m := by
    intro d'
    obtain ⟨m, hm⟩ := times_some ((longer_ord h j k d' o).mpr ho)
    exact ⟨m, hm, by unfold costL; rw [hm]⟩
  refine find_rev (n := 100) hd ?_ fun d' h1 h2 => ?_
  · obtain ⟨m, hm, e⟩ := each d
    rw [hm]
    show decide _ = true
    rw [← e, ← e0]
    exact decide_eq_true hp
  · obtain ⟨m, hm, e⟩ := each d'
    rw [hm]
    show decide _ = false
    rw [← e, ← e0]
    have := hf d' h1 h2
    exact decide_eq_false (by omega)
theorem slack_none {h : House} {o : List Nat} {j k : Nat} (ho : ¬ IsOrd h o) : Si44.slack h o j k = none := by
  have : Si44.times h o = none := by
    cases e : Si44.times h o with
    | none => rfl
    | some l => exact absurd ((times_isSome h o).mp (by rw [e]; rfl)) ho
  unfold Si44.slack
  rw [this]
  rfl
end Sj
section
set_option linter.all false
set_option maxRecDepth 100000
namespace PySem
open Sem (wp)
section
variable {prog : Program} {w : World} {K : Type} [DecidableEq K] (knd : KeyKind prog w K)
inductive RefsAre (h : Heap) : List (List K) → List Value → Prop
  | nil : RefsAre h [] []
  | cons {ks : List K} {a : Addr} {kss : List (List K)} {vs : List Value} : IsTupleKey knd h ks a → RefsAre h kss vs → RefsAre h (ks :: kss) (.ref a :: vs)
def IsTup2 (h : Heap) (kss : List (List K)) (a : Addr) : Prop := ∃ o its n, h.get? a = some o ∧ o.cls = .type "tuple" ∧ o.data = .seq its n ∧ RefsAre knd h kss its.toList
variable {knd}
theorem RefsAre.inj {h : Heap} {x y : List (List K)} {vs : List Value} (kx : RefsAre knd h x vs) (ky : RefsAre knd h y vs) : x = y := by
  induction kx generalizing y with
  | nil => cases ky; rfl
  | cons h1 _ ih =>
    cases ky with
    | cons h2 t2 => rw [h1.inj h2, ih t2]
theorem RefsAre.keeps {h h' : Heap} {x : List (List K)} {vs : List Value} {d : Addr} {o : Obj} {es ep} (kx : RefsAre knd h x vs) (at1 : h.get? d = some o) (dat : o.data = .dict es ep) (sb : Heap.SameBut d h h') : RefsAre knd h' x vs := by
  induction kx with
  | nil => exact .nil
  | cons h1 _ ih => exact .cons (h1.keeps at1 dat sb) ih
theorem IsTup2.typeIs {s : Shared} {ks : List (List K)} {a : Addr} (x : IsTup2 knd s.heap ks a) : s.TypeIs (.ref a) "tuple" := let ⟨o, _, _, at1, cl1, _⟩ := x; ⟨o, at1, cl1⟩
theorem IsTup2.inj {h : Heap} {a : Addr} {x y : List (List K)} (kx : IsTup2 knd h x a) (ky : IsTup2 knd h y a) : x = y := by
  obtain ⟨o, its, n, at1, _, dat, all1⟩ := kx
  obtain ⟨o', items', n', at1', _, dat', all1'⟩ := ky
  obtain rfl : o = o' := Option.some.inj (at1.symm.trans at1')
  rw [dat] at dat'
  injection dat' with h1 _
  subst h1
  exact all1.inj all1'
theorem IsTup2.keeps {h h' : Heap} {ks : List (List K)} {a d : Addr} {o : Obj} {es ep} (x : IsTup2 knd h ks a) (at1 : h.get? d = some o) (dat : o.data = .dict es ep) (sb : Heap.SameBut d h h') : IsTup2 knd h' ks a := by
  obtain ⟨o', its, n, at1', cl1, dat', all1⟩ := x
  have hne : a ≠ d := by
    rintro rfl
    obtain rfl : o' = o := Option.some.inj (at1'.symm.trans at1)
    rw [dat] at dat'; exact nomatch dat'
  exact ⟨o', its, n, (sb.2 a hne).trans at1', cl1, dat', all1.keeps at1 dat sb⟩
def tup2Hash (knd : KeyKind prog w K) (kss : List (List K)) : Int := reduceHash (Builtin.Tuple.tupleHashOf (kss.map (tupleKeyHash knd)))
def tup2Draws : List (List K) → Nat
  | [] => 0
  | ks :: kss => ks.length + 1 + tup2Draws kss
theorem tup2Draws_append (a b : List (List K)) : tup2Draws (a ++ b) = tup2Draws a + tup2Draws b := by
  induction a with
  | nil => simp [tup2Draws]
  | cons x a ih => simp only [List.cons_append, tup2Draws, ih]; omega
variable {A : Around} {E : Value → Shared → Prop} {s : Shared}
theorem wpAny_pyHash_tup2 {ks : List (List K)} {a : Addr} {Q : Int → Shared → Prop} (room1 : A.units + 1 < cLine) (kk : IsTup2 knd s.heap ks a) (h : Q (tup2Hash knd ks) { s with toks := s.toks + (tup2Draws ks + 1) }) :
    wpAny (model prog w) A (pyHash (.ref a)) Q E s := by
  have ty := kk.typeIs
  obtain ⟨o, its, n, at1, _, dat, all1⟩ := kk
  unfold pyHash
  first | unfold pyHashByItsType | skip
  first | refine wpAny_bind (wpAny_cRoomFor_or (.inr (by omega)) ?_) | skip
  refine wpAny_bind (wpAny_specialOf ty F.slot_tuple_hash.lookup ?_)
  show wpAny _ _ (if (some (Value.builtin "tuple.__hash__") == some Value.none) = true then _ else _) Q E s
  rw [if_neg (by rw [beq_builtin_none]; exact Bool.false_ne_true)]
  refine wpAny_bind (wpAny_specialOf ty F.slot_tuple_hash.lookup ?_)
  show wpAny _ _ (callSpecialIfBoundUnlessNone? (.ref a) "__hash__" _ >>= _) Q E s
  refine wpAny_bind (wpAny_callSpecialIfBoundUnlessNone?_slot ty F.slot_tuple_hash (wpAny_call_entry F.slot_tuple_hash ty F.entry_tuple_hash ?_ (F.args_tuple_hash_1 _)))
  show wpAny _ _ (Builtin.Tuple.tupleItemsOf (.ref a) >>= _) _ _ s
  refine wpAny_bind (wpAny_tupleItemsOf at1 dat ?_)
  refine wpAny_bind ?_
  rw [← Array.forIn_toList]
  refine wpAny_forIn_list _
    (fun rest (b : Array Int) s' => ∃ past todo, ks = past ++ todo ∧ RefsAre knd s.heap todo rest ∧ b.toList = past.map (tupleKeyHash knd) ∧ s' = { s with toks := s.toks + tup2Draws past })
    _ ?_ ?_ _ _ ⟨[], ks, rfl, all1, rfl, rfl⟩
  · rintro x rest b s' ⟨past, todo, rfl, la, lb, rfl⟩
    cases la with
    | @cons k _ ks' _ h1 la' =>
      refine wpAny_bind (wpAny_pyHash_tuple (s := { s with toks := s.toks + tup2Draws past }) room1 h1 ?_)
      first
        | exact wpAny_pure ⟨past ++ [k], ks', by simp, la', by simp [lb], by rw [tup2Draws_append]; simp [tup2Draws, Nat.add_assoc]⟩
        | exact wpAny_bind (wpAny_pure (wpAny_pure ⟨past ++ [k], ks', by simp, la', by simp [lb], by rw [tup2Draws_append]; simp [tup2Draws, Nat.add_assoc]⟩))
  · rintro b s' ⟨past, todo, rfl, la, lb, rfl⟩
    cases la
    rw [List.append_nil] at h
    show wpAny _ _ (retInt (Builtin.Tuple.tupleHashOf b.toList)) _ _ _
    rw [lb]
    refine wpAny_ret_mkInt ?_
    show wpAny _ _ (if (decide (-(2 : Int) ^ 63 ≤ Builtin.Tuple.tupleHashOf (past.map (tupleKeyHash knd))) && decide (Builtin.Tuple.tupleHashOf (past.map (tupleKeyHash knd)) < 2 ^ 63)) = true then _ else _) Q E _
    unfold tup2Hash reduceHash at h
    by_cases rr : (decide (-(2 : Int) ^ 63 ≤ Builtin.Tuple.tupleHashOf (past.map (tupleKeyHash knd))) && decide (Builtin.Tuple.tupleHashOf (past.map (tupleKeyHash knd)) < 2 ^ 63)) = true
    · rw [if_pos rr]
      rw [if_pos rr] at h
      exact wpAny_pure (by simpa [Nat.add_assoc] using h)
    · rw [if_neg rr]
      rw [if_neg rr] at h
      exact wpAny_bind (wpAny_rule (wpAny_pure (by simpa [Nat.add_assoc] using h)))
theorem tup2_eq_tree {x y : List (List K)} {a b : Addr} {P : Fin → Shared → Prop} (room1 : A.units < cLine) (kx : IsTup2 knd s.heap x a) (ky : IsTup2 knd s.heap y b) (h : P (.done (.ret (.bool (decide (x = y))))) s) :
    wpAny (model prog w) A (Builtin.«tuple.__eq__» ⟨[.ref a, .ref b], []⟩) P E s := by
  have tyb := ky.typeIs
  obtain ⟨oa, xs, na, ata1, _, data1, alla⟩ := kx
  obtain ⟨ob, ys, nb, atb1, _, datb1, allb⟩ := ky
  show wpAny _ _ (isInstance (.ref b) (.type "tuple") >>= _) _ _ s
  refine wpAny_bind (wpAny_isInstance tyb isSubtype_tuple_tuple ?_)
  simp only [if_false, Bool.false_eq_true, Bool.not_true]
  refine wpAny_bind (wpAny_tupleItemsOf ata1 data1 ?_)
  refine wpAny_bind (wpAny_tupleItemsOf atb1 datb1 ?_)
  refine wpAny_bind ?_
  refine wpAny_forIn_list _
    (fun rest r s' => r.1 = none ∧ s' = s ∧ ∃ x' y' xs' ys', rest = List.zip xs' ys' ∧ RefsAre knd s.heap x' xs' ∧ RefsAre knd s.heap y' ys' ∧ decide (x' = y') = decide (x = y) ∧ (xs'.length == ys'.length) = (xs.size == ys.size))
    _ ?_ ?_ _ _ ⟨rfl, rfl, x, y, xs.toList, ys.toList, rfl, alla, allb, rfl, by simp⟩
  · rintro ⟨u, v⟩ rest r s' ⟨rr, rfl, x', y', xs', ys', zz, kx', ky', dq, nq⟩
    cases kx' with
    | nil => simp at zz
    | @cons k1 u' x'' xs'' h1 kx'' =>
      cases ky' with
      | nil => simp at zz
      | @cons k2 v' y'' ys'' h2 ky'' =>
        simp only [List.zip_cons_cons, List.cons.injEq, Prod.mk.injEq] at zz
        obtain ⟨⟨rfl, rfl⟩, rfl⟩ := zz
        refine wpAny_bind (wpAny_eqBool_tuple room1 h1 h2 ?_)
        by_cases kk : k1 = k2
        · subst kk
          rw [decide_eq_true rfl]
          simp only [if_false, Bool.false_eq_true, Bool.not_true]
          refine wpAny_pure ⟨rfl, rfl, x'', y'', xs'', ys'', rfl, kx'', ky'', ?_, by simpa using nq⟩
          rw [← dq]
          by_cases hxy : x'' = y''
          · simp [hxy]
          · simp [hxy]
        · rw [decide_eq_false kk]
          simp only [if_true, Bool.not_false]
          have lts : decide (x = y) = false := by rw [← dq]; simp [kk]
          rw [lts] at h
          exact wpAny_bind (wpAny_pure (wpAny_pure (wpAny_pure h)))
  · rintro ⟨r1, r2⟩ s' ⟨rr, rfl, x', y', xs', ys', zz, kx', ky', dq, nq⟩
    simp only at rr
    subst rr
    refine wpAny_pure ?_
    have fin1 : (xs.size == ys.size) = decide (x = y) := by
      rw [← dq, ← nq]
      cases kx' with
      | nil =>
        cases ky' with
        | nil => simp
        | cons _ _ => simp
      | cons _ _ =>
        cases ky' with
        | nil => simp
        | cons _ _ => simp at zz
    show P (.done (.ret (.bool (xs.size == ys.size)))) s'
    rw [fin1]; exact h
theorem wpAny_eqBool_tup2 {x y : List (List K)} {a b : Addr} {Q : Bool → Shared → Prop} (room1 : A.units + 1 < cLine) (kx : IsTup2 knd s.heap x a) (ky : IsTup2 knd s.heap y b) (h : Q (decide (x = y)) s) :
    wpAny (model prog w) A (eqBool (.ref a) (.ref b)) Q E s := by
  unfold eqBool
  (try with_reducible refine wpAny_holding ?_)
  show wpAny _ _ (if (Value.ref a == Value.ref b) = true then _ else _) Q E s
  by_cases same1 : (Value.ref a == Value.ref b) = true
  · rw [if_pos same1]
    have e : a = b := by have := eq_of_beq same1; injection this
    subst e
    obtain rfl := kx.inj ky
    exact wpAny_bind (wpAny_rule (wpAny_pure (by simpa using h)))
  · rw [if_neg same1]
    exact wpAny_bind (wpAny_richCompare_same_room (op := .Eq) kx.typeIs ky.typeIs F.slot_tuple_eq
      (wpAny_call_entry F.slot_tuple_eq kx.typeIs F.entry_tuple_eq (tup2_eq_tree room1 kx ky ⟨_, rfl, (fun e => nomatch e), wpAny_truthy_bool h⟩) (F.args_tuple_eq_2 _ _)) (by omega))
theorem quiet_tuple (m : Nat) {ks : List K} {a : Addr} {Q : Bool → Shared → Prop} (kk : IsTupleKey knd s.heap ks a) (h : Q true s) : wpAny (model prog w) A (eqIsQuiet (m + 1) (.ref a)) Q E s := by
  have ty := kk.typeIs
  obtain ⟨o, its, n, at1, _, dat, all1⟩ := kk
  unfold eqIsQuiet
  refine wpAny_bind (wpAny_specialOf ty F.slot_tuple_eq.lookup ?_)
  show wpAny _ _ (isInstance (.ref a) (.type "tuple") >>= _) _ _ s
  refine wpAny_bind (wpAny_isInstance ty isSubtype_tuple_tuple ?_)
  simp only [if_false, Bool.false_eq_true, Bool.not_true]
  refine wpAny_bind (wpAny_seqItems at1 dat ?_)
  refine wpAny_bind ?_
  show wpAny _ _ (forIn its _ _) _ _ s
  rw [← Array.forIn_toList]
  refine wpAny_forIn_list _ (fun rest r s' => r.1 = none ∧ s' = s ∧ ∀ v ∈ rest, carriedByValue v = true) _ ?_ ?_ _ _ ⟨rfl, rfl, all1.byValue⟩
  · rintro v rest r s' ⟨rr, rfl, each1⟩
    rw [eqIsQuiet_byValue _ (each1 v List.mem_cons_self)]
    refine wpAny_bind ?_; refine wpAny_pure ?_
    simp only [if_false, Bool.false_eq_true, Bool.not_true]
    exact wpAny_pure ⟨rfl, rfl, fun u ru' => each1 u (List.mem_cons_of_mem _ ru')⟩
  · rintro ⟨r1, r2⟩ s' ⟨rr, rfl, _⟩
    simp only at rr
    subst rr
    exact wpAny_pure h
theorem RefsAre.each {h : Heap} {x : List (List K)} {vs : List Value} (kx : RefsAre knd h x vs) : ∀ v ∈ vs, ∃ ks b, v = .ref b ∧ IsTupleKey knd h ks b := by
  induction kx with
  | nil => intro v mv; simp at mv
  | cons h1 _ ih =>
    intro v mv
    rcases List.mem_cons.mp mv with rfl | mv
    · exact ⟨_, _, rfl, h1⟩
    · exact ih v mv
theorem quiet_tup2 {ks : List (List K)} {a : Addr} {Q : Bool → Shared → Prop} (kk : IsTup2 knd s.heap ks a) (h : Q true s) : wpAny (model prog w) A (eqIsQuiet 8 (.ref a)) Q E s := by
  have ty := kk.typeIs
  obtain ⟨o, its, n, at1, _, dat, all1⟩ := kk
  unfold eqIsQuiet
  refine wpAny_bind (wpAny_specialOf ty F.slot_tuple_eq.lookup ?_)
  show wpAny _ _ (isInstance (.ref a) (.type "tuple") >>= _) _ _ s
  refine wpAny_bind (wpAny_isInstance ty isSubtype_tuple_tuple ?_)
  simp only [if_false, Bool.false_eq_true, Bool.not_true]
  refine wpAny_bind (wpAny_seqItems at1 dat ?_)
  refine wpAny_bind ?_
  show wpAny _ _ (forIn its _ _) _ _ s
  rw [← Array.forIn_toList]
  refine wpAny_forIn_list _ (fun rest r s' => r.1 = none ∧ s' = s ∧ ∀ v ∈ rest, ∃ ks b, v = .ref b ∧ IsTupleKey knd s.heap ks b) _ ?_ ?_ _ _ ⟨rfl, rfl, all1.each⟩
  · rintro v rest r s' ⟨rr, rfl, each1⟩
    obtain ⟨ks', b, rfl, lb⟩ := each1 v List.mem_cons_self
    refine wpAny_bind (quiet_tuple 6 lb ?_)
    simp only [if_false, Bool.false_eq_true, Bool.not_true]
    exact wpAny_pure ⟨rfl, rfl, fun u ru' => each1 u (List.mem_cons_of_mem _ ru')⟩
  · rintro ⟨r1, r2⟩ s' ⟨rr, rfl, _⟩
    simp only at rr
    subst rr
    exact wpAny_pure h
end
def tup2Kind {prog : Program} {w : World} {K : Type} [DecidableEq K] (knd : KeyKind prog w K) : HeapKind prog w (List (List K)) where
  is := IsTup2 knd
  hash := tup2Hash knd
  draws := fun ks => tup2Draws ks + 1
  room := fun A => A.units + 1 < cLine
  inj := fun kx ky => kx.inj ky
  keeps := fun x at1 dat sb => x.keeps at1 dat sb
  pyHash := fun room1 kk h => wpAny_pyHash_tup2 room1 kk h
  eqBool := fun room1 kx ky h => wpAny_eqBool_tup2 room1 kx ky h
  quiet := fun kk h => quiet_tup2 kk h
section
variable {prog : Program} {w : World} {K : Type} [DecidableEq K] {knd : HeapKind prog w K} {A : Around} {E : Value → Shared → Prop} {s : Shared}
theorem setDefault_heap {d a : Addr} {xs : List (K × Addr × Value)} {k : K} {dflt : Value} {Q : Value → Shared → Prop} (room1 : knd.room A) (iskey : knd.is s.heap k a) (tab : s.heap.DictOfH knd d xs)
    (h1 : ∀ p, atKey xs k = some p → Q p.2 { s with toks := s.toks + knd.draws k })
    (h2 : atKey xs k = none → ∀ h', h'.DictOfH knd d (xs ++ [(k, a, dflt)]) → Heap.SameBut d s.heap h' → Q dflt { s with heap := h', toks := s.toks + knd.draws k })
    (eqsz : xs.length ≤ sizeLine) : wpAny (model prog w) A (dictSetDefault d (.ref a) dflt) Q E s := by
  obtain ⟨o, es, ep, at1, cl1, dat, eqs, are, uniq⟩ := tab
  unfold dictSetDefault
  (try with_reducible refine wpAny_holding ?_)
  refine wpAny_bind (knd.pyHash room1 iskey ?_)
  refine wpAny_bind (wpAny_dictFind_heap (s := { s with toks := s.toks + knd.draws k }) room1 iskey at1 dat eqs are uniq ?_ ?_)
  · intro none1
    have fresh1 : k ∉ xs.map (·.1) := not_mem_keys_of_get none1
    refine wpAny_bind (wpAny_rule (wpAny_bind (wpAny_updateDictKeys (hz := by have e := size_of_entries eqs; omega) (s := { s with toks := s.toks + knd.draws k }) at1 dat (wpAny_pure (h2 (atKey_none_of_get none1) _ ⟨_, _, ep + 1, Heap.get?_update_self _ at1 (Obj.isFreed_of_dict (Obj.data_mapDictKeys dat _)),
      cl1.mapDictKeys _, Obj.data_mapDictKeys dat _, ?_, ?_, ?_⟩ (Heap.SameBut.update ..))))))
    · simp [eqs, entryOfKey]
    · intro x kx
      rcases List.mem_append.mp kx with kx | kx
      · exact knd.keeps (are x kx) at1 dat (Heap.SameBut.update ..)
      · simp only [List.mem_singleton] at kx
        subst kx
        exact knd.keeps iskey at1 dat (Heap.SameBut.update ..)
    · rw [List.map_append, List.nodup_append]
      refine ⟨uniq, by simp, ?_⟩
      intro x kx y ky
      simp only [List.map_cons, List.map_nil, List.mem_singleton] at ky
      subst ky
      exact fun e => fresh1 (e ▸ kx)
  · intro j p atj
    refine wpAny_bind (wpAny_dictEntries (s := { s with toks := s.toks + knd.draws k }) at1 dat ?_)
    rw [entry_at eqs j, atj]
    exact wpAny_bind (wpAny_rule (wpAny_pure (h1 p (atKey_of_get uniq atj))))
theorem meetsH_setdefault (knd : HeapKind prog w K) (d a : Addr) (dat : (d == sysModules) = false) (dflt : Value) :
    MeetsIn prog w (Builtin.«dict.setdefault» ⟨[.ref d, .ref a, dflt], []⟩) (fun A R s => knd.room A.in1 ∧ ∃ k xs, knd.is s.heap k a ∧ s.heap.DictOfH knd d xs ∧ xs.length ≤ sizeLine ∧
      (∀ p, atKey xs k = some p → R (.ok (.ret p.2)) { s with toks := s.toks + knd.draws k }) ∧
      (atKey xs k = none → ∀ h', h'.DictOfH knd d (xs ++ [(k, a, dflt)]) → Heap.SameBut d s.heap h' → R (.ok (.ret dflt)) { s with heap := h', toks := s.toks + knd.draws k })) :=
  .of_wp fun A R s ⟨room1, k, xs, iskey, tab, zz, h1, h2⟩ => by
    unfold Builtin.«dict.setdefault»
    refine wpAny_bind ?_
    unfold Builtin.Dict.keyAndDefault
    refine wpAny_bind (wpAny_notOrdered_dict tab.typeIs ?_)
    show wpAny _ _ (pure (d, Value.ref a, some dflt)) _ _ s
    refine wpAny_pure ?_
    show wpAny _ _ (if (d == sysModules) = true then _ else (dictSetDefault d (.ref a) dflt >>= _)) _ _ s
    rw [if_neg (by rw [dat]; exact Bool.false_ne_true)]
    exact wpAny_bind (setDefault_heap room1 iskey tab (fun p hp1 => wpAny_pure ⟨p.2, rfl, h1 p hp1⟩) (fun uniq h' tab' sb' => wpAny_pure ⟨dflt, rfl, h2 uniq h' tab' sb'⟩) zz)
end
end PySem
end
section
set_option linter.all false
set_option maxRecDepth 100000
namespace PySem.SeqAt
open AutoSeq1 (wpAny_loadPart')
open MeetsSeq MeetsSeq2 MeetsSeq3 SeqRoads2
def LtAt (A : Around) (s : Shared) (y x : Value) (b : Bool) : Prop :=
  ∀ (prog : Program) (w : World) (E : Value → Shared → Prop) (Q : Value → Shared → Prop), Q (.bool b) s → wpAny (model prog w) A (richCompare .Lt y x) Q E s
def ltBy (e b : Nat → Bool) : Nat → Nat → Bool
  | 0, _ => false
  | k + 1, i => if e i = true then ltBy e b k (i + 1) else b i
theorem lt_loopAt (l b : Addr) (its jts : Array Value) (n n2 : Nat) (dd dd2 : Option Addr) (sl sl2 : Array (Option Value)) (eqsz : its.size = jts.size) (e f : Nat → Bool) (k : Nat) :
    ∀ i : Nat, its.size - i = k → Meets (Builtin.«list.__eq__.loop» ⟨[.ref l, .ref b, rawInt i, rawInt 0], []⟩)
      (fun A R s => s.heap.get? l = some { cls := .type "list", dict := dd, data := .seq its n, slots := sl } ∧ s.heap.get? b = some { cls := .type "list", dict := dd2, data := .seq jts n2, slots := sl2 } ∧
        (∀ j (h1 : j < its.size) (h2 : j < jts.size), EqAt A.in1 s its[j] jts[j] (e j)) ∧ (∀ j (h1 : j < its.size) (h2 : j < jts.size), LtAt A.in1 s its[j] jts[j] (f j)) ∧
        R (.ok (.ret (.bool (ltBy e f (its.size - i) i)))) s) := by
  induction k with
  | zero =>
    intro i kk prog w A R s h
    obtain ⟨hp1, g, d, tk, os⟩ := s; obtain ⟨la, lb, eqs, lts, h⟩ := h
    wp_walk using wpAny_loadPart' la, wpAny_loadPart' lb
    have i1 : its[((i : Nat) : Int).toNat]? = none := by simp; omega
    have i2 : jts[((i : Nat) : Int).toNat]? = none := by simp; omega
    rw [kk] at h
    rw [i1, i2]
    wp_walk using wpAny_loadPart' la, wpAny_loadPart' lb
    show R (.ok (.ret (.bool (decide (its.size < jts.size))))) _
    rw [eqsz]
    simpa [ltBy] using h
  | succ k ih =>
    intro i kk prog w A R s h
    obtain ⟨hp1, g, d, tk, os⟩ := s; obtain ⟨la, lb, eqs, lts, h⟩ := h
    wp_walk using wpAny_loadPart' la, wpAny_loadPart' lb
    have less1 : i < its.size := by omega
    have less2 : i < jts.size := by omega
    have i1 : its[((i : Nat) : Int).toNat]? = some its[i] := by simp [less1]
    have i2 : jts[((i : Nat) : Int).toNat]? = some jts[i] := by simp [less2]
    have cl1 : ((i : Int) + 1) = ((i + 1 : Nat) : Int) := by push_cast; rfl
    rw [kk] at h
    unfold ltBy at h
    rw [i1, i2]
    refine wpAny_bind (eqs i less1 less2 prog w _ _ ?_)
    cases lb' : e i with
    | true =>
      rw [lb', if_pos rfl] at h
      wp_walk
      rw [cl1]
      exact ⟨plainId_quiet plain_eq_loop _, codeAny_builtin entry_eq_loop (by
        rw [Around.under_plainId plain_eq_loop _]
        exact ih (i + 1) (by omega) prog w A R _ ⟨la, lb, eqs, lts, by rw [show its.size - (i + 1) = k by omega]; exact h⟩)⟩
    | false =>
      rw [lb', if_neg Bool.false_ne_true] at h
      wp_walk using wpAny_loadPart' la, wpAny_loadPart' lb
      rw [i1, i2]
      have cmp1 := lts i less1 less2 prog w
      wp_walk using cmp1
      simpa using h
theorem list_ltAt (l b : Addr) (its jts : Array Value) (n n2 : Nat) (dd dd2 : Option Addr) (sl sl2 : Array (Option Value)) (eqsz : its.size = jts.size) (e f : Nat → Bool) :
    Meets (Builtin.«list.__lt__» ⟨[.ref l, .ref b], []⟩)
      (fun A R s => s.heap.get? l = some { cls := .type "list", dict := dd, data := .seq its n, slots := sl } ∧ s.heap.get? b = some { cls := .type "list", dict := dd2, data := .seq jts n2, slots := sl2 } ∧
        (∀ j (h1 : j < its.size) (h2 : j < jts.size), EqAt A.in1 s its[j] jts[j] (e j)) ∧ (∀ j (h1 : j < its.size) (h2 : j < jts.size), LtAt A.in1 s its[j] jts[j] (f j)) ∧
        R (.ok (.ret (.bool (ltBy e f its.size 0)))) s) := by
  intro prog w A R s h
  obtain ⟨hp1, g, d, tk, os⟩ := s; obtain ⟨la, lb, eqs, lts, h⟩ := h
  have f3 := AutoSeq1.sub_list_list
  wp_walk using wpAny_loadPart' la, wpAny_loadPart' lb
  exact ⟨plainId_quiet plain_eq_loop _, codeAny_builtin entry_eq_loop (by
    rw [Around.under_plainId plain_eq_loop _]
    exact lt_loopAt l b its jts n n2 dd dd2 sl sl2 eqsz e f _ 0 rfl prog w A R _ ⟨la, lb, eqs, lts, h⟩)⟩
section
variable {A : Around} {s : Shared}
theorem LtAt.lists {l b : Addr} {its jts : Array Value} {e f : Nat → Bool} (la : s.heap.IsList l its) (lb : s.heap.IsList b jts) (eqsz : its.size = jts.size) (room1 : A.units < cLine)
    (eqs : ∀ j (h1 : j < its.size) (h2 : j < jts.size), EqAt A.in1 s its[j] jts[j] (e j)) (lts : ∀ j (h1 : j < its.size) (h2 : j < jts.size), LtAt A.in1 s its[j] jts[j] (f j)) : LtAt A s (.ref l) (.ref b) (ltBy e f its.size 0) := fun prog w E Q h => by
  obtain ⟨⟨cls, dd, data, sl⟩, at1, cl1, n, dat⟩ := id la
  obtain ⟨⟨cls2, dd2, data2, sl2⟩, at2, cl2, n2, dat2⟩ := id lb
  simp only at cl1 dat cl2 dat2
  subst cl1 dat cl2 dat2
  exact richCompare_meets_room (op := .Lt) ⟨_, at1, rfl⟩ ⟨_, at2, rfl⟩ F.slot_list_lt F.entry_list_lt (F.args_list_lt_2 _ _) (list_ltAt l b its jts n n2 dd dd2 sl sl2 eqsz e f)
    ⟨at1, at2, eqs, lts, show Value.bool (ltBy e f its.size 0) ≠ Value.notImplemented ∧ Q (.bool (ltBy e f its.size 0)) s from ⟨(fun x => nomatch x), h⟩⟩ room1
inductive LtAll (A : Around) (s : Shared) : List Value → List Value → List (Bool × Bool) → Prop
  | nil : LtAll A s [] [] []
  | cons {x y : Value} {xs ys : List Value} {e b : Bool} {fl : List (Bool × Bool)} : EqAt A s x y e → (e = false → LtAt A s x y b) → LtAll A s xs ys fl → LtAll A s (x :: xs) (y :: ys) ((e, b) :: fl)
def ltRes : List (Bool × Bool) → Bool
  | [] => false
  | (e, b) :: fl => if e = true then ltRes fl else b
theorem tuple_ltAt (l b : Addr) (its jts : Array Value) (n n2 : Nat) (dd dd2 : Option Addr) (sl sl2 : Array (Option Value)) (fl : List (Bool × Bool)) (zz : its.size = jts.size) :
    Meets (Builtin.«tuple.__lt__» ⟨[.ref l, .ref b], []⟩)
      (fun A R s => s.heap.get? l = some { cls := .type "tuple", dict := dd, data := .seq its n, slots := sl } ∧ s.heap.get? b = some { cls := .type "tuple", dict := dd2, data := .seq jts n2, slots := sl2 } ∧ LtAll A.in1 s its.toList jts.toList fl ∧
        R (.ok (.ret (.bool (ltRes fl)))) s) :=
  .of_wp fun prog w A R s h => by
    obtain ⟨hp1, g, d, tk, os⟩ := s; obtain ⟨la, lb, ha, h⟩ := h
    have f2 := AutoSeq1.sub_tuple_tuple
    wp_walk using wpAny_loadPart' la, wpAny_loadPart' lb, wpAny_forIn_list _ (fun rest b s' => b.1 = none ∧ s' = ⟨hp1, g, d, tk, os⟩ ∧ ∃ (vs ws : List Value) (fl' : List (Bool × Bool)), rest = vs.zip ws ∧
      LtAll A.in1 ⟨hp1, g, d, tk, os⟩ vs ws fl' ∧ R (.ok (.ret (.bool (ltRes fl')))) ⟨hp1, g, d, tk, os⟩) _
    case turn =>
      rintro ⟨y, x⟩ rest b s' ⟨lb', rfl, vs, ws, fl', zz', va, good⟩
      cases va with
      | nil => rw [List.zip_nil_left] at zz'; cases zz'
      | @cons x' y' xs' ys' e bb fl'' eqs less1 va' =>
        rw [List.zip_cons_cons] at zz'
        injection zz' with hyx rest1
        injection hyx with ky kx
        subst ky kx
        unfold ltRes at good
        refine wpAny_bind (eqs prog w _ _ ?_)
        cases e with
        | true =>
          rw [if_pos rfl] at good
          wp_walk
          exact ⟨rfl, rfl, _, _, _, rest1, va', good⟩
        | false =>
          rw [if_neg Bool.false_ne_true] at good
          have cmp1 := less1 rfl prog w
          wp_walk using cmp1
          exact ⟨_, rfl, by simpa using good⟩
    case fin =>
      rintro ⟨b1, b2⟩ s' ⟨lb', rfl, vs, ws, fl', zz', va, good⟩
      simp only at lb'
      subst lb'
      cases va with
      | nil =>
        wp_walk
        refine ⟨_, rfl, ?_⟩
        show R (.ok (.ret (.bool (decide (its.size < jts.size))))) _
        rw [zz]
        simpa [ltRes] using good
      | cons _ _ _ => rw [List.zip_cons_cons] at zz'; cases zz'
    case h => exact ⟨rfl, rfl, its.toList, jts.toList, fl, rfl, ha, h⟩
theorem LtAt.tuples {l b : Addr} {its jts : Array Value} {fl : List (Bool × Bool)} (la : s.heap.IsTuple l its) (lb : s.heap.IsTuple b jts) (eqsz : its.size = jts.size) (room1 : A.units < cLine)
    (ha : LtAll A.in1 s its.toList jts.toList fl) : LtAt A s (.ref l) (.ref b) (ltRes fl) := fun prog w E Q h => by
  obtain ⟨⟨cls, dd, data, sl⟩, at1, cl1, n, dat⟩ := id la
  obtain ⟨⟨cls2, dd2, data2, sl2⟩, at2, cl2, n2, dat2⟩ := id lb
  simp only at cl1 dat cl2 dat2
  subst cl1 dat cl2 dat2
  exact richCompare_meets_room (op := .Lt) ⟨_, at1, rfl⟩ ⟨_, at2, rfl⟩ F.slot_tuple_lt F.entry_tuple_lt (F.args_tuple_lt_2 _ _) (tuple_ltAt l b its jts n n2 dd dd2 sl sl2 fl eqsz)
    ⟨at1, at2, ha, show Value.bool (ltRes fl) ≠ Value.notImplemented ∧ Q (.bool (ltRes fl)) s from ⟨(fun x => nomatch x), h⟩⟩ room1
end
end PySem.SeqAt
end
section
set_option Elab.async false
set_option linter.all false
set_option maxRecDepth 100000
namespace L2
open PySem PySem.Spec PyProof.Rows
section
variable {X : Cx}
theorem pe_const {x : Str} {i : Int} {pos : Pos} (h : ∃ t, X.mg x = some (Value.int i t)) (hg : Gl X x := by rfl) (hd : (x == ("__debug__" : Str)) = false := by decide) : PE X (.Name x pos) (tC (.int i)) := by
  obtain ⟨t, h⟩ := h
  exact pe_glob hg h ⟨t, rfl⟩ hd
end
theorem bt_len : bootBuiltins "len" = some (.builtin "len") := by decide +kernel
theorem bt_sum : bootBuiltins "sum" = some (.builtin "sum") := by decide +kernel
theorem bt_all : bootBuiltins "all" = some (.builtin "all") := by decide +kernel
theorem bt_any : bootBuiltins "any" = some (.builtin "any") := by decide +kernel
theorem bt_max : bootBuiltins "max" = some (.builtin "max") := by decide +kernel
theorem bt_min : bootBuiltins "min" = some (.builtin "min") := by decide +kernel
theorem bt_abs : bootBuiltins "abs" = some (.builtin "abs") := by decide +kernel
theorem bt_list : bootBuiltins "list" = some (.type "list") := by decide +kernel
def blkB (N : List Str) (sc scope : Scope) (own : List (Str × Nat)) : Bool :=
  decide (scope.kind = .function) && (scope.names.all (fun y => decide (scope.names.lookup y.1 = some y.2)) && (own.all (fun p => decide (N[p.2]? = some p.1)) &&
    (scope.names.all (fun y => decide (y.2 = .free → sc.names.lookup y.1 = some .cell ∨ sc.names.lookup y.1 = some .free)) &&
      scope.names.all (fun y => decide (y.2 = .local ∨ y.2 = .cell → y.1 ∈ own.map (·.1) ∨ y.1 ∉ N)))))
theorem blk_of {N : List Str} {sc scope : Scope} {own : List (Str × Nat)} (h : blkB N sc scope own = true) : BlkOk N sc scope own := by
  unfold blkB at h
  rw [Bool.and_eq_true, Bool.and_eq_true, Bool.and_eq_true, Bool.and_eq_true] at h
  obtain ⟨h1, h2, h3, h4, h5⟩ := h
  exact ⟨of_decide_eq_true h1, fun y hy => of_decide_eq_true (List.all_eq_true.mp h2 y hy), fun p hp => of_decide_eq_true (List.all_eq_true.mp h3 p hp),
    fun y hy => of_decide_eq_true (List.all_eq_true.mp h4 y hy), fun y hy => of_decide_eq_true (List.all_eq_true.mp h5 y hy)⟩
def Callee (P : Program) (w : World) (K : PySem.W.Frag) (mg : Str → Option Value) (base : Heap) (k : Nat) (x : Str) (ps : List Str) (sp : Sp) : Prop :=
  ∃ f fd, FnOk P w K mg base CX0 k f fd ps sp ∧ mg x = some (.ref f) ∧ PySem.W.keepIn K (.ref f) = true ∧ Binds K fd ps []
def MCallee (P : Program) (w : World) (K : PySem.W.Frag) (mg : Str → Option Value) (base : Heap) (k : Nat) (C : Addr) (m : Str) (ps : List Str) (sp : Sp) : Prop :=
  ∃ f fd, FnOk P w K mg base CX0 k f fd ps sp ∧ Meth K C m f ∧ Binds K fd ps []
def KCallee (P : Program) (w : World) (K : PySem.W.Frag) (mg : Str → Option Value) (base : Heap) (k : Nat) (x : Str) (C : Addr) (ps : List Str) (sp : Sp) : Prop :=
  ∃ f fd, FnOk P w K mg base CX0 k f fd ps sp ∧ Mk K C f ∧ mg x = some (.ref C) ∧ Binds K fd ps []
section
variable {X : Cx} {k : Nat} {C : Addr} {ps : List Str} {sp : Sp} {x m : Str} {p pos apos : Pos} {e o : Expr} {es : List Expr} {ta : TE} {t : TA}
theorem pe_fn (c : Callee X.prog X.w X.K X.mg X.base k x ps sp) (hr : Room k X.A) (ha : PA X (e :: es) t) (hg : Gl X x := by rfl) (hdb : (x == ("__debug__" : Str)) = false := by decide)
    (he : starEach (e :: es) X.env = (false, eval e X.env) :: starEach es X.env := by rfl) (hpl : (backTo pos (starEach es X.env)).any (·.1) = false := by rfl) : PE X (.Call (.Name x p) (e :: es) [] pos) (tCall sp [] E0 t) := by
  obtain ⟨f, fd, F, hm, hk, hb⟩ := c
  exact pe_call F hr hg hm hk hb .nil pass0 ha hdb he hpl
theorem pe_fn0 (c : Callee X.prog X.w X.K X.mg X.base k x ps sp) (hr : Room k X.A) (hg : Gl X x := by rfl) (hdb : (x == ("__debug__" : Str)) = false := by decide) : PE X (.Call (.Name x p) [] [] pos) (tCall sp [] E0 tNil) := by
  obtain ⟨f, fd, F, hm, hk, hb⟩ := c
  exact pe_call0 F hr hg hm hk hb .nil pass0 hdb
theorem pe_mk (c : KCallee X.prog X.w X.K X.mg X.base k x C ps sp) (hr : Room (k + 1) X.A) (ha : PA X (e :: es) t) (hg : Gl X x := by rfl) (hdb : (x == ("__debug__" : Str)) = false := by decide)
    (he : starEach (e :: es) X.env = (false, eval e X.env) :: starEach es X.env := by rfl) (hpl : (backTo pos (starEach es X.env)).any (·.1) = false := by rfl) : PE X (.Call (.Name x p) (e :: es) [] pos) (tMake C sp [] E0 t) := by
  obtain ⟨f, fd, F, M, hm, hb⟩ := c
  exact pe_make M F hr hg hm hb .nil pass0 ha hdb he hpl
theorem pe_mk0 (c : KCallee X.prog X.w X.K X.mg X.base k x C ps sp) (hr : Room (k + 1) X.A) (hg : Gl X x := by rfl) (hdb : (x == ("__debug__" : Str)) = false := by decide) : PE X (.Call (.Name x p) [] [] pos) (tMake C sp [] E0 tNil) := by
  obtain ⟨f, fd, F, M, hm, hb⟩ := c
  exact pe_make0 M F hr hg hm hb .nil pass0 hdb
theorem pe_mt {pl : Sem Bool} (cl : Cls X.K C) (c : MCallee X.prog X.w X.K X.mg X.base k C m ps sp) (hr : Room k X.A) (he : PE X o ta) (ha : PA X (e :: es) t)
    (hst : starEach (e :: es) X.env = (false, eval e X.env) :: starEach es X.env := by rfl) (hpl : (backTo pos (starEach es X.env)).any (·.1) = false := by rfl)
    (ht : eval (.Call (.Attribute o m apos) (e :: es) [] pos) X.env = (do
      let ov ← eval o X.env
      standAt apos.atName
      let (f, first) ← holding [ov] (getMethod ov m pl)
      callWith pos f first (backTo pos (starEach (e :: es) X.env)) (backToKw pos (keywordEach [] X.env))) := by rfl) :
    PE X (.Call (.Attribute o m apos) (e :: es) [] pos) (tMeth C m sp [] E0 ta t) := by
  obtain ⟨f, fd, F, hm, hb⟩ := c
  exact pe_meth (pl := pl) he cl hm F hr hb .nil pass0 ha hst hpl ht
theorem pe_mt0 {pl : Sem Bool} (cl : Cls X.K C) (c : MCallee X.prog X.w X.K X.mg X.base k C m ps sp) (hr : Room k X.A) (he : PE X o ta)
    (ht : eval (.Call (.Attribute o m apos) [] [] pos) X.env = (do
      let ov ← eval o X.env
      standAt apos.atName
      let (f, first) ← holding [ov] (getMethod ov m pl)
      callWith pos f first (backTo pos (starEach [] X.env)) (backToKw pos (keywordEach [] X.env))) := by rfl) :
    PE X (.Call (.Attribute o m apos) [] [] pos) (tMeth C m sp [] E0 ta tNil) := by
  obtain ⟨f, fd, F, hm, hb⟩ := c
  exact pe_meth0 (pl := pl) he cl hm F hr hb .nil pass0 ht
end
section
variable {X : Cx}
theorem count_eqU {x : V} : ∀ {xs : List V} {us : List Value}, Vals xs us → xs.all flatV = true → us.countP (eqU x) = xs.countP fun y => eqV y x
  | _, _, .nil, _ => rfl
  | y :: xs, u :: us, .cons r t, f => by
    rw [List.all_cons, Bool.and_eq_true] at f
    rw [List.countP_cons, List.countP_cons, eqU_of r f.1, count_eqU t f.2]
def rCount (K : PySem.W.Frag) : V → List V → Hp → VK → Prop := fun x xs H Q => ∃ (a : Addr) (ys : List V) (y : V), x = V.ref a ∧ xs = [y] ∧ SqL K H a ys ∧ flatV y = true ∧ ys.all flatV = true ∧ Q (.int ((ys.countP fun z => eqV z y : Nat) : Int)) H
theorem mt_lcount : MtR X "list.count" (rCount X.K) := by
  intro pins s σ H x xs v us Q I rx rxs h
  obtain ⟨a, ys, y, rfl, rfl, hs, fy, fys, q⟩ := h
  cases rx
  cases rxs with
  | cons ry rt =>
    rename_i uy ut
    cases rt
    obtain ⟨its, rv, ⟨⟨cls, dd, data, sl⟩, n, ho, hc, hdn, hd⟩, hlen⟩ := I.list hs
    simp only at hc hd
    subst hc hd
    refine call_meets PySem.F.slot_list_count ⟨_, ho, rfl⟩ PySem.F.entry_list_count (PySem.F.args_list_count_2 _ _)
      (SeqAt.list_countAt a its.toArray n dd sl uy (eqU y)) ⟨ho, fun u' hu' => mem_eqAt ry fy rv fys u' (by simpa using hu'), ?_⟩
    have e : its.toArray.toList.countP (eqU y) = ys.countP fun z => eqV z y := by
      show its.countP (eqU y) = _
      exact count_eqU rv fys
    rw [e]
    exact ⟨.int _, H, I.tok _, ⟨_, rfl⟩, q⟩
end
abbrev rAddI : R2 := rI0 fun i j => .int (i + j)
abbrev rSubI : R2 := rI0 fun i j => .int (i - j)
abbrev rMulI : R2 := rI CMul fun i j => .int (i * j)
abbrev rLtI : R2 := rI0 fun i j => .bl (decide (i < j))
abbrev rLeI : R2 := rI0 fun i j => .bl (decide (i ≤ j))
abbrev rGtI : R2 := rI0 fun i j => .bl (decide (j < i))
abbrev rGeI : R2 := rI0 fun i j => .bl (decide (j ≤ i))
def rLen (K : PySem.W.Frag) : List V → Hp → VK → Prop := fun xs H Q => ∃ p ys, xs = [V.ref p] ∧ (SqL K H p ys ∨ SqT K H p ys) ∧ Q (.int ys.length) H
def rMaxI : List V → Hp → VK → Prop := fun xs H Q => ∃ i j : Int, xs = [.int i, .int j] ∧ Q (.int (if j > i then j else i)) H
def rMinI : List V → Hp → VK → Prop := fun xs H Q => ∃ i j : Int, xs = [.int i, .int j] ∧ Q (.int (if j < i then j else i)) H
section
variable {X : Cx}
theorem o_add : OpR X (binaryOp .Add) rAddI := op_add
theorem o_sub : OpR X (binaryOp .Sub) rSubI := op_sub
theorem o_mul : OpR X (binaryOp .Mult) rMulI := op_mul
theorem o_lt : OpR X (compareOp .Lt) rLtI := op_lt
theorem o_le : OpR X (compareOp .LtE) rLeI := op_le
theorem o_gt : OpR X (compareOp .Gt) rGtI := op_gt
theorem o_ge : OpR X (compareOp .GtE) rGeI := op_ge
theorem cr_len : CallR X (.builtin "len") (rLen X.K) := call_len_seq
theorem cr_max2 (hc : X.calm = true) : CallR X (.builtin "max") rMaxI := call_max2 hc
theorem cr_min2 (hc : X.calm = true) : CallR X (.builtin "min") rMinI := call_min2 hc
end
theorem Same.upd {H : Hp} {p : Addr} {o : HO} (h : H p = none) : Same H (upd H p o) := fun b u e => by
  rw [upd_ne (ne_of_none e h)]
  exact e
theorem Same.upd_r {H H' : Hp} {p : Addr} {o : HO} (s : Same H H') (h : H p = none) : Same H (L2.upd H' p o) := fun b u e => by
  rw [upd_ne (ne_of_none e h)]
  exact s b u e
def del (H : Hp) (D : Addr) : Hp := fun b => if b = D then none else H b
theorem del_ne {H : Hp} {D b : Addr} (h : b ≠ D) : del H D b = H b := by unfold del; rw [if_neg h]
theorem del_self {H : Hp} {D : Addr} : del H D D = none := by unfold del; rw [if_pos rfl]
theorem del_upd {H : Hp} {D : Addr} {o : HO} : del (upd H D o) D = del H D := by
  funext b
  unfold del upd
  split <;> rfl
theorem Same.del {H H' : Hp} (s : Same H H') (D : Addr) : Same (del H D) (L2.del H' D) := fun b u e => by
  by_cases h : b = D
  · subst h; rw [del_self] at e; cases e
  · rw [del_ne h] at e ⊢; exact s b u e
theorem Same.of_del {H : Hp} {D : Addr} : Same (L2.del H D) H := fun b u e => by
  by_cases h : b = D
  · subst h; rw [del_self] at e; cases e
  · rw [del_ne h] at e; exact e
theorem Same.to_del {H H' : Hp} {D : Addr} (s : Same H H') (h : H D = none) : Same H (L2.del H' D) := fun b u e => by
  rw [del_ne (ne_of_none e h)]
  exact s b u e
theorem yes_eq {σ : St} {H : Hp} {A B : Hp → Prop} : (tYes σ H fun b H3 => if b = true then A H3 else B H3) = A H := by
  show (if true = true then A H else B H) = A H
  exact if_pos rfl
theorem cm_gen {J : It} {n : Nat} {Y : Nat → V → Hp → Prop} {g : TG} {te : TE} {vs : List Nat} {σ : St} {H : Hp} {D : Addr} {Qd : Hp → Prop} (hD : H D = none)
    (hgo : ∀ i H', i < n → Same H H' → J.go i H') (hstop : ∀ H', Same H H' → J.stop n H') (hyld : ∀ i H' x H'', i < n → Same H H' → J.yld i H' x H'' → Same H' H'' ∧ Y i x H'') (hz : n ≤ sizeLine)
    (R : Nat → V → Hp → Prop) (mono : ∀ i y G G', Same G G' → R i y G → R i y G')
    (turn : ∀ i x H', i < n → Y i x H' → Same H H' → (∃ o, H' D = some o) → ∀ N : VK, (∀ y H4, Same H' H4 → R i y (del H4 D) → N y H4) → g x (wipe σ vs) H' fun σ2 H2 => wipe σ2 vs = wipe σ vs ∧ te σ2 H2 N)
    (fin : ∀ ys H', H' D = some (.lst ys) → ys.length = n → Same H H' → (∀ i y, ys[i]? = some y → R i y (del H' D)) → Qd H') :
    ∃ W : Nat → Nat → Hp → Prop, (∃ m, W 0 m (upd H D (.lst []))) ∧ ∀ i m H, W i m H →
      (J.stop i H ∧ Qd H) ∨ (J.go i H ∧ ∃ Nx : Hp → Prop, (∀ H', Nx H' → ∃ m', m' < m ∧ W (i + 1) m' H') ∧ ∀ x H', J.yld i H x H' → g x (wipe σ vs) H' fun σ2 H2 => wipe σ2 vs = wipe σ vs ∧ tYes σ2 H2 fun b H3 =>
        if b = true then te σ2 H3 fun y H4 => ∃ acc, H4 D = some (.lst acc) ∧ acc.length < sizeLine ∧ Nx (upd H4 D (.lst (acc ++ [y]))) else Nx H3) := by
  refine ⟨fun i m H' => m = n - i ∧ i ≤ n ∧ ∃ acc, H' D = some (.lst acc) ∧ acc.length = i ∧ Same H H' ∧ ∀ (j : Nat) (y : V), acc[j]? = some y → R j y (del H' D), ⟨n, by simp, Nat.zero_le _, [], upd_same, rfl, Same.upd hD, fun j y e => by simp at e⟩, ?_⟩
  rintro i m H' ⟨rfl, hi, acc, hacc, hlen, hs, hR⟩
  by_cases hlt : i < n
  · obtain ⟨Nx, eN⟩ : ∃ Nx : Hp → Prop, Nx = fun H'' => i + 1 ≤ n ∧ ∃ acc, H'' D = some (.lst acc) ∧ acc.length = i + 1 ∧ Same H H'' ∧ ∀ (j : Nat) (y : V), acc[j]? = some y → R j y (del H'' D) := ⟨_, rfl⟩
    refine .inr ⟨hgo i H' hlt hs, Nx, fun H'' h => by rw [eN] at h; exact ⟨n - (i + 1), by omega, rfl, h.1, h.2⟩, fun x H2 hy => ?_⟩
    obtain ⟨hs2, hY⟩ := hyld i H' x H2 hlt hs hy
    have hD2 : H2 D = some (.lst acc) := hs2 _ _ hacc
    have key := turn i x H2 hlt hY (hs.trans hs2) ⟨_, hD2⟩ (fun y H4 => ∃ acc, H4 D = some (.lst acc) ∧ acc.length < sizeLine ∧ Nx (upd H4 D (.lst (acc ++ [y])))) (fun y H4 hs4 hRy => ?_)
    · have e : (fun σ2 H2 => wipe σ2 vs = wipe σ vs ∧ tYes σ2 H2 fun b H3 => if b = true then te σ2 H3 (fun y H4 => ∃ acc, H4 D = some (.lst acc) ∧ acc.length < sizeLine ∧ Nx (upd H4 D (.lst (acc ++ [y])))) else Nx H3)
          = (fun σ2 H2 => wipe σ2 vs = wipe σ vs ∧ te σ2 H2 (fun y H4 => ∃ acc, H4 D = some (.lst acc) ∧ acc.length < sizeLine ∧ Nx (upd H4 D (.lst (acc ++ [y]))))) := by
        funext σ2 H2
        exact congrArg (fun z => wipe σ2 vs = wipe σ vs ∧ z) (yes_eq (A := fun H3 => te σ2 H3 _))
      rw [← e] at key
      exact key
    · have h4 : H4 D = some (.lst acc) := hs4 _ _ hD2
      refine ⟨acc, h4, by omega, ?_⟩
      rw [eN]
      refine ⟨hlt, acc ++ [y], upd_same, by rw [List.length_append, hlen]; rfl, ((hs.trans hs2).trans hs4).upd_r hD, fun j y' e => ?_⟩
      rw [del_upd]
      by_cases hj : j < acc.length
      · rw [List.getElem?_append_left hj] at e
        exact mono j y' _ _ ((hs2.trans hs4).del D) (hR j y' e)
      · rw [List.getElem?_append_right (by omega)] at e
        have hj0 : j - acc.length = 0 := by
          rcases Nat.eq_zero_or_pos (j - acc.length) with z | z
          · exact z
          · rw [List.getElem?_eq_none (by simp; omega)] at e; cases e
        rw [hj0] at e
        have ey : y = y' := Option.some.inj e
        subst ey
        have : j = i := by omega
        subst this
        exact hRy
  · have e : i = n := by omega
    subst e
    exact .inl ⟨hstop H' hs, fin acc H' hacc hlen hs hR⟩
theorem cm_list {K : PySem.W.Frag} {a : Addr} {xs : List V} {g : TG} {te : TE} {vs : List Nat} {σ : St} {H : Hp} {D : Addr} {Qd : Hp → Prop} (hD : H D = none) (hl : SqL K H a xs) (hz : xs.length ≤ sizeLine)
    (R : Nat → V → Hp → Prop) (mono : ∀ i y G G', Same G G' → R i y G → R i y G')
    (turn : ∀ (i : Nat) (x : V) H', xs[i]? = some x → Same H H' → (∃ o, H' D = some o) → ∀ N : VK, (∀ y H4, Same H' H4 → R i y (del H4 D) → N y H4) → g x (wipe σ vs) H' fun σ2 H2 => wipe σ2 vs = wipe σ vs ∧ te σ2 H2 N)
    (fin : ∀ ys H', H' D = some (.lst ys) → ys.length = xs.length → Same H H' → (∀ (i : Nat) (y : V), ys[i]? = some y → R i y (del H' D)) → Qd H') :
    ∃ W : Nat → Nat → Hp → Prop, (∃ m, W 0 m (upd H D (.lst []))) ∧ ∀ i m H, W i m H →
      ((Itl K a).stop i H ∧ Qd H) ∨ ((Itl K a).go i H ∧ ∃ Nx : Hp → Prop, (∀ H', Nx H' → ∃ m', m' < m ∧ W (i + 1) m' H') ∧ ∀ x H', (Itl K a).yld i H x H' → g x (wipe σ vs) H' fun σ2 H2 => wipe σ2 vs = wipe σ vs ∧ tYes σ2 H2 fun b H3 =>
        if b = true then te σ2 H3 fun y H4 => ∃ acc, H4 D = some (.lst acc) ∧ acc.length < sizeLine ∧ Nx (upd H4 D (.lst (acc ++ [y]))) else Nx H3) :=
  cm_gen (n := xs.length) (Y := fun i x _ => xs[i]? = some x) hD (fun i H' hi hs => ⟨xs, xs[i], hs.seq hl, by simp [hi]⟩) (fun H' hs => ⟨xs, hs.seq hl, Nat.le_refl _⟩)
    (fun i H' x H'' hi hs hy => by
      obtain ⟨e, hy⟩ := hy
      subst e
      exact ⟨Same.refl _, hy xs (hs.seq hl)⟩) hz R mono (fun i x H' _ hx => turn i x H' hx) fin
theorem cm_enum {K : PySem.W.Frag} {a : Addr} {xs : List V} {g : TG} {te : TE} {vs : List Nat} {σ : St} {H : Hp} {D : Addr} {Qd : Hp → Prop} (hD : H D = none) (hl : SqL K H a xs) (hz : xs.length ≤ sizeLine)
    (R : Nat → V → Hp → Prop) (mono : ∀ i y G G', Same G G' → R i y G → R i y G')
    (turn : ∀ (i : Nat) (x : V) T H', xs[i]? = some x → H' T = some (.tup [.int (i : Nat), x]) → Same H H' → (∃ o, H' D = some o) → ∀ N : VK, (∀ y H4, Same H' H4 → R i y (del H4 D) → N y H4) → g (.ref T) (wipe σ vs) H' fun σ2 H2 => wipe σ2 vs = wipe σ vs ∧ te σ2 H2 N)
    (fin : ∀ ys H', H' D = some (.lst ys) → ys.length = xs.length → Same H H' → (∀ (i : Nat) (y : V), ys[i]? = some y → R i y (del H' D)) → Qd H') :
    ∃ W : Nat → Nat → Hp → Prop, (∃ m, W 0 m (upd H D (.lst []))) ∧ ∀ i m H, W i m H →
      ((Ite K a).stop i H ∧ Qd H) ∨ ((Ite K a).go i H ∧ ∃ Nx : Hp → Prop, (∀ H', Nx H' → ∃ m', m' < m ∧ W (i + 1) m' H') ∧ ∀ x H', (Ite K a).yld i H x H' → g x (wipe σ vs) H' fun σ2 H2 => wipe σ2 vs = wipe σ vs ∧ tYes σ2 H2 fun b H3 =>
        if b = true then te σ2 H3 fun y H4 => ∃ acc, H4 D = some (.lst acc) ∧ acc.length < sizeLine ∧ Nx (upd H4 D (.lst (acc ++ [y]))) else Nx H3) :=
  cm_gen (n := xs.length) (Y := fun i v H' => ∃ T x, v = .ref T ∧ xs[i]? = some x ∧ H' T = some (.tup [.int (i : Nat), x])) hD (fun i H' hi hs => ⟨xs, xs[i], hs.seq hl, by simp [hi]⟩) (fun H' hs => ⟨xs, hs.seq hl, Nat.le_refl _⟩)
    (fun i H' x H'' hi hs hy => by
      obtain ⟨T, y, e, hT, e2, hy⟩ := hy
      subst e e2
      exact ⟨Same.upd hT, T, y, rfl, hy xs (hs.seq hl), upd_same⟩) hz R mono (fun i v H' _ ⟨T, x, e, hx, hT⟩ => by subst e; exact turn i x T H' hx hT) fin
theorem cm_zip {K : PySem.W.Frag} {a b : Addr} {xs zs : List V} {g : TG} {te : TE} {vs : List Nat} {σ : St} {H : Hp} {D : Addr} {Qd : Hp → Prop} (hD : H D = none) (hl : SqL K H a xs) (hl2 : SqL K H b zs) (hlen : zs.length = xs.length) (hz : xs.length ≤ sizeLine)
    (R : Nat → V → Hp → Prop) (mono : ∀ i y G G', Same G G' → R i y G → R i y G')
    (turn : ∀ (i : Nat) (x z : V) T H', xs[i]? = some x → zs[i]? = some z → H' T = some (.tup [x, z]) → Same H H' → (∃ o, H' D = some o) → ∀ N : VK, (∀ y H4, Same H' H4 → R i y (del H4 D) → N y H4) → g (.ref T) (wipe σ vs) H' fun σ2 H2 => wipe σ2 vs = wipe σ vs ∧ te σ2 H2 N)
    (fin : ∀ ys H', H' D = some (.lst ys) → ys.length = xs.length → Same H H' → (∀ (i : Nat) (y : V), ys[i]? = some y → R i y (del H' D)) → Qd H') :
    ∃ W : Nat → Nat → Hp → Prop, (∃ m, W 0 m (upd H D (.lst []))) ∧ ∀ i m H, W i m H →
      ((Itz K a b).stop i H ∧ Qd H) ∨ ((Itz K a b).go i H ∧ ∃ Nx : Hp → Prop, (∀ H', Nx H' → ∃ m', m' < m ∧ W (i + 1) m' H') ∧ ∀ x H', (Itz K a b).yld i H x H' → g x (wipe σ vs) H' fun σ2 H2 => wipe σ2 vs = wipe σ vs ∧ tYes σ2 H2 fun b H3 =>
        if b = true then te σ2 H3 fun y H4 => ∃ acc, H4 D = some (.lst acc) ∧ acc.length < sizeLine ∧ Nx (upd H4 D (.lst (acc ++ [y]))) else Nx H3) :=
  cm_gen (n := xs.length) (Y := fun i v H' => ∃ T x z, v = .ref T ∧ xs[i]? = some x ∧ zs[i]? = some z ∧ H' T = some (.tup [x, z])) hD (fun i H' hi hs => ⟨xs, zs, xs[i], zs[i]'(by omega), hs.seq hl, hs.seq hl2, by simp [hi], by simp [hlen, hi]⟩) (fun H' hs => ⟨xs, zs, hs.seq hl, hs.seq hl2, .inl (Nat.le_refl _)⟩)
    (fun i H' x H'' hi hs hy => by
      obtain ⟨T, y, z, e, hT, e2, hy, hz⟩ := hy
      subst e e2
      exact ⟨Same.upd hT, T, y, z, rfl, hy xs (hs.seq hl), hz zs (hs.seq hl2), upd_same⟩) hz R mono (fun i v H' _ ⟨T, x, z, e, hx, hz, hT⟩ => by subst e; exact turn i x z T H' hx hz hT) fin
theorem cm_rng {lo c : Int} {n : Nat} {g : TG} {te : TE} {vs : List Nat} {σ : St} {H : Hp} {D : Addr} {Qd : Hp → Prop} (hD : H D = none) (hz : n ≤ sizeLine)
    (R : Nat → V → Hp → Prop) (mono : ∀ i y G G', Same G G' → R i y G → R i y G')
    (turn : ∀ (i : Nat) H', i < n → Same H H' → (∃ o, H' D = some o) → ∀ N : VK, (∀ y H4, Same H' H4 → R i y (del H4 D) → N y H4) → g (.int (lo + (i : Nat) * c)) (wipe σ vs) H' fun σ2 H2 => wipe σ2 vs = wipe σ vs ∧ te σ2 H2 N)
    (fin : ∀ ys H', H' D = some (.lst ys) → ys.length = n → Same H H' → (∀ (i : Nat) (y : V), ys[i]? = some y → R i y (del H' D)) → Qd H') :
    ∃ W : Nat → Nat → Hp → Prop, (∃ m, W 0 m (upd H D (.lst []))) ∧ ∀ i m H, W i m H →
      ((Itc lo c n).stop i H ∧ Qd H) ∨ ((Itc lo c n).go i H ∧ ∃ Nx : Hp → Prop, (∀ H', Nx H' → ∃ m', m' < m ∧ W (i + 1) m' H') ∧ ∀ x H', (Itc lo c n).yld i H x H' → g x (wipe σ vs) H' fun σ2 H2 => wipe σ2 vs = wipe σ vs ∧ tYes σ2 H2 fun b H3 =>
        if b = true then te σ2 H3 fun y H4 => ∃ acc, H4 D = some (.lst acc) ∧ acc.length < sizeLine ∧ Nx (upd H4 D (.lst (acc ++ [y]))) else Nx H3) :=
  cm_gen (n := n) (Y := fun i v _ => v = .int (lo + (i : Nat) * c)) hD (fun i H' hi _ => hi) (fun H' _ => Nat.le_refl _)
    (fun i H' x H'' hi hs hy => by
      obtain ⟨e, e2⟩ := hy
      subst e e2
      exact ⟨Same.refl _, rfl⟩) hz R mono (fun i v H' hi e => by subst e; exact turn i H' hi) fin
end L2
end
section
set_option Elab.async false
set_option linter.all false
set_option maxRecDepth 100000
set_option maxHeartbeats 1000000
namespace L2
open PySem PySem.Spec PyProof.Rows
section
variable {prog : Program} {w : World} {A : Around} {E : Value → Shared → Prop} {s : Shared}
theorem call_vals (d : Addr) (nm : (d == sysModules) = false) :
    MeetsIn prog w (Builtin.«dict.values» ⟨[.ref d], []⟩) (fun _ R s => s.TypeIs (.ref d) "dict" ∧ R (.ok (.ret (.ref s.heap.objs.size))) { s with heap := s.heap.push { cls := .type "dict_values", data := .fields #[.ref d] } }) :=
  .of_wp fun A R s ⟨ty, h⟩ => by
    refine wpAny_bind ?_
    unfold Builtin.Dict.noArgs
    refine wpAny_bind (wpAny_notOrdered_dict ty ?_)
    show wpAny _ _ (pure d) _ _ s; refine wpAny_pure ?_
    show wpAny _ _ (Builtin.Dict.showsAll d >>= _) _ _ s; unfold Builtin.Dict.showsAll
    rw [if_neg (by rw [nm]; exact Bool.false_ne_true)]; refine wpAny_bind (wpAny_pure ?_)
    exact wpAny_bind (wpAny_newObj_type (wpAny_pure ⟨_, rfl, h⟩))
theorem iter_vals {v d : Addr} {od : Obj} {es : Array DictEntry} {ep : Nat} {Q : Value → Shared → Prop} (hv : s.heap.IsValuesView v d) (at1 : s.heap.get? d = some od) (dat : od.data = .dict es ep)
    (hQ : Q (.ref s.heap.objs.size) { s with heap := s.heap.push { cls := .type "dict_valueiterator", data := .fields #[.ref d, .int 0 0, .int es.size 0, .int ep 0] } }) : wpAny (model prog w) A (pyIter (.ref v)) Q E s := by
  obtain ⟨ov, hov, hcv, hdv⟩ := id hv
  refine wpAny_pyIter_slot hv.typeIs F.slot_dict_values_iter (wpAny_call_entry F.slot_dict_values_iter hv.typeIs F.entry_dict_values_iter ?_ (F.args_dict_values_iter_1 _))
  unfold Builtin.«dict_values.__iter__»; refine wpAny_bind (wpAny_pure ?_)
  refine wpAny_bind ?_
  unfold Builtin.Dict_items.dictOf; refine wpAny_bind (wpAny_field hov hdv (x := .ref d) rfl (wpAny_pure ?_))
  refine wpAny_bind ?_
  unfold Builtin.Dict_items.newIterator; refine wpAny_bind (wpAny_dictEntries at1 dat ?_)
  refine wpAny_bind (wpAny_dictEpoch at1 dat ?_)
  have own : Builtin.Dict_items.ownsTuple "dict_valueiterator" = false := by decide
  simp only [own, Bool.false_eq_true, if_false]
  refine wpAny_newObj_type (wpAny_pure ⟨_, rfl, "dict_valueiterator", _, ⟨_, Heap.get?_push_size _ rfl, rfl⟩, F.slot_dict_valueiterator_next.lookup, ?_⟩)
  simpa [rawInt] using hQ
theorem next_val_item {it d : Addr} {i n ep : Nat} {od : Obj} {es : Array DictEntry} {en : DictEntry} {Q : Option Value → Shared → Prop} (hit : s.heap.IsValIter it d i n ep) (hod : s.heap.get? d = some od) (hdd : od.data = .dict es ep)
    (hsz : es.size = n) (hx : es[i]? = some en) (hQ : ∀ h', h'.IsValIter it d (i + 1) n ep → Heap.SameBut it s.heap h' → Q (some en.val) { s with heap := h' }) : wpAny (model prog w) A (pyNext (.ref it)) Q E s := by
  obtain ⟨o, ho, hc, hd⟩ := id hit
  unfold pyNext
  refine wpAny_bind (wpAny_attempt (wpAny_callSpecial?_slot (name := Str.ofString "__next__") hit.typeIs F.slot_dict_valueiterator_next
    (wpAny_call_entry F.slot_dict_valueiterator_next hit.typeIs F.entry_dict_valueiterator_next ?_ (F.args_dict_valueiterator_next_1 _))))
  refine wpAny_bind (wpAny_pure ?_)
  refine wpAny_bind ?_
  refine wpAny_bind ?_
  first | refine wpAny_bind (wpAny_typeNameOfWhole_valiter hit.typeIs (wpAny_pure ?_)) | refine wpAny_bind (wpAny_typeNameOf_valiter hit.typeIs (wpAny_pure ?_))
  refine wpAny_bind (wpAny_fieldsOf ho hd ?_)
  have hown : Builtin.Dict_items.ownsTuple "dict_valueiterator" = false := by decide
  simp only [hown, Bool.false_eq_true, if_false]
  show wpAny _ _ (if (Value.ref d == Value.none) = true then _ else _) _ _ s
  rw [if_neg (show ¬ ((Value.ref d == Value.none) = true) from Bool.false_ne_true)]
  refine wpAny_bind (wpAny_pure ?_)
  refine wpAny_bind (wpAny_dictEntries hod hdd ?_)
  rw [if_neg (by rw [hsz]; simp)]
  refine wpAny_bind (wpAny_pure ?_)
  refine wpAny_bind (wpAny_dictEpoch hod hdd ?_)
  rw [if_neg (by simp)]
  refine wpAny_pure ?_
  obtain ⟨hlt', hen⟩ := Array.getElem?_eq_some_iff.mp hx
  simp only [show ¬ ((i : Int) < 0) from by omega, if_false, Int.toNat_natCast, Array.getElem?_eq_getElem hlt']
  refine wpAny_bind ?_
  first | refine wpAny_bind (wpAny_typeNameOfWhole_valiter hit.typeIs (wpAny_pure ?_)) | refine wpAny_bind (wpAny_typeNameOf_valiter hit.typeIs (wpAny_pure ?_))
  refine wpAny_bind (wpAny_isOneOf_valiter hit.typeIs ?_)
  show wpAny _ _ (setField (.ref it) 1 (rawInt ((i : Int) + 1)) >>= _) _ _ s
  refine wpAny_bind (wpAny_setField ho hd (by simp) ?_)
  have hit' : (s.heap.update it (Obj.mapFields (·.setIfInBounds 1 (rawInt ((i : Int) + 1))))).IsValIter it d (i + 1) n ep :=
    ⟨_, Heap.get?_update_self _ ho (Obj.isFreed_of_fields (Obj.data_mapFields hd _)), (Obj.cls_mapFields ..).trans hc, by rw [Obj.data_mapFields hd]; simp [rawInt]⟩
  refine wpAny_bind (wpAny_holding ?_)
  refine wpAny_bind (wpAny_isOneOf_valiter (s := { s with heap := s.heap.update it (Obj.mapFields (·.setIfInBounds 1 (rawInt ((i : Int) + 1)))) }) hit'.typeIs ?_)
  rw [if_neg (by decide)]
  refine wpAny_bind (wpAny_isOneOf_valiter (s := { s with heap := s.heap.update it (Obj.mapFields (·.setIfInBounds 1 (rawInt ((i : Int) + 1)))) }) hit'.typeIs ?_)
  rw [if_pos (by decide)]
  rw [hen]
  exact wpAny_pure (wpAny_pure ⟨_, rfl, wpAny_pure (hQ _ hit' (Heap.SameBut.update ..))⟩)
theorem next_val_end {it d : Addr} {i n ep : Nat} {od : Obj} {es : Array DictEntry} {Q : Option Value → Shared → Prop} (hh : A.handled = none) (hit : s.heap.IsValIter it d i n ep) (hod : s.heap.get? d = some od) (hdd : od.data = .dict es ep)
    (hsz : es.size = n) (hge : n ≤ i) (hQ : ∀ h', Heap.ExtBut it s.heap h' → Q none { s with heap := h' }) : wpAny (model prog w) A (pyNext (.ref it)) Q E s := by
  obtain ⟨o, ho, hc, hd⟩ := id hit
  unfold pyNext
  refine wpAny_bind (wpAny_attempt (wpAny_callSpecial?_slot (name := Str.ofString "__next__") hit.typeIs F.slot_dict_valueiterator_next
    (wpAny_call_entry F.slot_dict_valueiterator_next hit.typeIs F.entry_dict_valueiterator_next ?_ (F.args_dict_valueiterator_next_1 _))))
  refine wpAny_bind (wpAny_pure ?_)
  refine wpAny_bind ?_
  refine wpAny_bind ?_
  first | refine wpAny_bind (wpAny_typeNameOfWhole_valiter hit.typeIs (wpAny_pure ?_)) | refine wpAny_bind (wpAny_typeNameOf_valiter hit.typeIs (wpAny_pure ?_))
  refine wpAny_bind (wpAny_fieldsOf ho hd ?_)
  have hown : Builtin.Dict_items.ownsTuple "dict_valueiterator" = false := by decide
  simp only [hown, Bool.false_eq_true, if_false]
  show wpAny _ _ (if (Value.ref d == Value.none) = true then _ else _) _ _ s
  rw [if_neg (show ¬ ((Value.ref d == Value.none) = true) from Bool.false_ne_true)]
  refine wpAny_bind (wpAny_pure ?_)
  refine wpAny_bind (wpAny_dictEntries hod hdd ?_)
  rw [if_neg (by rw [hsz]; simp)]
  refine wpAny_bind (wpAny_pure ?_)
  refine wpAny_bind (wpAny_dictEpoch hod hdd ?_)
  rw [if_neg (by simp)]
  refine wpAny_pure ?_
  have hge' : es.size ≤ i := by rw [hsz]; exact hge
  simp only [show ¬ ((i : Int) < 0) from by omega, if_false, Int.toNat_natCast, Array.getElem?_eq_none hge']
  refine wpAny_bind ?_
  first | refine wpAny_bind (wpAny_typeNameOfWhole_valiter hit.typeIs (wpAny_pure ?_)) | refine wpAny_bind (wpAny_typeNameOf_valiter hit.typeIs (wpAny_pure ?_))
  show wpAny _ _ (setField (.ref it) 0 .none >>= _) _ _ s
  refine wpAny_bind (wpAny_setField ho hd (by simp) ?_)
  show wpAny _ _ (newExc (.type "StopIteration") [] >>= _) _ _ _
  refine wpAny_bind ?_
  simp only [newExc, newTuple]
  refine wpAny_bind (wpAny_newObj_type ?_ (by size_fits))
  refine wpAny_bind (m := firstArgMember _ _) (wpAny_of_eq (a := Value.none) (by first | rfl | (simp only [firstArgMember]; rfl)) ?_)
  refine wpAny_newObj_type ?_ (by size_fits)
  simp only [raiseNew]
  refine wpAny_bind (wpAny_handled ?_)
  rw [show A.in1.handled = none from hh]
  refine wpAny_bind (wpAny_pure (wpAny_throw ?_))
  refine wpAny_bind (wpAny_isInstance (T := "StopIteration") (b := true) ⟨_, Heap.get?_push_size _ rfl, rfl⟩ isSubtype_stop ?_)
  exact wpAny_pure (hQ _ (((Heap.SameBut.update ..).extBut.push _).push _))
end
abbrev Ent := List (List Nat) × Addr × Addr
def keyN (k : List (List Nat)) : List (List Key) := k.map fun ks => ks.map fun n => Sum.inl ((n : Nat) : Int)
theorem keyN_inj {a b : List (List Nat)} (e : keyN a = keyN b) : a = b := by
  have i1 : ∀ {xs ys : List Nat}, (xs.map fun (n : Nat) => (Sum.inl ((n : Nat) : Int) : Key)) = ys.map (fun (n : Nat) => (Sum.inl ((n : Nat) : Int) : Key)) → xs = ys := by
    intro xs
    induction xs with
    | nil => intro ys e; cases ys with
      | nil => rfl
      | cons _ _ => simp at e
    | cons x xs ih => intro ys e; cases ys with
      | nil => simp at e
      | cons y ys =>
        rw [List.map_cons, List.map_cons] at e
        injection e with e1 e2
        injection e1 with e1
        rw [ih e2, show x = y by omega]
  unfold keyN at e
  induction a generalizing b with
  | nil => cases b with
    | nil => rfl
    | cons _ _ => simp at e
  | cons x a ih => cases b with
    | nil => simp at e
    | cons y b =>
      rw [List.map_cons, List.map_cons] at e
      injection e with e1 e2
      rw [i1 e1, ih e2]
def entsV (g : List Ent) : List (List (List Key) × Addr × Value) := g.map fun x => (keyN x.1, x.2.1, .ref x.2.2)
def DObj (P : Program) (w : World) (d : Addr) (g : List Ent) (ep : Nat) : Heap → Prop := fun h => (d == sysModules) = false ∧ ∃ o es, h.get? d = some o ∧ o.ExactDict ∧ o.data = .dict es ep ∧ es.toList = (entsV g).map (entryOfKey (tup2Kind (mixKind P w)))
abbrev dO (P : Program) (w : World) (d : Addr) (g : List Ent) (ep : Nat) : HO := .ext (DObj P w d g ep)
theorem dO_ok {P : Program} {w : World} {H : Hp} {h : Heap} {d : Addr} {g : List Ent} {ep : Nat} (x : DObj P w d g ep h) : ObjOk P w H h d (dO P w d g ep) := by
  obtain ⟨nm, o, es, h1, h2⟩ := id x
  exact ⟨x, ⟨o, h1⟩, fun a b ⟨nm, o, es, h1, h2⟩ k => ⟨nm, o, es, k o h1, h2⟩⟩
def Key2 (H : Hp) (k : List (List Nat)) (b : Addr) : Prop := ∃ as : List Addr, H b = some (.tup (as.map V.ref)) ∧ as.length = k.length ∧ ∀ (i : Nat) (ks : List Nat), k[i]? = some ks → ∃ a, as[i]? = some a ∧ H a = some (.tup (ks.map fun n => V.int ((n : Nat) : Int)))
theorem Key2.keep {H H' : Hp} {k : List (List Nat)} {b : Addr} (x : Key2 H k b) (s : ∀ c ys, H c = some (.tup ys) → H' c = some (.tup ys)) : Key2 H' k b := by
  obtain ⟨as, h1, h2, h3⟩ := x
  exact ⟨as, s _ _ h1, h2, fun i ks e => let ⟨a, e1, e2⟩ := h3 i ks e; ⟨a, e1, s _ _ e2⟩⟩
theorem key2_is {P : Program} {w : World} {H : Hp} {h : Heap} {k : List (List Nat)} {b : Addr} (ok : HOk P w H h) (x : Key2 H k b) : (tup2Kind (mixKind P w)).is h (keyN k) b := by
  obtain ⟨as, e, hlen, each⟩ := x
  obtain ⟨_, its, r, o, h1, h2, n, h3⟩ := (show ObjOk P w H h b (.tup (as.map V.ref)) from ok b _ e)
  refine ⟨o, its.toArray, n, h1, h2, h3, ?_⟩
  have key : ∀ (as : List Addr) (k : List (List Nat)) (its : List Value), Vals (as.map V.ref) its → as.length = k.length → (∀ (i : Nat) (ks : List Nat), k[i]? = some ks → ∃ a, as[i]? = some a ∧ H a = some (.tup (ks.map fun n => V.int ((n : Nat) : Int)))) → RefsAre (mixKind P w) h (keyN k) its := by
    intro as
    induction as with
    | nil =>
      intro k its r hl _
      cases k with
      | nil => cases r; exact .nil
      | cons _ _ => simp at hl
    | cons a as ih =>
      intro k its r hl each
      cases k with
      | nil => simp at hl
      | cons ks k =>
        rw [List.map_cons] at r
        cases r with
        | @cons _ u _ us ra rt =>
          cases (show u = Value.ref a from ra)
          obtain ⟨a', e1, e2⟩ := each 0 ks rfl
          have e1 : a = a' := Option.some.inj e1
          subst e1
          refine .cons ?_ (ih k us rt (by simpa using hl) fun i ks' q => each (i + 1) ks' q)
          refine key_of ok (ks := ks.map fun n => Sum.inl ((n : Nat) : Int)) ?_
          rw [List.map_map]
          exact e2
  simpa using key as k its r hlen each
section
variable {X : Cx} {pins : List (Addr × Obj)} {σ : St} {H : Hp} {s : Shared} {d : Addr} {g : List Ent} {ep : Nat}
theorem Inv.dO_at (I : Inv X pins σ H s) (h : H d = some (dO X.prog X.w d g ep)) : DObj X.prog X.w d g ep s.heap := (I.hok d _ h).1
theorem Inv.dictH (I : Inv X pins σ H s) (h : H d = some (dO X.prog X.w d g ep)) (ks : ∀ x ∈ g, Key2 H x.1 x.2.1) (nd : (g.map (·.1)).Nodup) :
    (d == sysModules) = false ∧ ∃ o es, s.heap.get? d = some o ∧ o.ExactDict ∧ o.data = .dict es ep ∧ s.heap.DictOfH (tup2Kind (mixKind X.prog X.w)) d (entsV g) := by
  obtain ⟨nm, o, es, h1, h2, h3, h4⟩ := I.dO_at h
  refine ⟨nm, o, es, h1, h2, h3, o, es, ep, h1, h2, h3, h4, fun x hx => ?_, ?_⟩
  · obtain ⟨y, hy, rfl⟩ := List.mem_map.mp hx
    exact key2_is I.hok (ks y hy)
  · unfold entsV
    rw [List.map_map]
    show (g.map ((fun k => keyN k) ∘ fun x => x.1)).Nodup
    rw [← List.map_map]
    unfold List.Nodup at nd ⊢
    rw [List.pairwise_map]
    exact nd.imp fun {a b} z q => z (keyN_inj q)
end
def tDNew2 (P : Program) (w : World) : TE := fun _ H Q => ∀ p, H p = none → Q (.ref p) (upd H p (dO P w p [] 0))
theorem pe_dnew2 {X : Cx} {pos : Pos} : PE X (.Dict [] [] pos) (tDNew2 X.prog X.w) := fun pins s σ H Q I h =>
  wpAny_Dict_empty ⟨.ref s.heap.objs.size, _, I.laid (a := s.heap.objs.size) (o := dO X.prog X.w s.heap.objs.size [] 0) (t' := s.toks) (fun _ _ q => Heap.get?_push_of_some _ q) (Nat.le_refl _)
    (dO_ok ⟨beq_eq_false_iff_ne.mpr (Ne.symm (Nat.ne_of_lt I.big)), _, #[], Heap.get?_push_size _ rfl, ⟨rfl, rfl, rfl⟩, rfl, rfl⟩), rfl, h _ (I.hok.fresh (Nat.le_refl _))⟩
def tDSetD (P : Program) (w : World) (td ty tx : TE) : TE := fun σ H Q => td σ H fun x H1 => ∃ d, x = .ref d ∧ (∃ g ep, H1 d = some (dO P w d g ep)) ∧ ty σ H1 fun y H2 => tx σ H2 fun z H3 =>
  ∃ g ep k b l, H3 d = some (dO P w d g ep) ∧ y = .ref b ∧ z = .ref l ∧ Key2 H3 k b ∧ (∀ x ∈ g, Key2 H3 x.1 x.2.1) ∧ (g.map (·.1)).Nodup ∧ g.length < sizeLine ∧
    (∀ x ∈ g, x.1 = k → Q (.ref x.2.2) H3) ∧ ((∀ x ∈ g, x.1 ≠ k) → ∀ ep', Q (.ref l) (upd H3 d (dO P w d (g ++ [(k, b, l)]) ep')))
theorem at_none {g : List Ent} {k : List (List Nat)} (h : ∀ x ∈ g, x.1 ≠ k) : atKey (entsV g) (keyN k) = none := by
  apply atKey_none_of_get
  intro j p e
  unfold entsV at e
  rw [List.getElem?_map] at e
  cases q : g[j]? with
  | none => rw [q] at e; cases e
  | some x =>
    rw [q] at e
    have e := Option.some.inj e
    injection e with e1 e2
    exact h x (List.mem_of_getElem? q) (keyN_inj e1)
theorem at_some {g : List Ent} {k : List (List Nat)} (nd : (g.map (·.1)).Nodup) {p : Addr × Value} (e : atKey (entsV g) (keyN k) = some p) : ∃ x ∈ g, x.1 = k ∧ p.2 = .ref x.2.2 := by
  unfold atKey at e
  cases q : (entsV g).find? fun x => decide (x.1 = keyN k) with
  | none => rw [q] at e; cases e
  | some y =>
    rw [q] at e
    have e : y.2 = p := Option.some.inj e
    have h1 : y.1 = keyN k := by
      have := List.find?_some q
      exact of_decide_eq_true this
    obtain ⟨x, hx, rfl⟩ := List.mem_map.mp (List.mem_of_find?_eq_some q)
    exact ⟨x, hx, keyN_inj h1, by rw [← e]⟩
theorem pe_dsetd {X : Cx} {o e f : Expr} {apos cpos : Pos} {td ty tx : TE} (hu : X.A.units + 2 < cLine) (ho : PE X o td) (he : PE X e ty) (hf : PE X f tx) (m : M2 X o "setdefault" apos e f cpos) :
    PE X (.Call (.Attribute o "setdefault" apos) [e, f] [] cpos) (tDSetD X.prog X.w td ty tx) := by
  intro pins s σ H Q I h
  refine wpAny_Call_method m.base m.few m.line PySem.F.plainAttrs_dict PySem.F.slot_dict_setdefault PySem.F.type_dict_setdefault (thn (ho pins s σ H _ I h) fun u s1 ⟨x, H1, I1, rx, d, ex, ⟨g1, ep1, hd1⟩, q1⟩ => ?_)
  subst ex
  obtain rfl : u = Value.ref d := rx
  obtain ⟨nm, ob, es, h1, h2, h3, _⟩ := I1.dO_at hd1
  refine ⟨⟨ob, h1, h2.1⟩, fun b q => by cases q; exact ⟨ob, h1, h2.2.1⟩, ?_⟩
  rw [m.trees]
  refine Calls.callWith_builtin rfl (Calls.evalArgs_plain (Calls.spliced_cons (thn (he pins s1 σ H1 _ I1 q1) fun iv s2 ⟨y, H2, I2, ry, q2⟩ =>
    Calls.spliced_cons (thn (hf pins s2 σ H2 _ I2 q2) fun fv s3 ⟨z, H3, I3, rz, g, ep, k, b, l, hd, ey, ez, kb, kg, nd, few, there, new⟩ => Calls.spliced_nil ?_))))
  subst ey ez
  obtain rfl : iv = Value.ref b := ry
  obtain rfl : fv = Value.ref l := rz
  obtain ⟨_, ob, es, o1, o2, o3, dd⟩ := I3.dictH hd kg nd
  refine call_meetsIn PySem.F.slot_dict_setdefault dd.typeIs PySem.F.entry_dict_setdefault (PySem.F.args_dict_setdefault_3 _ _ _) (meetsH_setdefault (tup2Kind (mixKind X.prog X.w)) d b nm (.ref l))
    ⟨hu, keyN k, entsV g, key2_is I3.hok kb, dd, by unfold entsV; rw [List.length_map]; omega, fun p hp => ?_, fun hn h' dd' sb => ?_⟩
  · obtain ⟨x, hx, e1, e2⟩ := at_some nd hp
    exact ⟨.ref x.2.2, H3, I3.tok _, e2, there x hx e1⟩
  · obtain ⟨q, es', ep', hq, c1, c2, c3, _, c4⟩ := dd'
    refine ⟨.ref l, _, d_write I3 (by rw [hd]; exact True.intro) sb ⟨q, hq⟩ (dO_ok (ep := ep') (g := g ++ [(k, b, l)]) ⟨nm, q, es', hq, c1, c2, ?_⟩), rfl, new (fun x hx e => ?_) ep'⟩
    · rw [c3]
      unfold entsV
      rw [List.map_append, List.map_append, List.map_append]
      rfl
    · subst e
      have : atKey (entsV g) (keyN x.1) ≠ none := by
        obtain ⟨i, hi⟩ := List.getElem?_of_mem hx
        have := atKey_of_get (xs := entsV g) dd.choose_spec.choose_spec.choose_spec.2.2.2.2.2 (i := i) (k := keyN x.1) (p := (x.2.1, .ref x.2.2)) (by unfold entsV; rw [List.getElem?_map, hi]; rfl)
        rw [this]
        exact fun z => by cases z
      exact this hn
def It2 (P : Program) (w : World) (d : Addr) (g : List Ent) (ep : Nat) : It :=
  ⟨fun i H => H d = some (dO P w d g ep) ∧ i < g.length, fun i H x H' => H' = H ∧ ∃ y, g[i]? = some y ∧ x = .ref y.2.2, fun i H => H d = some (dO P w d g ep) ∧ g.length ≤ i⟩
theorem ents_get {P : Program} {w : World} {es : Array DictEntry} {g : List Ent} (he : es.toList = (entsV g).map (entryOfKey (tup2Kind (mixKind P w)))) {i : Nat} {y : Ent} (hy : g[i]? = some y) : ∃ en, es[i]? = some en ∧ en.val = .ref y.2.2 := by
  have q := entry_at he i
  unfold entsV at q
  rw [List.getElem?_map, hy] at q
  exact ⟨_, q, rfl⟩
theorem ents_size {P : Program} {w : World} {es : Array DictEntry} {g : List Ent} (he : es.toList = (entsV g).map (entryOfKey (tup2Kind (mixKind P w)))) : es.size = g.length := by
  rw [size_of_entries he]
  unfold entsV
  rw [List.length_map]
theorem turn_vals2 {P : Program} {w : World} {K : PySem.W.Frag} {tg : Expr} {d : Addr} {g : List Ent} {ep : Nat} (it : Addr) : Turn P w K tg (It2 P w d g ep) [it] it (fun i h => h.IsValIter it d i g.length ep) where
  mem := by simp
  obj := fun i h st b hb => by
    have e : b = it := by simpa using hb
    subst e
    obtain ⟨oi, e, c, dd⟩ := st
    exact ⟨oi, e, fun v z => by rw [dd] at z; cases z⟩
  keep := fun i h h' st k => st.at fun oi e => k it (by simp) oi e
  item := by
    intro X hP hw hK hc i pins s σ H E I hf st hg
    subst hP hw hK
    obtain ⟨hd, hi⟩ := hg
    obtain ⟨f0, f1, f2, f3, f4, f5⟩ := hf it (by simp)
    obtain ⟨nm, o, es, h1, h2, h3, h4⟩ := I.dO_at hd
    obtain ⟨y, hy⟩ : ∃ y, g[i]? = some y := ⟨g[i], List.getElem?_eq_getElem hi⟩
    obtain ⟨en, hen, hv⟩ := ents_get h4 hy
    refine next_val_item st h1 h3 (ents_size h4) hen fun h' st' sb => ?_
    have I1 : Inv X pins σ H { s with heap := h' } := I.turned (t' := s.toks) (fun b ob hb e => (sb.2 b hb).trans e) f0 f1 f3 f4 f5
    obtain ⟨oi, e, c, dd⟩ := id st'
    exact ⟨en.val, rfl, go_of (s := { s with heap := h' }) e c dd (by decide) ⟨.ref y.2.2, H, I1, hv, ⟨rfl, y, hy, rfl⟩, st', fun b hb => (hf b hb).1⟩⟩
  done := by
    intro X hP hw hK hc i pins s σ H E I hf st hg
    subst hP hw hK
    obtain ⟨hd, hi⟩ := hg
    obtain ⟨f0, f1, f2, f3, f4, f5⟩ := hf it (by simp)
    obtain ⟨nm, o, es, h1, h2, h3, h4⟩ := I.dO_at hd
    exact next_val_end (I.ok.hd hc) st h1 h3 (ents_size h4) hi fun h' eb => ⟨rfl, I.turned (t' := s.toks) (fun b ob hb e => eb b ob hb e) f0 f1 f3 f4 f5⟩
  self := fun A i s Q E st h => wpAny_pyIter_valiter st h
def iVals2 (P : Program) (w : World) (td : TE) : TI := fun σ H R => td σ H fun x H1 => ∃ d g ep, x = .ref d ∧ H1 d = some (dO P w d g ep) ∧ R (It2 P w d g ep) H1
theorem pi_values2 {X : Cx} {tg e : Expr} {td : TE} {apos cpos : Pos} (he : PE X e td) (hbase : attributeBase e "values" X.env (eval e X.env) = eval e X.env := by rfl) (hline : (apos.endLine == cpos.line) = true := by rfl) :
    PI X tg (.Call (.Attribute e "values" apos) [] [] cpos) (iVals2 X.prog X.w td) := by
  intro pins s σ H R I h
  refine wpAny_Call_method (T := "dict") (id := "dict.values") hbase rfl hline F.plainAttrs_dict F.slot_dict_values F.type_dict_values (thn (he pins s σ H _ I h) fun u s1 ⟨x, H1, I1, rx, d, g, ep, ex, hd, q⟩ => ?_)
  subst ex
  obtain rfl : u = Value.ref d := rx
  obtain ⟨nm, o, es, h1, h2, h3, h4⟩ := I1.dO_at hd
  have ty : s1.TypeIs (.ref d) "dict" := ⟨o, h1, h2.1⟩
  refine ⟨ty, fun b q => by cases q; exact ⟨o, h1, h2.2.1⟩, ?_⟩
  have I2 : Inv X pins σ H1 { s1 with heap := s1.heap.push { cls := .type "dict_values", data := .fields #[.ref d] } } := I1.kept (t' := s1.toks) fun b ob q => Heap.get?_push_of_some _ q
  have fin : wpAny (model X.prog X.w) X.A (pyIter (.ref s1.heap.objs.size)) (PIE X pins σ tg R) X.xe { s1 with heap := s1.heap.push { cls := .type "dict_values", data := .fields #[.ref d] } } := by
    refine iter_vals (d := d) ⟨_, Heap.get?_push_size _ rfl, rfl, rfl⟩ (Heap.get?_push_of_some _ h1) h3 (pi_one (tk := s1.toks) I2 _ (turn_vals2 _) ⟨_, Heap.get?_push_size _ rfl, rfl, ?_⟩ q)
    rw [ents_size h4] <;> rfl
  show wpAny _ _ (callWith cpos (.builtin "dict.values") [.ref d] [] []) _ X.xe s1
  exact method_meetsIn F.slot_dict_values F.entry_dict_values rfl (PySem.evalArgs_none ⟨rfl, ty, F.args_dict_values_1 _, _, call_vals d nm, ty, fin⟩)
theorem cm_vals {K : PySem.W.Frag} {a : Addr} {xs : List V} {g : TG} {te : TE} {vs : List Nat} {σ : St} {H : Hp} {D : Addr} {Qd : Hp → Prop} (hD : H D = none) (hl : SqL K H a xs) (hz : xs.length ≤ sizeLine) (zs : List V) (hlen : zs.length = xs.length)
    (turn : ∀ (i : Nat) (x z : V) H' (N : VK), xs[i]? = some x → zs[i]? = some z → Same H H' → N z H' → g x (wipe σ vs) H' fun σ2 H2 => wipe σ2 vs = wipe σ vs ∧ te σ2 H2 N)
    (fin : ∀ H', H' D = some (.lst zs) → Same H H' → Qd H') :
    ∃ W : Nat → Nat → Hp → Prop, (∃ m, W 0 m (upd H D (.lst []))) ∧ ∀ i m H, W i m H →
      ((Itl K a).stop i H ∧ Qd H) ∨ ((Itl K a).go i H ∧ ∃ Nx : Hp → Prop, (∀ H', Nx H' → ∃ m', m' < m ∧ W (i + 1) m' H') ∧ ∀ x H', (Itl K a).yld i H x H' → g x (wipe σ vs) H' fun σ2 H2 => wipe σ2 vs = wipe σ vs ∧ tYes σ2 H2 fun b H3 =>
        if b = true then te σ2 H3 fun y H4 => ∃ acc, H4 D = some (.lst acc) ∧ acc.length < sizeLine ∧ Nx (upd H4 D (.lst (acc ++ [y]))) else Nx H3) := by
  refine cm_list hD hl hz (fun i y _ => zs[i]? = some y) (fun _ _ _ _ _ z => z) (fun i x H' hx hs _ N hN => ?_) (fun ys H' hy hl2 hs hR => ?_)
  · have hi : i < zs.length := by rw [hlen]; exact (List.getElem?_eq_some_iff.mp hx).1
    have hz' : zs[i]? = some zs[i] := List.getElem?_eq_getElem hi
    exact turn i x zs[i] H' N hx hz' hs (hN _ _ (Same.refl _) hz')
  · have e : ys = zs := by
      apply List.ext_getElem?
      intro i
      cases q : ys[i]? with
      | none =>
        have := List.getElem?_eq_none_iff.mp q
        rw [List.getElem?_eq_none (by omega)]
      | some y => exact (hR i y q).symm
    subst e
    exact fin H' hy hs
theorem cm_filt {J : It} {n : Nat} {Y : Nat → V → Hp → Prop} {g : TG} {tt : TT} {te : TE} {vs : List Nat} {σ : St} {H : Hp} {D : Addr} {Qd : Hp → Prop} (hD : H D = none)
    (hgo : ∀ i H', i < n → Same H H' → J.go i H') (hstop : ∀ H', Same H H' → J.stop n H') (hyld : ∀ i H' x H'', i < n → Same H H' → J.yld i H' x H'' → Same H' H'' ∧ Y i x H'') (hz : n ≤ sizeLine)
    (p : Nat → Bool) (val : Nat → V)
    (turn : ∀ i x H', i < n → Y i x H' → Same H H' → ∀ (N : VK) (Nb : Hp → Prop), (p i = true → N (val i) H') → (p i = false → Nb H') → g x (wipe σ vs) H' fun σ2 H2 => wipe σ2 vs = wipe σ vs ∧ tt σ2 H2 fun b H3 => if b = true then te σ2 H3 N else Nb H3)
    (fin : ∀ H', H' D = some (.lst (((List.range n).filter p).map val)) → Same H H' → Qd H') :
    ∃ W : Nat → Nat → Hp → Prop, (∃ m, W 0 m (upd H D (.lst []))) ∧ ∀ i m H, W i m H →
      (J.stop i H ∧ Qd H) ∨ (J.go i H ∧ ∃ Nx : Hp → Prop, (∀ H', Nx H' → ∃ m', m' < m ∧ W (i + 1) m' H') ∧ ∀ x H', J.yld i H x H' → g x (wipe σ vs) H' fun σ2 H2 => wipe σ2 vs = wipe σ vs ∧ tt σ2 H2 fun b H3 =>
        if b = true then te σ2 H3 fun y H4 => ∃ acc, H4 D = some (.lst acc) ∧ acc.length < sizeLine ∧ Nx (upd H4 D (.lst (acc ++ [y]))) else Nx H3) := by
  refine ⟨fun i m H' => m = n - i ∧ i ≤ n ∧ H' D = some (.lst (((List.range i).filter p).map val)) ∧ Same H H', ⟨n, by simp, Nat.zero_le _, upd_same, Same.upd hD⟩, ?_⟩
  rintro i m H' ⟨rfl, hi, hacc, hs⟩
  by_cases hlt : i < n
  · obtain ⟨Nx, eN⟩ : ∃ Nx : Hp → Prop, Nx = fun H'' => i + 1 ≤ n ∧ H'' D = some (.lst (((List.range (i + 1)).filter p).map val)) ∧ Same H H'' := ⟨_, rfl⟩
    refine .inr ⟨hgo i H' hlt hs, Nx, fun H'' h => by rw [eN] at h; exact ⟨n - (i + 1), by omega, rfl, h.1, h.2⟩, fun x H2 hy => ?_⟩
    obtain ⟨hs2, hY⟩ := hyld i H' x H2 hlt hs hy
    have hD2 := hs2 _ _ hacc
    refine turn i x H2 hlt hY (hs.trans hs2) (fun y H4 => ∃ acc, H4 D = some (.lst acc) ∧ acc.length < sizeLine ∧ Nx (upd H4 D (.lst (acc ++ [y])))) Nx (fun hp => ?_) (fun hp => ?_)
    · refine ⟨_, hD2, ?_, ?_⟩
      · rw [List.length_map]
        have := List.length_filter_le p (List.range i)
        rw [List.length_range] at this
        omega
      · rw [eN]
        refine ⟨hlt, ?_, (hs.trans hs2).upd_r hD⟩
        rw [upd_same, List.range_succ, List.filter_append, List.map_append, List.filter_cons, if_pos hp]
        rfl
    · rw [eN]
      refine ⟨hlt, ?_, hs.trans hs2⟩
      rw [List.range_succ, List.filter_append, List.map_append, List.filter_cons, if_neg (by rw [hp]; exact Bool.false_ne_true)]
      rw [List.filter_nil, List.map_nil, List.append_nil]
      exact hD2
  · have e : i = n := by omega
    subst e
    exact .inl ⟨hstop H' hs, fin H' hacc hs⟩
theorem cmf_list {K : PySem.W.Frag} {a : Addr} {xs : List V} {g : TG} {tt : TT} {te : TE} {vs : List Nat} {σ : St} {H : Hp} {D : Addr} {Qd : Hp → Prop} (hD : H D = none) (hl : SqL K H a xs) (hz : xs.length ≤ sizeLine) (p : Nat → Bool) (val : Nat → V)
    (turn : ∀ (i : Nat) (x : V) H', xs[i]? = some x → Same H H' → ∀ (N : VK) (Nb : Hp → Prop), (p i = true → N (val i) H') → (p i = false → Nb H') → g x (wipe σ vs) H' fun σ2 H2 => wipe σ2 vs = wipe σ vs ∧ tt σ2 H2 fun b H3 => if b = true then te σ2 H3 N else Nb H3)
    (fin : ∀ H', H' D = some (.lst (((List.range xs.length).filter p).map val)) → Same H H' → Qd H') :
    ∃ W : Nat → Nat → Hp → Prop, (∃ m, W 0 m (upd H D (.lst []))) ∧ ∀ i m H, W i m H →
      ((Itl K a).stop i H ∧ Qd H) ∨ ((Itl K a).go i H ∧ ∃ Nx : Hp → Prop, (∀ H', Nx H' → ∃ m', m' < m ∧ W (i + 1) m' H') ∧ ∀ x H', (Itl K a).yld i H x H' → g x (wipe σ vs) H' fun σ2 H2 => wipe σ2 vs = wipe σ vs ∧ tt σ2 H2 fun b H3 =>
        if b = true then te σ2 H3 fun y H4 => ∃ acc, H4 D = some (.lst acc) ∧ acc.length < sizeLine ∧ Nx (upd H4 D (.lst (acc ++ [y]))) else Nx H3) :=
  cm_filt (n := xs.length) (Y := fun i x _ => xs[i]? = some x) hD (fun i H' hi hs => ⟨xs, xs[i], hs.seq hl, by simp [hi]⟩) (fun H' hs => ⟨xs, hs.seq hl, Nat.le_refl _⟩)
    (fun i H' x H'' hi hs hy => by
      obtain ⟨e, hy⟩ := hy
      subst e
      exact ⟨Same.refl _, hy xs (hs.seq hl)⟩) hz p val (fun i x H' _ hx => turn i x H' hx) fin
theorem cmf_enum {K : PySem.W.Frag} {a : Addr} {xs : List V} {g : TG} {tt : TT} {te : TE} {vs : List Nat} {σ : St} {H : Hp} {D : Addr} {Qd : Hp → Prop} (hD : H D = none) (hl : SqL K H a xs) (hz : xs.length ≤ sizeLine) (p : Nat → Bool) (val : Nat → V)
    (turn : ∀ (i : Nat) (x : V) T H', xs[i]? = some x → H' T = some (.tup [.int (i : Nat), x]) → Same H H' → ∀ (N : VK) (Nb : Hp → Prop), (p i = true → N (val i) H') → (p i = false → Nb H') → g (.ref T) (wipe σ vs) H' fun σ2 H2 => wipe σ2 vs = wipe σ vs ∧ tt σ2 H2 fun b H3 => if b = true then te σ2 H3 N else Nb H3)
    (fin : ∀ H', H' D = some (.lst (((List.range xs.length).filter p).map val)) → Same H H' → Qd H') :
    ∃ W : Nat → Nat → Hp → Prop, (∃ m, W 0 m (upd H D (.lst []))) ∧ ∀ i m H, W i m H →
      ((Ite K a).stop i H ∧ Qd H) ∨ ((Ite K a).go i H ∧ ∃ Nx : Hp → Prop, (∀ H', Nx H' → ∃ m', m' < m ∧ W (i + 1) m' H') ∧ ∀ x H', (Ite K a).yld i H x H' → g x (wipe σ vs) H' fun σ2 H2 => wipe σ2 vs = wipe σ vs ∧ tt σ2 H2 fun b H3 =>
        if b = true then te σ2 H3 fun y H4 => ∃ acc, H4 D = some (.lst acc) ∧ acc.length < sizeLine ∧ Nx (upd H4 D (.lst (acc ++ [y]))) else Nx H3) :=
  cm_filt (n := xs.length) (Y := fun i v H' => ∃ T x, v = .ref T ∧ xs[i]? = some x ∧ H' T = some (.tup [.int (i : Nat), x])) hD (fun i H' hi hs => ⟨xs, xs[i], hs.seq hl, by simp [hi]⟩) (fun H' hs => ⟨xs, hs.seq hl, Nat.le_refl _⟩)
    (fun i H' x H'' hi hs hy => by
      obtain ⟨T, y, e, hT, e2, hy⟩ := hy
      subst e e2
      exact ⟨Same.upd hT, T, y, rfl, hy xs (hs.seq hl), upd_same⟩) hz p val (fun i v H' _ ⟨T, x, e, hx, hT⟩ => by subst e; exact turn i x T H' hx hT) fin
theorem cm_vals2 {P : Program} {w : World} {d : Addr} {gr : List Ent} {ep : Nat} {g : TG} {te : TE} {vs : List Nat} {σ : St} {H : Hp} {D : Addr} {Qd : Hp → Prop} (hD : H D = none) (hl : H d = some (dO P w d gr ep)) (hz : gr.length ≤ sizeLine)
    (R : Nat → V → Hp → Prop) (mono : ∀ i y G G', Same G G' → R i y G → R i y G')
    (turn : ∀ (i : Nat) (x : Ent) H', gr[i]? = some x → Same H H' → (∃ o, H' D = some o) → ∀ N : VK, (∀ y H4, Same H' H4 → R i y (del H4 D) → N y H4) → g (.ref x.2.2) (wipe σ vs) H' fun σ2 H2 => wipe σ2 vs = wipe σ vs ∧ te σ2 H2 N)
    (fin : ∀ ys H', H' D = some (.lst ys) → ys.length = gr.length → Same H H' → (∀ (i : Nat) (y : V), ys[i]? = some y → R i y (del H' D)) → Qd H') :
    ∃ W : Nat → Nat → Hp → Prop, (∃ m, W 0 m (upd H D (.lst []))) ∧ ∀ i m H, W i m H →
      ((It2 P w d gr ep).stop i H ∧ Qd H) ∨ ((It2 P w d gr ep).go i H ∧ ∃ Nx : Hp → Prop, (∀ H', Nx H' → ∃ m', m' < m ∧ W (i + 1) m' H') ∧ ∀ x H', (It2 P w d gr ep).yld i H x H' → g x (wipe σ vs) H' fun σ2 H2 => wipe σ2 vs = wipe σ vs ∧ tYes σ2 H2 fun b H3 =>
        if b = true then te σ2 H3 fun y H4 => ∃ acc, H4 D = some (.lst acc) ∧ acc.length < sizeLine ∧ Nx (upd H4 D (.lst (acc ++ [y]))) else Nx H3) :=
  cm_gen (n := gr.length) (Y := fun i v _ => ∃ x, gr[i]? = some x ∧ v = .ref x.2.2) hD (fun i H' hi hs => ⟨hs _ _ hl, hi⟩) (fun H' hs => ⟨hs _ _ hl, Nat.le_refl _⟩)
    (fun i H' x H'' hi hs hy => by
      obtain ⟨e, y, hy, e2⟩ := hy
      subst e
      exact ⟨Same.refl _, y, hy, e2⟩) hz R mono (fun i v H' _ ⟨x, hx, e⟩ => by subst e; exact turn i x H' hx) fin
theorem hu2_of {A : Around} {k : Nat} (hr : Room k A) : A.units + 2 < cLine := Nat.lt_of_le_of_lt (Nat.add_le_add_left (by decide : 2 ≤ 64) _) hr.units
theorem bt_tuple : bootBuiltins "tuple" = some (.type "tuple") := by decide +kernel
end L2
end
section
set_option Elab.async false
set_option linter.all false
set_option maxRecDepth 100000
set_option maxHeartbeats 1000000
namespace L2
open PySem PySem.Spec PyProof.Rows
open Sj (Tri rkLt lex_irrefl)
abbrev vN (n : Nat) : V := V.int ((n : Nat) : Int)
def TriAt (H : Hp) (k : Sj.Tri) (x : V) : Prop := ∃ (t lo : Addr), x = .ref t ∧ H t = some (.tup [vN k.1, vN k.2.1, .ref lo]) ∧ H lo = some (.lst (k.2.2.map vN))
theorem TriAt.keep {H H' : Hp} {k : Sj.Tri} {x : V} (s : Same H H') (h : TriAt H k x) : TriAt H' k x := let ⟨t, lo, e, h1, h2⟩ := h; ⟨t, lo, e, s _ _ h1, s _ _ h2⟩
theorem vals_nums : ∀ {o : List Nat} {us : List Value}, Vals (o.map vN) us → us.length = o.length ∧ ∀ (j : Nat) (u : Value), us[j]? = some u → ∃ t, u = .int ((o.getD j 0 : Nat) : Int) t
  | [], _, r => by rw [List.map_nil] at r; cases r; exact ⟨rfl, fun j u e => by simp at e⟩
  | n :: o, _, r => by
    rw [List.map_cons] at r
    cases r with
    | cons h t =>
      obtain ⟨e1, e2⟩ := vals_nums t
      refine ⟨by simp [e1], fun j u e => ?_⟩
      cases j with
      | zero =>
        obtain ⟨tk, hk⟩ := (show ∃ t, _ = Value.int ((n : Nat) : Int) t from h)
        have e : _ = u := Option.some.inj e
        exact ⟨tk, by rw [← e, hk]; rfl⟩
      | succ j =>
        obtain ⟨tk, hk⟩ := e2 j u e
        exact ⟨tk, by rw [hk]; simp [List.getD_cons_succ]⟩
theorem ltBy_lex : ∀ (k i : Nat) (a b : List Nat), a.length = i + k → b.length = i + k →
    SeqAt.ltBy (fun j => (((a.getD j 0 : Nat) : Int) == ((b.getD j 0 : Nat) : Int))) (fun j => decide (((a.getD j 0 : Nat) : Int) < ((b.getD j 0 : Nat) : Int))) k i = Sj.lexLt (a.drop i) (b.drop i)
  | 0, i, a, b, ha, hb => by
    rw [List.drop_eq_nil_of_le (by omega), List.drop_eq_nil_of_le (by omega)]
    rfl
  | k + 1, i, a, b, ha, hb => by
    have h1 : i < a.length := by omega
    have h2 : i < b.length := by omega
    rw [List.drop_eq_getElem_cons h1, List.drop_eq_getElem_cons h2]
    have ih := ltBy_lex k (i + 1) a b (by omega) (by omega)
    have e1 : a.getD i 0 = a[i] := by simp [h1]
    have e2 : b.getD i 0 = b[i] := by simp [h2]
    unfold SeqAt.ltBy Sj.lexLt
    rw [ih, e1, e2]
    by_cases q : a[i] = b[i]
    · rw [if_pos (by rw [q]; simp), q]
      simp
    · rw [if_neg (by simp; omega)]
      simp [q]
theorem all_eq {a b : List Nat} (h : a.length = b.length) : ((List.range a.length).all fun j => (((a.getD j 0 : Nat) : Int) == ((b.getD j 0 : Nat) : Int))) = decide (a = b) := by
  rw [Bool.eq_iff_iff, List.all_eq_true, decide_eq_true_iff]
  constructor
  · intro z
    apply List.ext_getElem?
    intro j
    by_cases hj : j < a.length
    · have := z j (List.mem_range.mpr hj)
      rw [beq_iff_eq] at this
      have e1 : a.getD j 0 = a[j] := by simp [hj]
      have e2 : b.getD j 0 = b[j]'(by omega) := by simp [show j < b.length by omega]
      rw [e1, e2] at this
      rw [List.getElem?_eq_getElem hj, List.getElem?_eq_getElem (by omega)]
      congr 1
      omega
    · rw [List.getElem?_eq_none (by omega), List.getElem?_eq_none (by omega)]
  · rintro rfl j _
    simp
theorem nums_of {P : Program} {w : World} {H : Hp} {h : Heap} {l : Addr} {a : List Nat} (ok : HOk P w H h) (e : H l = some (.lst (a.map vN))) : ∃ js : List Value, h.IsList l js.toArray ∧ js.length = a.length ∧ ∀ (j : Nat) (u : Value), js[j]? = some u → ∃ t, u = .int ((a.getD j 0 : Nat) : Int) t := by
  obtain ⟨_, js, n, q, g⟩ := (show ObjOk P w H h l (.lst (a.map vN)) from ok l _ e)
  obtain ⟨c, d⟩ := vals_nums q
  exact ⟨js, ⟨_, g, rfl, n, rfl⟩, c, d⟩
theorem vN_inj : ∀ {x y : List Nat}, x.map vN = y.map vN → x = y
  | [], [], _ => rfl
  | [], _ :: _, e => by simp at e
  | _ :: _, [], e => by simp at e
  | n :: x, m :: y, e => by
    rw [List.map_cons, List.map_cons] at e
    injection e with e1 e2
    injection e1 with e1
    rw [vN_inj e2, show n = m by omega]
section
variable {P : Program} {w : World} {H : Hp} {s : Shared} {A : Around} {l1 l2 : Addr} {a b : List Nat}
theorem nums_eqAt {js1 js2 : List Value} (d1 : ∀ (j : Nat) (u : Value), js1[j]? = some u → ∃ t, u = .int ((a.getD j 0 : Nat) : Int) t) (d2 : ∀ (j : Nat) (u : Value), js2[j]? = some u → ∃ t, u = .int ((b.getD j 0 : Nat) : Int) t) :
    ∀ j (h1 : j < js1.toArray.size) (h2 : j < js2.toArray.size), SeqAt.EqAt A s js1.toArray[j] js2.toArray[j] (((a.getD j 0 : Nat) : Int) == ((b.getD j 0 : Nat) : Int)) := by
  intro j h1 h2
  simp only [List.size_toArray] at h1 h2
  obtain ⟨ta, ha⟩ := d1 j js1[j] (List.getElem?_eq_getElem h1)
  obtain ⟨tb, hb⟩ := d2 j js2[j] (List.getElem?_eq_getElem h2)
  rw [List.getElem_toArray, List.getElem_toArray, ha, hb]
  exact SeqAt.EqAt.int_int _ _ _ _
theorem int_ltAt (a : Int) (t : Tok) (c : Int) (u : Tok) : SeqAt.LtAt A s (.int a t) (.int c u) (decide (a < c)) := fun prog w E Q h => HT.rcLt_int _ s _ _ _ _ prog w E Q h
theorem nums_ltAt {js1 js2 : List Value} (d1 : ∀ (j : Nat) (u : Value), js1[j]? = some u → ∃ t, u = .int ((a.getD j 0 : Nat) : Int) t) (d2 : ∀ (j : Nat) (u : Value), js2[j]? = some u → ∃ t, u = .int ((b.getD j 0 : Nat) : Int) t) :
    ∀ j (h1 : j < js1.toArray.size) (h2 : j < js2.toArray.size), SeqAt.LtAt A s js1.toArray[j] js2.toArray[j] (decide (((a.getD j 0 : Nat) : Int) < ((b.getD j 0 : Nat) : Int))) := by
  intro j h1 h2
  simp only [List.size_toArray] at h1 h2
  obtain ⟨ta, ha⟩ := d1 j js1[j] (List.getElem?_eq_getElem h1)
  obtain ⟨tb, hb⟩ := d2 j js2[j] (List.getElem?_eq_getElem h2)
  rw [List.getElem_toArray, List.getElem_toArray, ha, hb]
  exact int_ltAt _ _ _ _
theorem lists_cmp (ok : HOk P w H s.heap) (hu : A.units < cLine) (f1 : H l1 = some (.lst (a.map vN))) (f2 : H l2 = some (.lst (b.map vN))) (hl : a.length = b.length) :
    SeqAt.EqAt A s (.ref l1) (.ref l2) (decide (a = b)) ∧ SeqAt.LtAt A s (.ref l1) (.ref l2) (Sj.lexLt a b) := by
  obtain ⟨js1, k1, c1, d1⟩ := nums_of ok f1
  obtain ⟨js2, k2, c2, d2⟩ := nums_of ok f2
  have z1 : js1.toArray.size = a.length := by rw [List.size_toArray, c1]
  have z2 : js2.toArray.size = b.length := by rw [List.size_toArray, c2]
  have hsz : js1.toArray.size = js2.toArray.size := by rw [z1, z2, hl]
  constructor
  · by_cases z : l1 = l2
    · subst z
      rw [f1] at f2
      have f2 := Option.some.inj f2
      injection f2 with f2
      rw [decide_eq_true (vN_inj f2)]
      exact SeqAt.EqAt.same _
    · have q := SeqAt.EqAt.of_refs z (SeqAt.RcAt.lists k1 k2 hsz hu (nums_eqAt d1 d2))
      rw [z1, all_eq hl] at q
      exact q
  · have q := SeqAt.LtAt.lists k1 k2 hsz hu (nums_eqAt d1 d2) (nums_ltAt d1 d2)
    rw [z1, ltBy_lex a.length 0 a b (by omega) (by omega), List.drop_zero, List.drop_zero] at q
    exact q
end
theorem vals3 {x y z : V} {us : List Value} (r : Vals [x, y, z] us) : ∃ u v w, us = [u, v, w] ∧ RelV x u ∧ RelV y v ∧ RelV z w := by
  cases r with
  | cons h1 r =>
    cases r with
    | cons h2 r =>
      cases r with
      | cons h3 r =>
        cases r
        exact ⟨_, _, _, rfl, h1, h2, h3⟩
theorem rk_res (a b : Tri) : SeqAt.ltRes [(((a.1 : Nat) : Int) == ((b.1 : Nat) : Int), decide (((a.1 : Nat) : Int) < ((b.1 : Nat) : Int))), (((a.2.1 : Nat) : Int) == ((b.2.1 : Nat) : Int), decide (((a.2.1 : Nat) : Int) < ((b.2.1 : Nat) : Int))), (decide (a.2.2 = b.2.2), Sj.lexLt a.2.2 b.2.2)] = rkLt a b := by
  obtain ⟨a1, a2, a3⟩ := a
  obtain ⟨b1, b2, b3⟩ := b
  simp only [SeqAt.ltRes, rkLt]
  by_cases z1 : a1 = b1
  · subst z1
    by_cases z2 : a2 = b2
    · subst z2
      by_cases z3 : a3 = b3
      · subst z3
        simp [lex_irrefl]
      · simp [z3]
    · have y2 : ¬ ((a2 : Nat) : Int) = b2 := by omega
      simp [z2, y2]
  · have y1 : ¬ ((a1 : Nat) : Int) = b1 := by omega
    simp [z1, y1]
theorem tri_lt {P : Program} {w : World} {H : Hp} {s : Shared} {A : Around} {a b : Tri} {x y : V} {u v : Value} (ok : HOk P w H s.heap) (hu : A.units + 2 < cLine) (hx : TriAt H a x) (hy : TriAt H b y) (hl : a.2.2.length = b.2.2.length) (ru : RelV x u) (rv : RelV y v) :
    SeqAt.LtAt A s u v (rkLt a b) := by
  obtain ⟨t1, l1, rfl, e1, f1⟩ := hx
  obtain ⟨t2, l2, rfl, e2, f2⟩ := hy
  obtain rfl : u = Value.ref t1 := ru
  obtain rfl : v = Value.ref t2 := rv
  obtain ⟨_, is1, r1, p1⟩ := (show ObjOk P w H s.heap t1 (.tup [vN a.1, vN a.2.1, .ref l1]) from ok t1 _ e1)
  obtain ⟨_, is2, r2, p2⟩ := (show ObjOk P w H s.heap t2 (.tup [vN b.1, vN b.2.1, .ref l2]) from ok t2 _ e2)
  have hu1 : A.in1.units < cLine := by show A.units + 1 < cLine; omega
  obtain ⟨e3, l3⟩ := lists_cmp (A := A.in1) ok hu1 f1 f2 hl
  obtain ⟨u1, u2, u3, rfl, ⟨ta, ra⟩, ⟨tb, rb⟩, rc⟩ := vals3 r1
  obtain ⟨w1, w2, w3, rfl, ⟨tc, sa⟩, ⟨td, sb'⟩, sc⟩ := vals3 r2
  obtain rfl : u3 = Value.ref l1 := rc
  obtain rfl : w3 = Value.ref l2 := sc
  subst ra rb sa sb'
  have q := SeqAt.LtAt.tuples (A := A) (s := s) p1 p2 rfl (by omega) (.cons (SeqAt.EqAt.int_int _ _ _ _) (fun _ => int_ltAt _ _ _ _) (.cons (SeqAt.EqAt.int_int _ _ _ _) (fun _ => int_ltAt _ _ _ _) (.cons e3 (fun _ => l3) .nil)))
  rw [rk_res] at q
  exact q
section
variable {X : Cx} {k : Nat} {f : Addr} {fd : FuncData} {ps : List Str} {sp : Sp}
theorem run_in1 {pins : List (Addr × Obj)} {σ : St} {H : Hp} {s : Shared} {Q : VK} {us : List Value} {vs : List V} {E : Value → Shared → Prop} (F : FnOk X.prog X.w X.K X.mg X.base CX0 k f fd ps sp) (hr : Room k X.A.in1) (hb : Binds X.K fd ps [])
    (I : Inv X pins σ H s) (r : Vals vs us) (h : sp vs H Q E0) : wpAny (model X.prog X.w) X.A.in1 (call (.ref f) us) (EP X pins σ Q) E s := by
  have hl : us.length = ps.length := by rw [← r.length]; exact F.len _ _ _ _ h
  have hbs := hb s us I.kIn (by rw [List.append_nil]; exact hl)
  rw [List.append_nil] at hbs
  refine wpAny_call (codeAny_mono (F.run X.A.in1 X.stack s H ⟨us, []⟩ us vs Q E0 hr I.env0.in1 hbs r h) fun r s' hq => ?_)
  cases r with
  | error e => exact hq.elim
  | ok fl =>
    cases fl with
    | ret u => exact I.after hq
    | next => exact False.elim hq
    | brk => exact False.elim hq
    | cont => exact False.elim hq
theorem FpOk.move {pins : List (Addr × Obj)} {H H' : Hp} {b : Addr} (x : FpOk X pins H b) (h : H' b = none) : FpOk X pins H' b := ⟨h, x.2⟩
theorem two_pins {pins : List (Addr × Obj)} {σ : St} {H : Hp} {s : Shared} {S I : Addr} {oS oI : Obj} (x : Inv X pins σ H s) (fS : FpOk X pins H S) (fI : FpOk X pins H I) (gS : s.heap.get? S = some oS) (gI : s.heap.get? I = some oI) (cS : ∀ v, oS.data ≠ .cell v) (cI : ∀ v, oI.data ≠ .cell v) :
    Inv X (pins ++ [(S, oS), (I, oI)]) σ H s := x.pins_of fun p hp => by
  rcases List.mem_append.mp hp with hp | hp
  · exact x.pin p (List.mem_append_right _ hp)
  · rcases List.mem_cons.mp hp with rfl | hp
    · exact ⟨gS, fS.1, fS.2.1, fS.2.2.1, cS⟩
    · have e : p = (I, oI) := by simpa using hp
      subst e
      exact ⟨gI, fI.1, fI.2.1, fI.2.2.1, cI⟩
theorem drop_pins {pins more : List (Addr × Obj)} {σ : St} {H : Hp} {s : Shared} (x : Inv X (pins ++ more) σ H s) : Inv X pins σ H s := x.pins_of fun p hp => x.pin p (List.mem_append_right _ (List.mem_append_left _ hp))
def minEnd (X : Cx) (pins : List (Addr × Obj)) (σ : St) (Q : VK) (r : Result) (s : Shared) : Prop := match r with
  | .ok (.ret u) => EP X pins σ Q u s
  | .ok _ => False
  | .error e => X.xe e s
theorem minkey_loop {pins : List (Addr × Obj)} {σ : St} {H : Hp} {Q : VK} {l I S : Addr} {ys : List V} {ky : Nat → Sj.Tri} {n : Nat} (hc : X.calm = true) (F : FnOk X.prog X.w X.K X.mg X.base CX0 k f fd ps sp) (hr : Room k X.A.in1) (hb : Binds X.K fd ps [])
    (hl : H l = some (.lst ys)) (hSI : S ≠ I) (same : ∀ i, i < ys.length → (ky i).2.2.length = n)
    (turn : ∀ (i : Nat) (y : V) (H' : Hp), ys[i]? = some y → Same H H' → sp [y] H' (fun x H'' => Same H' H'' ∧ TriAt H'' (ky i) x) E0)
    (fin : ∀ (i : Nat) (y : V) (H' : Hp), ys[i]? = some y → (∀ j, j < ys.length → Sj.rkLt (ky j) (ky i) = false) → Same H H' → Q y H') :
    ∀ (r j i : Nat) (H' : Hp) (s : Shared) (yb xb : V) (vb kb : Value) (c : Nat), ys.length - (j + 1) = r → j + 1 ≤ ys.length → Inv X pins σ H' s → Same H H' → FpOk X pins H' S → FpOk X pins H' I →
      s.heap.get? S = some (seqObj "list" #[vb, kb] c) → s.heap.IsListIter I l (j + 1) → ys[i]? = some yb → RelV yb vb → TriAt H' (ky i) xb → RelV xb kb → i ≤ j → (∀ j', j' ≤ j → Sj.rkLt (ky j') (ky i) = false) →
      codeAny (model X.prog X.w) X.A (.builtin "min.loop" ⟨[.ref I, .ref f, .ref S], []⟩) (minEnd X pins σ Q) s := by
  have hname : (toString "min" ++ toString ".loop" : String) = "min.loop" := by decide
  intro r
  induction r with
  | zero =>
    intro j i H' s yb xb vb kb c hrest hj J sH fS fI gS hit hyb rvb kkb rkb hij least
    have hin : j + 1 = ys.length := by omega
    have hlI : l ≠ I := fun z => by have := sH _ _ hl; rw [z, fI.1] at this; cases this
    obtain ⟨its, rv, isl, _⟩ := J.list (SqL.of (sH _ _ hl))
    have hsz : its.toArray.size = ys.length := by rw [List.size_toArray, ← rv.length]
    have W := Walks.list (prog := X.prog) (w := X.w) (A := X.A.in1) (J.ok.hd hc) I l hlI its.toArray
    refine codeAny_builtin PySem.F.entry_min_loop ?_
    rw [Around.under_plainId PySem.F.plain_min_loop _]
    show wpAny _ X.A.in1 (seqItems? (.ref S) >>= _) _ _ _; refine wpAny_bind (wpAny_seqItems gS rfl ?_)
    show wpAny _ X.A.in1 (tryCatch (pyNext (.ref I)) _ >>= _) _ _ _
    refine wpAny_bind (wpAny_tryCatch (W.done _ _ _ ⟨by rw [hsz, ← hin]; exact hit, isl.isList⟩ fun h' tk' kept => ?_))
    have J1 : Inv X pins σ H' { s with heap := h', toks := tk' } := J.turned (it := I) (t' := tk') (fun b o hb e => kept b o (by simpa using hb) e) fI.1 fI.2.1 fI.2.2.2.1 fI.2.2.2.2.1 fI.2.2.2.2.2
    have gS' := kept S _ (by simpa using hSI) gS
    have sb := Heap.SameBut.update h' S (Obj.mapSeq fun _ => (#[] : Array Value))
    show wpAny _ X.A.in1 (updateSeq S (fun _ => #[]) >>= _) _ _ _; refine wpAny_bind ?_
    refine wpAny_updateSeq gS' rfl (wpAny_bind (wpAny_letGo (wpAny_pure ?_)))
    exact ⟨yb, H', J1.turned (it := S) (t' := tk') (fun b o hb e => (sb.2 b hb).trans e) fS.1 fS.2.1 fS.2.2.2.1 fS.2.2.2.2.1 fS.2.2.2.2.2, rvb, fin i yb H' hyb (fun j' hj' => least j' (by omega)) sH⟩
  | succ r ih =>
    intro j i H' s yb xb vb kb c hrest hj J sH fS fI gS hit hyb rvb kkb rkb hij least
    have hlt : j + 1 < ys.length := by omega
    have hlI : l ≠ I := fun z => by have := sH _ _ hl; rw [z, fI.1] at this; cases this
    obtain ⟨its, rv, isl, _⟩ := J.list (SqL.of (sH _ _ hl))
    have hsz : its.toArray.size = ys.length := by rw [List.size_toArray, ← rv.length]
    have W := Walks.list (prog := X.prog) (w := X.w) (A := X.A.in1) (J.ok.hd hc) I l hlI its.toArray
    refine codeAny_builtin PySem.F.entry_min_loop ?_
    rw [Around.under_plainId PySem.F.plain_min_loop _]
    show wpAny _ X.A.in1 (seqItems? (.ref S) >>= _) _ _ _; refine wpAny_bind (wpAny_seqItems gS rfl ?_)
    show wpAny _ X.A.in1 (tryCatch (pyNext (.ref I)) _ >>= _) _ _ _
    refine wpAny_bind (wpAny_tryCatch (W.item (j + 1) _ _ _ (by rw [hsz]; exact hlt) ⟨hit, isl.isList⟩ fun v h' tk' hP st' kept => ?_))
    have J1 : Inv X pins σ H' { s with heap := h', toks := tk' } := J.turned (it := I) (t' := tk') (fun b o hb e => kept b o (by simpa using hb) e) fI.1 fI.2.1 fI.2.2.2.1 fI.2.2.2.2.1 fI.2.2.2.2.2
    have gS' : h'.get? S = some (seqObj "list" #[vb, kb] c) := kept S _ (by simpa using hSI) gS
    obtain ⟨oI, goI, clI, daI⟩ := id st'.1
    obtain ⟨y, hy⟩ : ∃ y, ys[j + 1]? = some y := ⟨ys[j + 1], List.getElem?_eq_getElem hlt⟩
    obtain ⟨v', hv', ryv⟩ := rv.get hy
    have ev : v = v' := by
      have hP : its[j + 1]? = some v := by simpa using hP
      rw [hv'] at hP
      exact (Option.some.inj hP).symm
    subst ev
    have J2 := two_pins (oS := seqObj "list" #[vb, kb] c) (oI := oI) J1 fS fI gS' goI (fun v z => by cases z) (fun v z => by rw [daI] at z; cases z)
    show wpAny _ X.A.in1 (tryCatch (holding [v] (call (.ref f) [v])) _ >>= _) _ _ _
    refine wpAny_bind (wpAny_tryCatch (wpAny_holding (wpAny_mono (run_in1 (E := fun _ _ => False) F hr hb J2 (.cons ryv .nil) (turn (j + 1) y H' hy sH)) (fun x s'' he => ?_) fun _ _ hF => hF.elim)))
    obtain ⟨xk, H2, J3, rk, s2, kk2⟩ := he
    have pS := J3.pin (S, seqObj "list" #[vb, kb] c) (List.mem_append_right _ (List.mem_append_right _ (.head _)))
    have pI := J3.pin (I, oI) (List.mem_append_right _ (List.mem_append_right _ (.tail _ (.head _))))
    have J4 := drop_pins J3
    have fS2 := FpOk.move fS pS.2.1
    have fI2 := FpOk.move fI pI.2.1
    have hit2 : s''.heap.IsListIter I l (j + 1 + 1) := ⟨oI, pI.1, clI, daI⟩
    have cmp := tri_lt (A := X.A.in1) J4.hok (show X.A.units + 1 + 2 < cLine by have := hr.un; have : X.A.in1.units = X.A.units + 1 := rfl; omega) kk2 (kkb.keep s2) (by rw [same _ hlt, same _ (by omega)]) rk rkb
    show wpAny _ X.A.in1 (tryCatch (holding [v, x] (richCompare .Lt x kb >>= _)) _ >>= _) _ _ _
    refine wpAny_bind (wpAny_tryCatch (wpAny_holding (wpAny_bind (cmp X.prog X.w _ _ ?_))))
    refine wpAny_bind (wpAny_holding (wpAny_truthy_bool ?_)); refine wpAny_bind (wpAny_letGo (wpAny_pure ?_))
    by_cases hb' : Sj.rkLt (ky (j + 1)) (ky i) = true
    · have sb := Heap.SameBut.update s''.heap S (Obj.mapSeq fun _ => #[v, x])
      obtain ⟨c2, hc2⟩ : ∃ c2, (s''.heap.update S (Obj.mapSeq fun _ => #[v, x])).get? S = some (seqObj "list" #[v, x] c2) := ⟨_, get?_update_seq pS.1 fun _ => #[v, x]⟩
      simp only [hb', if_true]
      refine wpAny_bind ?_
      refine wpAny_updateSeq pS.1 rfl (wpAny_bind (wpAny_letGo ?_))
      rw [hname]
      have J5 : Inv X pins σ H2 { s'' with heap := s''.heap.update S (Obj.mapSeq fun _ => #[v, x]), toks := s''.toks } := J4.turned (it := S) (fun b o hb e => (sb.2 b hb).trans e) fS2.1 fS2.2.1 fS2.2.2.2.1 fS2.2.2.2.2.1 fS2.2.2.2.2.2
      refine wpAny_pure ⟨plainId_quiet PySem.F.plain_min_loop _, ih (j + 1) (j + 1) H2 _ y xk v x c2 (by omega) hlt J5 (sH.trans s2) fS2 fI2 hc2 ⟨oI, (sb.2 I hSI.symm).trans pI.1, clI, daI⟩ hy ryv kk2 rk (Nat.le_refl _) fun j' hj' => ?_⟩
      by_cases e : j' = j + 1
      · subst e
        exact Sj.rk_irrefl _
      · cases q : Sj.rkLt (ky j') (ky (j + 1)) with
        | false => rfl
        | true =>
          have := least j' (by omega)
          rw [Sj.rk_trans q hb'] at this
          cases this
    · have hb' : Sj.rkLt (ky (j + 1)) (ky i) = false := by simpa using hb'
      simp only [hb', Bool.false_eq_true, if_false]
      refine wpAny_bind (wpAny_letGo ?_)
      rw [hname]
      refine wpAny_pure ⟨plainId_quiet PySem.F.plain_min_loop _, ih (j + 1) i H2 s'' yb xb vb kb c (by omega) hlt J4 (sH.trans s2) fS2 fI2 pS.1 hit2 hyb rvb (kkb.keep s2) rkb (by omega) fun j' hj' => ?_⟩
      by_cases e : j' = j + 1
      · subst e
        exact hb'
      · exact least j' (by omega)
theorem call_minkey {pins : List (Addr × Obj)} {σ : St} {H : Hp} {s : Shared} {Q : VK} {l : Addr} {ys : List V} {ky : Nat → Sj.Tri} {n : Nat} (hc : X.calm = true) (F : FnOk X.prog X.w X.K X.mg X.base CX0 k f fd ps sp) (hr : Room k X.A.in1) (hb : Binds X.K fd ps [])
    (J : Inv X pins σ H s) (hl : H l = some (.lst ys)) (hne : 0 < ys.length) (same : ∀ i, i < ys.length → (ky i).2.2.length = n)
    (turn : ∀ (i : Nat) (y : V) (H' : Hp), ys[i]? = some y → Same H H' → sp [y] H' (fun x H'' => Same H' H'' ∧ TriAt H'' (ky i) x) E0)
    (fin : ∀ (i : Nat) (y : V) (H' : Hp), ys[i]? = some y → (∀ j, j < ys.length → Sj.rkLt (ky j) (ky i) = false) → Same H H' → Q y H') :
    wpAny (model X.prog X.w) X.A (call (.builtin "min") [.ref l] [(Str.ofString "key", .ref f)]) (EP X pins σ Q) X.xe s := by
  have hname : (toString "min" ++ toString ".loop" : String) = "min.loop" := by decide
  obtain ⟨its, rv, isl, _⟩ := J.list (SqL.of hl)
  have hsz : its.toArray.size = ys.length := by rw [List.size_toArray, ← rv.length]
  have ltl : l < s.heap.objs.size := J.hok.lt hl
  refine kmk_tree PySem.F.kind_min PySem.F.plain_min PySem.F.entry_min (kmk_min_key _ _) ?_
  show wpAny _ X.A.in1 (Builtin.Builtins.bindParams "min" ["key", "default"] 0 ⟨[], [(Str.ofString "key", .ref f)]⟩ >>= _) _ _ s
  refine wpAny_bind (wpAny_of_eq (show Builtin.Builtins.bindParams "min" ["key", "default"] 0 ⟨[], [(Str.ofString "key", .ref f)]⟩ = pure [some (.ref f), none] from rfl) ?_)
  refine wpAny_bind (wpAny_pure ?_); refine wpAny_bind (wpAny_pyIter_list isl.isList ?_)
  refine wpAny_bind (wpAny_newList ?_ (Nat.zero_le _))
  rw [hname]
  generalize hI : s.heap.objs.size = I at ltl
  have eS : (s.heap.push { cls := .type "list_iterator", data := .fields #[.ref l, .int 0 0] }).objs.size = I + 1 := by rw [← hI]; exact size_push' ..
  have gI : ((s.heap.push { cls := .type "list_iterator", data := .fields #[.ref l, .int 0 0] }).push (seqObj "list" #[] 0)).get? I = some { cls := .type "list_iterator", data := .fields #[.ref l, .int 0 0] } := by
    rw [← hI]; exact Heap.get?_push_of_some _ (Heap.get?_push_size _ rfl)
  have gS : ((s.heap.push { cls := .type "list_iterator", data := .fields #[.ref l, .int 0 0] }).push (seqObj "list" #[] 0)).get? (I + 1) = some (seqObj "list" #[] 0) := by rw [← eS]; exact Heap.get?_push_size _ rfl
  rw [eS]
  have J0 : Inv X pins σ H { s with heap := (s.heap.push { cls := .type "list_iterator", data := .fields #[.ref l, .int 0 0] }).push (seqObj "list" #[] 0), toks := s.toks } := J.kept fun b u e => Heap.get?_push_of_some _ (Heap.get?_push_of_some _ e)
  have fI : FpOk X pins H I := J.fpOk (Nat.le_of_eq hI) (J.hok.fresh (Nat.le_of_eq hI))
  have fS : FpOk X pins H (I + 1) := J.fpOk (Nat.le_succ_of_le (Nat.le_of_eq hI)) (J.hok.fresh (Nat.le_succ_of_le (Nat.le_of_eq hI)))
  have hSI : I + 1 ≠ I := Nat.succ_ne_self I
  have hlI : l ≠ I := Nat.ne_of_lt ltl
  obtain ⟨its0, rv0, isl0, _⟩ := J0.list (SqL.of hl)
  have hsz0 : its0.toArray.size = ys.length := by rw [List.size_toArray, ← rv0.length]
  refine wpAny_pure ⟨plainId_quiet PySem.F.plain_min_loop _, ?_⟩
  have W := Walks.list (prog := X.prog) (w := X.w) (A := X.A.in1) (J.ok.hd hc) I l hlI its0.toArray
  refine codeAny_builtin PySem.F.entry_min_loop ?_
  rw [Around.under_plainId PySem.F.plain_min_loop _]
  show wpAny _ X.A.in1 (seqItems? (.ref (I + 1)) >>= _) _ _ _; refine wpAny_bind (wpAny_seqItems gS rfl ?_)
  show wpAny _ X.A.in1 (tryCatch (pyNext (.ref I)) _ >>= _) _ _ _
  refine wpAny_bind (wpAny_tryCatch (W.item 0 _ _ _ (by rw [hsz0]; exact hne) ⟨⟨_, gI, rfl, rfl⟩, isl0.isList⟩ fun v h' tk' hP st' kept => ?_))
  have J1 : Inv X pins σ H { s with heap := h', toks := tk' } := by
    have := J0.turned (it := I) (h' := h') (t' := tk') (fun b o hb e => kept b o (by simpa using hb) e) fI.1 fI.2.1 fI.2.2.2.1 fI.2.2.2.2.1 fI.2.2.2.2.2
    exact this
  have gS' : h'.get? (I + 1) = some (seqObj "list" #[] 0) := kept (I + 1) _ (by simpa using hSI) gS
  obtain ⟨oI, goI, clI, daI⟩ := id st'.1
  obtain ⟨y, hy⟩ : ∃ y, ys[0]? = some y := ⟨ys[0], List.getElem?_eq_getElem hne⟩
  obtain ⟨v', hv', ryv⟩ := rv0.get hy
  have ev : v = v' := by
    have hP : its0[0]? = some v := by simpa using hP
    rw [hv'] at hP
    exact (Option.some.inj hP).symm
  subst ev
  have J2 := two_pins (oS := seqObj "list" #[] 0) (oI := oI) J1 fS fI gS' goI (fun v z => by cases z) (fun v z => by rw [daI] at z; cases z)
  show wpAny _ X.A.in1 (tryCatch (holding [v] (call (.ref f) [v])) _ >>= _) _ _ _
  refine wpAny_bind (wpAny_tryCatch (wpAny_holding (wpAny_mono (run_in1 (E := fun _ _ => False) F hr hb J2 (.cons ryv .nil) (turn 0 y H hy (Same.refl _))) (fun x s'' he => ?_) fun _ _ hF => hF.elim)))
  obtain ⟨xk, H2, J3, rk, s2, kk2⟩ := he
  have pS := J3.pin (I + 1, seqObj "list" #[] 0) (List.mem_append_right _ (List.mem_append_right _ (.head _)))
  have pI := J3.pin (I, oI) (List.mem_append_right _ (List.mem_append_right _ (.tail _ (.head _))))
  have J4 := drop_pins J3
  have fS2 := FpOk.move fS pS.2.1
  have fI2 := FpOk.move fI pI.2.1
  have sb := Heap.SameBut.update s''.heap (I + 1) (Obj.mapSeq fun _ => #[v, x])
  obtain ⟨c2, hc2⟩ : ∃ c2, (s''.heap.update (I + 1) (Obj.mapSeq fun _ => #[v, x])).get? (I + 1) = some (seqObj "list" #[v, x] c2) := ⟨_, get?_update_seq pS.1 fun _ => #[v, x]⟩
  show wpAny _ X.A.in1 (updateSeq (I + 1) (fun _ => #[v, x]) >>= _) _ _ _; refine wpAny_bind ?_
  refine wpAny_updateSeq pS.1 rfl ?_
  rw [hname]
  have J5 : Inv X pins σ H2 { s'' with heap := s''.heap.update (I + 1) (Obj.mapSeq fun _ => #[v, x]), toks := s''.toks } := J4.turned (it := I + 1) (fun b o hb e => (sb.2 b hb).trans e) fS2.1 fS2.2.1 fS2.2.2.2.1 fS2.2.2.2.2.1 fS2.2.2.2.2.2
  refine wpAny_pure ⟨plainId_quiet PySem.F.plain_min_loop _, ?_⟩
  have key := minkey_loop (Q := Q) hc F hr hb hl hSI same turn fin _ 0 0 H2 _ y xk v x c2 rfl hne J5 s2 fS2 fI2 hc2 ⟨oI, (sb.2 I hSI.symm).trans pI.1, clI, daI⟩ hy ryv kk2 rk (Nat.le_refl _) (fun j' hj' => by
    have e : j' = 0 := by omega
    subst e
    exact Sj.rk_irrefl _)
  exact codeAny_mono key fun r s' h => by
    cases r with
    | error e => exact h
    | ok fl => cases fl <;> exact h
end
def minBody (sp : Sp) (Q : VK) (x : V) (H1 : Hp) : Prop := ∃ (l : Addr) (ys : List V) (ky : Nat → Sj.Tri) (n : Nat), x = .ref l ∧ H1 l = some (.lst ys) ∧ 0 < ys.length ∧ (∀ i, i < ys.length → (ky i).2.2.length = n) ∧
  (∀ (i : Nat) (y : V) (H' : Hp), ys[i]? = some y → Same H1 H' → sp [y] H' (fun x H'' => Same H' H'' ∧ TriAt H'' (ky i) x) E0) ∧
  ∀ (i : Nat) (y : V) (H' : Hp), ys[i]? = some y → (∀ j, j < ys.length → Sj.rkLt (ky j) (ky i) = false) → Same H1 H' → Q y H'
def tMinK (sp : Sp) (te : TE) : TE := fun σ H Q => te σ H (minBody sp Q)
def minArgs (sp : Sp) (Q : VK) (vs : List V) (H1 : Hp) : Prop := match vs with
  | [x] => minBody sp Q x H1
  | _ => False
theorem pe_minK {X : Cx} {k : Nat} {x : Str} {ps : List Str} {sp : Sp} {e : Expr} {te : TE} {p kp1 kp2 pos : Pos} (hc : X.calm = true) (c : Callee X.prog X.w X.K X.mg X.base k x ps sp) (hr : Room (k + 1) X.A) (he : PE X e te) (hmin : X.mg "min" = none) (hg : Gl X "min" := by rfl) (hgx : Gl X x := by rfl) (hdx : (x == ("__debug__" : Str)) = false := by decide)
    (h0 : starEach [e] X.env = (false, eval e X.env) :: starEach [] X.env := by rfl) (h1 : backTo pos (starEach [e] X.env) = (false, eval e X.env) :: backTo pos (starEach [] X.env) := by rfl) (h2 : (backTo pos (starEach [e] X.env)).any (·.1) = false := by rfl) : PE X (.Call (.Name "min" p) [e] [⟨some "key", .Name x kp1, kp2⟩] pos) (tMinK sp te) := by
  intro pins s σ H Q I h
  obtain ⟨f, fd, F, hm, hk, hb⟩ := c
  refine wpAny_Call_Name_kw (ld_blt I hg hmin bt_min ?_)
  have ha : PA X [e] (tCons te tNil) := pa_cons (hs := h0) he pa_nil
  refine PyProof.Rows.callWith_kw (thn (ha pos pins s σ H (minArgs sp Q) I h) fun us s1 ⟨vs, H1, I1, r, q⟩ => ?_) h1 h2
  match vs, r, q with
  | [v], r, ⟨l, ys, ky, n, ex, hl, hne, same, turn, fin⟩ =>
    subst ex
    obtain ⟨u, rfl, ru⟩ := vals1 r
    cases (show u = Value.ref l from ru)
    have hkw : PK X [⟨some "key", .Name x kp1, kp2⟩] (tCons (tC (.ref f)) tNil) := pk_cons (pe_glob hgx hm rfl hdx) pk_nil
    refine thn (hkw pos pins s1 σ H1 (fun zs H2 => zs = [.ref f] ∧ H2 = H1) I1 ⟨rfl, rfl⟩) fun ws s2 ⟨zs, H2, I2, rz, ez, eH⟩ => ?_
    subst ez eH
    obtain ⟨u2, rfl, ru2⟩ := vals1 rz
    cases (show u2 = Value.ref f from ru2)
    exact call_minkey hc F hr.in1 hb I2 hl hne same turn fin
end L2
end
section
set_option Elab.async false
set_option linter.all false
set_option maxRecDepth 100000
set_option maxHeartbeats 2000000
namespace Sj
open PySem PySem.Spec PyProof.Rows L2
def top (i : Nat) : Stmt := PySem.Challenge.pw_stepjobs_s01_answers.main.body.getD i (.Pass ⟨0, 0, 0, 0⟩)
abbrev s_rests_fit : Stmt := top 9
abbrev s_machine_fits : Stmt := top 10
abbrev s_step_fits : Stmt := top 11
abbrev s_job_fits : Stmt := top 12
abbrev s_steps_together : Stmt := top 13
abbrev s_is_order : Stmt := top 14
abbrev s_last_place : Stmt := top 20
abbrev s_place_of_last_step : Stmt := top 21
abbrev s_place_before_on_machine : Stmt := top 22
abbrev s_cause_of : Stmt := top 23
abbrev s_chain : Stmt := top 24
abbrev s_Machine_init : Stmt := inClass (top 26) 0
abbrev s_Step_init : Stmt := inClass (top 27) 0
abbrev s_Job_init : Stmt := inClass (top 28) 0
abbrev s_Placed_init : Stmt := inClass (top 30) 0
abbrev s_Timetable_init : Stmt := inClass (top 31) 0
abbrev s_Timetable_put : Stmt := inClass (top 31) 1
abbrev s_Timetable_has_more : Stmt := inClass (top 31) 2
abbrev s_Timetable_ahead : Stmt := inClass (top 31) 3
abbrev s_Timetable_copied : Stmt := inClass (top 31) 4
abbrev s_new_timetable : Stmt := top 32
abbrev s_first_time : Stmt := top 33
abbrev s_put_in_time : Stmt := top 34
abbrev s_job_ends : Stmt := top 35
abbrev s_late : Stmt := top 36
abbrev s_job_cost : Stmt := top 37
abbrev s_cost : Stmt := top 38
abbrev s_order_cost : Stmt := top 39
abbrev s_with_longer_step : Stmt := top 42
abbrev s_most_longer : Stmt := top 43
abbrev s_Beginning_init : Stmt := inClass (top 45) 0
abbrev s_rank : Stmt := top 46
abbrev s_with_next : Stmt := top 47
abbrev s_as_one : Stmt := top 48
abbrev s_longer_by_one : Stmt := top 49
abbrev s_best_order : Stmt := top 50
abbrev s_how_many_orders : Stmt := top 51
abbrev s_House_init : Stmt := inClass (top 66) 0
abbrev s_House_begin_anew : Stmt := inClass (top 66) 1
abbrev s_House_add_machine : Stmt := inClass (top 66) 2
abbrev s_House_add_job : Stmt := inClass (top 66) 3
abbrev s_House_drop_job : Stmt := inClass (top 66) 4
abbrev s_House_times_by : Stmt := inClass (top 66) 5
abbrev s_House_best : Stmt := inClass (top 66) 6
abbrev s_House_count_orders : Stmt := inClass (top 66) 7
abbrev s_House_why : Stmt := inClass (top 66) 8
abbrev s_House_slack : Stmt := inClass (top 66) 9
abbrev s_told_machine : Stmt := top 67
abbrev s_told_job : Stmt := top 68
abbrev s_answer_to : Stmt := top 69
abbrev s_answers : Stmt := top 70
structure Cs where
  cMachine : Addr
  cStep : Addr
  cJob : Addr
  cPlaced : Addr
  cTimetable : Addr
  cBeginning : Addr
  cHouse : Addr
structure Txt (K : PySem.W.Frag) (mg : Str → Option Value) (c : Cs) : Prop where
  cl_Machine : Cls K c.cMachine
  n_Machine_change : NoAttr K c.cMachine "change"
  n_Machine_rests : NoAttr K c.cMachine "rests"
  cl_Step : Cls K c.cStep
  n_Step_machine : NoAttr K c.cStep "machine"
  n_Step_kind : NoAttr K c.cStep "kind"
  n_Step_length : NoAttr K c.cStep "length"
  cl_Job : Cls K c.cJob
  n_Job_start : NoAttr K c.cJob "start"
  n_Job_due : NoAttr K c.cJob "due"
  n_Job_weight : NoAttr K c.cJob "weight"
  n_Job_steps : NoAttr K c.cJob "steps"
  cl_Placed : Cls K c.cPlaced
  n_Placed_job : NoAttr K c.cPlaced "job"
  n_Placed_which : NoAttr K c.cPlaced "which"
  n_Placed_machine : NoAttr K c.cPlaced "machine"
  n_Placed_ready : NoAttr K c.cPlaced "ready"
  n_Placed_begin : NoAttr K c.cPlaced "begin"
  n_Placed_stop : NoAttr K c.cPlaced "stop"
  cl_Timetable : Cls K c.cTimetable
  n_Timetable_machines : NoAttr K c.cTimetable "machines"
  n_Timetable_jobs : NoAttr K c.cTimetable "jobs"
  n_Timetable_upcoming : NoAttr K c.cTimetable "upcoming"
  n_Timetable_job_stops : NoAttr K c.cTimetable "job_stops"
  n_Timetable_machine_stops : NoAttr K c.cTimetable "machine_stops"
  n_Timetable_kinds : NoAttr K c.cTimetable "kinds"
  cl_Beginning : Cls K c.cBeginning
  n_Beginning_timetable : NoAttr K c.cBeginning "timetable"
  n_Beginning_order : NoAttr K c.cBeginning "order"
  n_Beginning_spent : NoAttr K c.cBeginning "spent"
  n_Beginning_ended : NoAttr K c.cBeginning "ended"
  n_Beginning_ways : NoAttr K c.cBeginning "ways"
  cl_House : Cls K c.cHouse
  n_House_machines : NoAttr K c.cHouse "machines"
  n_House_jobs : NoAttr K c.cHouse "jobs"
  c_MOST_MACHINES : ∃ t, mg "MOST_MACHINES" = some (Value.int (4) t)
  c_MOST_RESTS : ∃ t, mg "MOST_RESTS" = some (Value.int (4) t)
  c_MOST_STEPS : ∃ t, mg "MOST_STEPS" = some (Value.int (8) t)
  c_MOST_CHANGE : ∃ t, mg "MOST_CHANGE" = some (Value.int (1000) t)
  c_MOST_WEIGHT : ∃ t, mg "MOST_WEIGHT" = some (Value.int (1000) t)
  c_MOST_KIND : ∃ t, mg "MOST_KIND" = some (Value.int (9) t)
  c_MOST_LENGTH : ∃ t, mg "MOST_LENGTH" = some (Value.int (1000) t)
  c_LAST_TIME : ∃ t, mg "LAST_TIME" = some (Value.int (10000) t)
  c_CAUSE_OWN : ∃ t, mg "CAUSE_OWN" = some (Value.int (0) t)
  c_CAUSE_MACHINE : ∃ t, mg "CAUSE_MACHINE" = some (Value.int (1) t)
  c_CAUSE_FROM : ∃ t, mg "CAUSE_FROM" = some (Value.int (2) t)
  c_CAUSE_REST : ∃ t, mg "CAUSE_REST" = some (Value.int (3) t)
  c_MOST_LONGER : ∃ t, mg "MOST_LONGER" = some (Value.int (100) t)
  c_CALL_BEGINS : ∃ t, mg "CALL_BEGINS" = some (Value.int (0) t)
  c_CALL_MACHINE : ∃ t, mg "CALL_MACHINE" = some (Value.int (1) t)
  c_CALL_JOB : ∃ t, mg "CALL_JOB" = some (Value.int (2) t)
  c_CALL_DROP : ∃ t, mg "CALL_DROP" = some (Value.int (3) t)
  c_CALL_TIMES : ∃ t, mg "CALL_TIMES" = some (Value.int (4) t)
  c_CALL_BEST : ∃ t, mg "CALL_BEST" = some (Value.int (5) t)
  c_CALL_WAYS : ∃ t, mg "CALL_WAYS" = some (Value.int (6) t)
  c_CALL_WHY : ∃ t, mg "CALL_WHY" = some (Value.int (7) t)
  c_CALL_SLACK : ∃ t, mg "CALL_SLACK" = some (Value.int (8) t)
  c_OUT_OF_BOUNDS : ∃ t, mg "OUT_OF_BOUNDS" = some (Value.int (-1) t)
  c_NOT_THERE : ∃ t, mg "NOT_THERE" = some (Value.int (-2) t)
  c_NO_ROOM : ∃ t, mg "NO_ROOM" = some (Value.int (-5) t)
  c_NO_ORDER : ∃ t, mg "NO_ORDER" = some (Value.int (-6) t)
  b_len : mg "len" = none
  b_range : mg "range" = none
  b_enumerate : mg "enumerate" = none
  b_zip : mg "zip" = none
  b_sum : mg "sum" = none
  b_all : mg "all" = none
  b_max : mg "max" = none
  b_min : mg "min" = none
  b_list : mg "list" = none
  b_tuple : mg "tuple" = none
theorem sc_rests_fit : FnScope ["rests", "ended", "begin", "end"] ["rests"] (defScope s_rests_fit) := ⟨rfl, rfl, rfl, by decide +kernel, rfl, by decide +kernel, by decide +kernel⟩
theorem sc_machine_fits : FnScope ["machine"] ["machine"] (defScope s_machine_fits) := ⟨rfl, rfl, rfl, by decide +kernel, rfl, by decide +kernel, by decide +kernel⟩
theorem sc_step_fits : FnScope ["step", "machines"] ["step", "machines"] (defScope s_step_fits) := ⟨rfl, rfl, rfl, by decide +kernel, rfl, by decide +kernel, by decide +kernel⟩
theorem sc_job_fits : FnScope ["job", "machines", "step"] ["job", "machines"] (defScope s_job_fits) := ⟨rfl, rfl, rfl, by decide +kernel, rfl, by decide +kernel, by decide +kernel⟩
theorem sc_steps_together : FnScope ["jobs", "job"] ["jobs"] (defScope s_steps_together) := ⟨rfl, rfl, rfl, by decide +kernel, rfl, by decide +kernel, by decide +kernel⟩
theorem sc_is_order : FnScope ["jobs", "order", "number", "job"] ["jobs", "order"] (defScope s_is_order) := ⟨rfl, rfl, rfl, by decide +kernel, rfl, by decide +kernel, by decide +kernel⟩
theorem sc_last_place : FnScope ["numbers", "number", "place", "one"] ["numbers", "number"] (defScope s_last_place) := ⟨rfl, rfl, rfl, by decide +kernel, rfl, by decide +kernel, by decide +kernel⟩
theorem sc_place_of_last_step : FnScope ["placed", "number", "step"] ["placed", "number"] (defScope s_place_of_last_step) := ⟨rfl, rfl, rfl, by decide +kernel, rfl, by decide +kernel, by decide +kernel⟩
theorem sc_place_before_on_machine : FnScope ["placed", "place", "step"] ["placed", "place"] (defScope s_place_before_on_machine) := ⟨rfl, rfl, rfl, by decide +kernel, rfl, by decide +kernel, by decide +kernel⟩
theorem sc_cause_of : FnScope ["jobs", "placed", "place", "step", "own"] ["jobs", "placed", "place"] (defScope s_cause_of) := ⟨rfl, rfl, rfl, by decide +kernel, rfl, by decide +kernel, by decide +kernel⟩
theorem sc_chain : FnScope ["jobs", "placed", "number", "links", "place", "step", "cause"] ["jobs", "placed", "number"] (defScope s_chain) := ⟨rfl, rfl, rfl, by decide +kernel, rfl, by decide +kernel, by decide +kernel⟩
theorem sc_Machine_init : FnScope ["self", "change", "rests"] ["self", "change", "rests"] (defScope s_Machine_init) := ⟨rfl, rfl, rfl, by decide +kernel, rfl, by decide +kernel, by decide +kernel⟩
theorem sc_Step_init : FnScope ["self", "machine", "kind", "length"] ["self", "machine", "kind", "length"] (defScope s_Step_init) := ⟨rfl, rfl, rfl, by decide +kernel, rfl, by decide +kernel, by decide +kernel⟩
theorem sc_Job_init : FnScope ["self", "start", "due", "weight", "steps"] ["self", "start", "due", "weight", "steps"] (defScope s_Job_init) := ⟨rfl, rfl, rfl, by decide +kernel, rfl, by decide +kernel, by decide +kernel⟩
theorem sc_Placed_init : FnScope ["self", "job", "which", "machine", "ready", "begin", "stop"] ["self", "job", "which", "machine", "ready", "begin", "stop"] (defScope s_Placed_init) := ⟨rfl, rfl, rfl, by decide +kernel, rfl, by decide +kernel, by decide +kernel⟩
theorem sc_Timetable_init : FnScope ["self", "machines", "jobs", "upcoming", "job_stops", "machine_stops", "kinds"] ["self", "machines", "jobs", "upcoming", "job_stops", "machine_stops", "kinds"] (defScope s_Timetable_init) := ⟨rfl, rfl, rfl, by decide +kernel, rfl, by decide +kernel, by decide +kernel⟩
theorem sc_Timetable_put : FnScope ["self", "number", "which", "step", "machine", "takes", "ready", "begin", "stop"] ["self", "number"] (defScope s_Timetable_put) := ⟨rfl, rfl, rfl, by decide +kernel, rfl, by decide +kernel, by decide +kernel⟩
theorem sc_Timetable_has_more : FnScope ["self", "number"] ["self", "number"] (defScope s_Timetable_has_more) := ⟨rfl, rfl, rfl, by decide +kernel, rfl, by decide +kernel, by decide +kernel⟩
theorem sc_Timetable_ahead : FnScope ["self"] ["self"] (defScope s_Timetable_ahead) := ⟨rfl, rfl, rfl, by decide +kernel, rfl, by decide +kernel, by decide +kernel⟩
theorem sc_Timetable_copied : FnScope ["self"] ["self"] (defScope s_Timetable_copied) := ⟨rfl, rfl, rfl, by decide +kernel, rfl, by decide +kernel, by decide +kernel⟩
theorem sc_new_timetable : FnScope ["machines", "jobs", "starts", "kinds", "job", "machine"] ["machines", "jobs"] (defScope s_new_timetable) := ⟨rfl, rfl, rfl, by decide +kernel, rfl, by decide +kernel, by decide +kernel⟩
theorem sc_first_time : FnScope ["rests", "ready", "takes", "begin", "rest_begin", "rest_end"] ["rests", "ready", "takes"] (defScope s_first_time) := ⟨rfl, rfl, rfl, by decide +kernel, rfl, by decide +kernel, by decide +kernel⟩
theorem sc_put_in_time : FnScope ["machines", "jobs", "order", "timetable", "placed", "number"] ["machines", "jobs", "order"] (defScope s_put_in_time) := ⟨rfl, rfl, rfl, by decide +kernel, rfl, by decide +kernel, by decide +kernel⟩
theorem sc_job_ends : FnScope ["jobs", "placed", "ends", "step", "job"] ["jobs", "placed"] (defScope s_job_ends) := ⟨rfl, rfl, rfl, by decide +kernel, rfl, by decide +kernel, by decide +kernel⟩
theorem sc_late : FnScope ["job", "end"] ["job", "end"] (defScope s_late) := ⟨rfl, rfl, rfl, by decide +kernel, rfl, by decide +kernel, by decide +kernel⟩
theorem sc_job_cost : FnScope ["job", "end"] ["job", "end"] (defScope s_job_cost) := ⟨rfl, rfl, rfl, by decide +kernel, rfl, by decide +kernel, by decide +kernel⟩
theorem sc_cost : FnScope ["jobs", "ends", "job", "end"] ["jobs", "ends"] (defScope s_cost) := ⟨rfl, rfl, rfl, by decide +kernel, rfl, by decide +kernel, by decide +kernel⟩
theorem sc_order_cost : FnScope ["machines", "jobs", "order"] ["machines", "jobs", "order"] (defScope s_order_cost) := ⟨rfl, rfl, rfl, by decide +kernel, rfl, by decide +kernel, by decide +kernel⟩
theorem sc_with_longer_step : FnScope ["jobs", "number", "which", "longer", "job", "step", "steps", "others"] ["jobs", "number", "which", "longer"] (defScope s_with_longer_step) := ⟨rfl, rfl, rfl, by decide +kernel, rfl, by decide +kernel, by decide +kernel⟩
theorem sc_most_longer : FnScope ["machines", "jobs", "number", "which", "order", "before", "longer"] ["machines", "jobs", "number", "which", "order"] (defScope s_most_longer) := ⟨rfl, rfl, rfl, by decide +kernel, rfl, by decide +kernel, by decide +kernel⟩
theorem sc_Beginning_init : FnScope ["self", "timetable", "order", "spent", "ended", "ways"] ["self", "timetable", "order", "spent", "ended", "ways"] (defScope s_Beginning_init) := ⟨rfl, rfl, rfl, by decide +kernel, rfl, by decide +kernel, by decide +kernel⟩
theorem sc_rank : FnScope ["beginning"] ["beginning"] (defScope s_rank) := ⟨rfl, rfl, rfl, by decide +kernel, rfl, by decide +kernel, by decide +kernel⟩
theorem sc_with_next : FnScope ["beginning", "number", "timetable", "placed", "spent", "ended"] ["beginning", "number"] (defScope s_with_next) := ⟨rfl, rfl, rfl, by decide +kernel, rfl, by decide +kernel, by decide +kernel⟩
theorem sc_as_one : FnScope ["beginnings", "best", "ways", "one"] ["beginnings"] (defScope s_as_one) := ⟨rfl, rfl, rfl, by decide +kernel, rfl, by decide +kernel, by decide +kernel⟩
theorem sc_longer_by_one : FnScope ["beginnings", "jobs", "alike", "beginning", "number", "group", "longer"] ["beginnings", "jobs"] (defScope s_longer_by_one) := ⟨rfl, rfl, rfl, by decide +kernel, rfl, by decide +kernel, by decide +kernel⟩
theorem sc_best_order : FnScope ["machines", "jobs", "beginnings", "step"] ["machines", "jobs"] (defScope s_best_order) := ⟨rfl, rfl, rfl, by decide +kernel, rfl, by decide +kernel, by decide +kernel⟩
theorem sc_how_many_orders : FnScope ["jobs", "orders", "length", "job", "k"] ["jobs"] (defScope s_how_many_orders) := ⟨rfl, rfl, rfl, by decide +kernel, rfl, by decide +kernel, by decide +kernel⟩
theorem sc_House_init : FnScope ["self"] ["self"] (defScope s_House_init) := ⟨rfl, rfl, rfl, by decide +kernel, rfl, by decide +kernel, by decide +kernel⟩
theorem sc_House_begin_anew : FnScope ["self"] ["self"] (defScope s_House_begin_anew) := ⟨rfl, rfl, rfl, by decide +kernel, rfl, by decide +kernel, by decide +kernel⟩
theorem sc_House_add_machine : FnScope ["self", "machine"] ["self", "machine"] (defScope s_House_add_machine) := ⟨rfl, rfl, rfl, by decide +kernel, rfl, by decide +kernel, by decide +kernel⟩
theorem sc_House_add_job : FnScope ["self", "job"] ["self", "job"] (defScope s_House_add_job) := ⟨rfl, rfl, rfl, by decide +kernel, rfl, by decide +kernel, by decide +kernel⟩
theorem sc_House_drop_job : FnScope ["self", "number"] ["self", "number"] (defScope s_House_drop_job) := ⟨rfl, rfl, rfl, by decide +kernel, rfl, by decide +kernel, by decide +kernel⟩
theorem sc_House_times_by : FnScope ["self", "order", "placed", "answer", "step"] ["self", "order"] (defScope s_House_times_by) := ⟨rfl, rfl, rfl, by decide +kernel, rfl, by decide +kernel, by decide +kernel⟩
theorem sc_House_best : FnScope ["self", "found"] ["self"] (defScope s_House_best) := ⟨rfl, rfl, rfl, by decide +kernel, rfl, by decide +kernel, by decide +kernel⟩
theorem sc_House_count_orders : FnScope ["self"] ["self"] (defScope s_House_count_orders) := ⟨rfl, rfl, rfl, by decide +kernel, rfl, by decide +kernel, by decide +kernel⟩
theorem sc_House_why : FnScope ["self", "number", "order", "placed", "links", "answer", "job", "which", "cause"] ["self", "number", "order"] (defScope s_House_why) := ⟨rfl, rfl, rfl, by decide +kernel, rfl, by decide +kernel, by decide +kernel⟩
theorem sc_House_slack : FnScope ["self", "number", "which", "order"] ["self", "number", "which", "order"] (defScope s_House_slack) := ⟨rfl, rfl, rfl, by decide +kernel, rfl, by decide +kernel, by decide +kernel⟩
theorem sc_told_machine : FnScope ["numbers", "rests", "k"] ["numbers"] (defScope s_told_machine) := ⟨rfl, rfl, rfl, by decide +kernel, rfl, by decide +kernel, by decide +kernel⟩
theorem sc_told_job : FnScope ["numbers", "steps", "k"] ["numbers"] (defScope s_told_job) := ⟨rfl, rfl, rfl, by decide +kernel, rfl, by decide +kernel, by decide +kernel⟩
theorem sc_answer_to : FnScope ["house", "call", "numbers"] ["house", "call", "numbers"] (defScope s_answer_to) := ⟨rfl, rfl, rfl, by decide +kernel, rfl, by decide +kernel, by decide +kernel⟩
theorem sc_answers : FnScope ["calls", "house", "given", "place", "behind", "answer"] ["calls"] (defScope s_answers) := ⟨rfl, rfl, rfl, by decide +kernel, rfl, by decide +kernel, by decide +kernel⟩
abbrev vn (n : Nat) : V := .int (n : Int)
theorem map_at {α β : Type} {f : α → β} {l : List α} {i : Nat} {y : β} (h : (l.map f)[i]? = some y) : ∃ x, l[i]? = some x ∧ y = f x := by
  rw [List.getElem?_map] at h
  cases e : l[i]? with
  | none => rw [e] at h; cases h
  | some x => rw [e] at h; exact ⟨x, rfl, (Option.some.inj h).symm⟩
theorem drop_at {α : Type} {l : List α} {i : Nat} {x : α} (h : l[i]? = some x) : l.drop i = x :: l.drop (i + 1) := by
  obtain ⟨hi, e⟩ := List.getElem?_eq_some_iff.mp h
  rw [List.drop_eq_getElem_cons hi, e]
theorem take_at {α : Type} {l : List α} {i : Nat} {x : α} (h : l[i]? = some x) : l.take (i + 1) = l.take i ++ [x] := by
  obtain ⟨hi, e⟩ := List.getElem?_eq_some_iff.mp h
  rw [List.take_succ_eq_append_getElem hi, e]
theorem lt_of_at {α : Type} {l : List α} {i : Nat} {x : α} (h : l[i]? = some x) : i < l.length := (List.getElem?_eq_some_iff.mp h).1
theorem at_lt {α : Type} {l : List α} {i : Nat} (h : i < l.length) : ∃ x, l[i]? = some x := ⟨_, List.getElem?_eq_getElem h⟩
theorem le_line {n m : Nat} (h : n ≤ m) (hm : m ≤ 16777216 := by decide) : n ≤ sizeLine := by rw [sizeLine_eq]; omega
def Rows {α : Type} (R : α → Addr → Prop) (xs : List α) (as : List Addr) : Prop := as.length = xs.length ∧ ∀ (i : Nat) (x : α), xs[i]? = some x → ∃ a, as[i]? = some a ∧ R x a
theorem Rows.at_ {α : Type} {R : α → Addr → Prop} {xs : List α} {as : List Addr} (h : Rows R xs as) {i : Nat} {a : Addr} (e : as[i]? = some a) : ∃ x, xs[i]? = some x ∧ R x a := by
  have hi := lt_of_at e
  rw [h.1] at hi
  obtain ⟨x, hx⟩ := at_lt hi
  obtain ⟨a', ha', r⟩ := h.2 i x hx
  rw [e] at ha'
  cases ha'
  exact ⟨x, hx, r⟩
theorem Rows.imp {α : Type} {R R' : α → Addr → Prop} {xs : List α} {as : List Addr} (h : Rows R xs as) (f : ∀ x a, R x a → R' x a) : Rows R' xs as :=
  ⟨h.1, fun i x e => let ⟨a, ha, r⟩ := h.2 i x e; ⟨a, ha, f x a r⟩⟩
theorem Rows.nil {α : Type} {R : α → Addr → Prop} : Rows R [] [] := ⟨rfl, fun i x e => by simp at e⟩
theorem Rows.snoc {α : Type} {R : α → Addr → Prop} {xs : List α} {as : List Addr} {x : α} {a : Addr} (h : Rows R xs as) (r : R x a) : Rows R (xs ++ [x]) (as ++ [a]) := by
  refine ⟨by simp [h.1], fun i y e => ?_⟩
  by_cases hi : i < xs.length
  · rw [List.getElem?_append_left hi] at e
    obtain ⟨b, hb, rb⟩ := h.2 i y e
    exact ⟨b, by rw [List.getElem?_append_left (lt_of_at hb)]; exact hb, rb⟩
  · rw [List.getElem?_append_right (by omega)] at e
    have h0 : i - xs.length = 0 := by
      have := lt_of_at e
      simp at this
      omega
    rw [h0] at e
    have ey : x = y := Option.some.inj e
    subst ey
    exact ⟨a, by rw [List.getElem?_append_right (by rw [h.1]; omega), h.1, h0]; rfl, r⟩
theorem Rows.erase {α : Type} {R : α → Addr → Prop} {xs : List α} {as : List Addr} (h : Rows R xs as) (k : Nat) : Rows R (xs.eraseIdx k) (as.eraseIdx k) := by
  refine ⟨by rw [List.length_eraseIdx, List.length_eraseIdx, h.1], fun i y e => ?_⟩
  rw [List.getElem?_eraseIdx] at e ⊢
  split at e
  · rename_i hi
    rw [if_pos hi]
    exact h.2 i y e
  · rename_i hi
    rw [if_neg hi]
    exact h.2 (i + 1) y e
def adOf : V → Addr
  | .ref p => p
  | _ => 0
theorem rows_of {α : Type} {R : α → Addr → Prop} {xs : List α} {ys : List V} (hlen : ys.length = xs.length) (h : ∀ (i : Nat) (y : V), ys[i]? = some y → ∃ (x : α) (p : Addr), xs[i]? = some x ∧ y = V.ref p ∧ R x p) : ∃ as : List Addr, ys = as.map V.ref ∧ Rows R xs as := by
  refine ⟨ys.map adOf, ?_, by rw [List.length_map, hlen], fun i x hx => ?_⟩
  · apply List.ext_getElem?
    intro i
    rw [List.map_map, List.getElem?_map]
    cases q : ys[i]? with
    | none => rfl
    | some y =>
      obtain ⟨x, p, _, rfl, _⟩ := h i y q
      rfl
  · have hi := lt_of_at hx
    rw [← hlen] at hi
    obtain ⟨y, hy⟩ := at_lt hi
    obtain ⟨x', p, hx', rfl, r⟩ := h i y hy
    rw [hx] at hx'
    cases hx'
    exact ⟨p, by rw [List.getElem?_map, hy]; rfl, r⟩
def RestAt (H : Hp) (r : Nat × Nat) (a : Addr) : Prop := H a = some (.tup [vn r.1, vn r.2])
def mf (ch : Nat) (l : Addr) : List (Str × V) := [("change", vn ch), ("rests", .ref l)]
def MachAt (c : Cs) (H : Hp) (m : Si44.Machine) (a : Addr) : Prop := ∃ dx l as, H a = some (.ins c.cMachine dx (mf m.change l)) ∧ H l = some (.lst (as.map V.ref)) ∧ Rows (RestAt H) m.rests as ∧ m.rests.length ≤ 10
def sf (s : Si44.Step) : List (Str × V) := [("machine", vn s.machine), ("kind", vn s.kind), ("length", vn s.long)]
def StepAt (c : Cs) (H : Hp) (s : Si44.Step) (a : Addr) : Prop := ∃ dx, H a = some (.ins c.cStep dx (sf s))
def jf (b : Si44.Job) (l : Addr) : List (Str × V) := [("start", vn b.from_), ("due", vn b.due), ("weight", vn b.weight), ("steps", .ref l)]
def JobAt (c : Cs) (H : Hp) (b : Si44.Job) (a : Addr) : Prop := ∃ dx l as, H a = some (.ins c.cJob dx (jf b l)) ∧ H l = some (.lst (as.map V.ref)) ∧ Rows (StepAt c H) b.steps as ∧ b.steps.length ≤ 12
theorem RestAt.keep {H H' : Hp} {r : Nat × Nat} {a : Addr} (s : Same H H') (h : RestAt H r a) : RestAt H' r a := s _ _ h
theorem MachAt.keep {c : Cs} {H H' : Hp} {m : Si44.Machine} {a : Addr} (s : Same H H') (h : MachAt c H m a) : MachAt c H' m a := by
  obtain ⟨dx, l, as, h1, h2, h3, h4⟩ := h
  exact ⟨dx, l, as, s _ _ h1, s _ _ h2, h3.imp fun _ _ => RestAt.keep s, h4⟩
theorem StepAt.keep {c : Cs} {H H' : Hp} {x : Si44.Step} {a : Addr} (s : Same H H') (h : StepAt c H x a) : StepAt c H' x a := let ⟨dx, h1⟩ := h; ⟨dx, s _ _ h1⟩
theorem JobAt.keep {c : Cs} {H H' : Hp} {b : Si44.Job} {a : Addr} (s : Same H H') (h : JobAt c H b a) : JobAt c H' b a := by
  obtain ⟨dx, l, as, h1, h2, h3, h4⟩ := h
  exact ⟨dx, l, as, s _ _ h1, s _ _ h2, h3.imp fun _ _ => StepAt.keep s, h4⟩
def MachsAt (c : Cs) (H : Hp) (ms : List Si44.Machine) (l : Addr) : Prop := ∃ as, H l = some (.lst (as.map V.ref)) ∧ Rows (MachAt c H) ms as
def JobsAt (c : Cs) (H : Hp) (js : List Si44.Job) (l : Addr) : Prop := ∃ as, H l = some (.lst (as.map V.ref)) ∧ Rows (JobAt c H) js as
theorem MachsAt.keep {c : Cs} {H H' : Hp} {ms : List Si44.Machine} {l : Addr} (s : Same H H') (h : MachsAt c H ms l) : MachsAt c H' ms l := let ⟨as, h1, h2⟩ := h; ⟨as, s _ _ h1, h2.imp fun _ _ => MachAt.keep s⟩
theorem JobsAt.keep {c : Cs} {H H' : Hp} {js : List Si44.Job} {l : Addr} (s : Same H H') (h : JobsAt c H js l) : JobsAt c H' js l := let ⟨as, h1, h2⟩ := h; ⟨as, s _ _ h1, h2.imp fun _ _ => JobAt.keep s⟩
theorem lk_mf1 {ch : Nat} {l : Addr} : (mf ch l).lookup ("change" : Str) = some (vn ch) := by rfl
theorem lk_mf2 {ch : Nat} {l : Addr} : (mf ch l).lookup ("rests" : Str) = some (.ref l) := by rfl
theorem lk_sf1 {s : Si44.Step} : (sf s).lookup ("machine" : Str) = some (vn s.machine) := by rfl
theorem lk_sf2 {s : Si44.Step} : (sf s).lookup ("kind" : Str) = some (vn s.kind) := by rfl
theorem lk_sf3 {s : Si44.Step} : (sf s).lookup ("length" : Str) = some (vn s.long) := by rfl
theorem lk_jf1 {b : Si44.Job} {l : Addr} : (jf b l).lookup ("start" : Str) = some (vn b.from_) := by rfl
theorem lk_jf2 {b : Si44.Job} {l : Addr} : (jf b l).lookup ("due" : Str) = some (vn b.due) := by rfl
theorem lk_jf3 {b : Si44.Job} {l : Addr} : (jf b l).lookup ("weight" : Str) = some (vn b.weight) := by rfl
theorem lk_jf4 {b : Si44.Job} {l : Addr} : (jf b l).lookup ("steps" : Str) = some (.ref l) := by rfl
def spRec (C : Addr) (names : List Str) : Sp := fun vs H Q _ => ∃ (p dx : Addr) (as : List V), vs = .ref p :: as ∧ as.length = names.length ∧ H p = some (.ins C dx []) ∧ Q .non (upd H p (.ins C dx (names.zip as)))
theorem made {C x dx : Addr} {H : Hp} {fs : List (Str × V)} (hx : H x = none) (hd : H dx = none) : Same H (upd (upd (upd H dx (.own x)) x (.ins C dx [])) x (.ins C dx fs)) := by
  rw [upd_upd]
  exact ((Same.upd hd)).upd_r hx
def newOf (H H' : Hp) : Hp := fun b => match H b with
  | none => H' b
  | some _ => none
theorem newOf_at {H H' : Hp} {b : Addr} {o : HO} (h : H b = none) (h' : H' b = some o) : newOf H H' b = some o := by unfold newOf; rw [h]; exact h'
theorem newOf_mono {H H1 H2 : Hp} (s : Same H1 H2) : Same (newOf H H1) (newOf H H2) := fun b o e => by
  unfold newOf at e ⊢
  cases q : H b with
  | none => rw [q] at e; exact s _ _ e
  | some u => rw [q] at e; cases e
theorem newOf_sub {H H' : Hp} : Same (newOf H H') H' := fun b o e => by
  unfold newOf at e
  cases q : H b with
  | none => rw [q] at e; exact e
  | some u => rw [q] at e; cases e
theorem newOf_old {H H' : Hp} {b : Addr} {o : HO} (h : H b = some o) : newOf H H' b = none := by unfold newOf; rw [h]
def uni (G N : Hp) : Hp := fun b => match G b with
  | some o => some o
  | none => N b
theorem uni_l {G N : Hp} : Same G (uni G N) := fun b o e => by unfold uni; rw [e]
theorem uni_r {G N H : Hp} (sG : Same G H) (sN : Same N H) : Same N (uni G N) := fun b o e => by
  unfold uni
  cases q : G b with
  | none => exact e
  | some u =>
    have h1 := sG _ _ q
    rw [sN _ _ e] at h1
    exact h1.symm
theorem uni_sub {G N H : Hp} (sG : Same G H) (sN : Same N H) : Same (uni G N) H := fun b o e => by
  unfold uni at e
  cases q : G b with
  | none => rw [q] at e; exact sN _ _ e
  | some u => rw [q] at e; rw [← e]; exact sG _ _ q
theorem uni_none {G N : Hp} {b : Addr} (g : G b = none) (n : N b = none) : uni G N b = none := by unfold uni; rw [g]; exact n
theorem cut_to (xs : List V) (i : Nat) : cutV xs none (some ((i : Nat) : Int)) = xs.take i := by
  unfold cutV
  rw [HT.sIx_nat]
  show (xs.drop 0).take (min i xs.length - 0) = _
  rw [List.drop_zero, Nat.sub_zero]
  by_cases h : i ≤ xs.length
  · rw [Nat.min_eq_left h]
  · rw [Nat.min_eq_right (by omega), List.take_length, List.take_of_length_le (by omega)]
theorem cut_from (xs : List V) (i : Nat) : cutV xs (some ((i : Nat) : Int)) none = xs.drop i := by
  unfold cutV
  rw [HT.sIx_nat]
  show (xs.drop (min i xs.length)).take (xs.length - min i xs.length) = _
  by_cases h : i ≤ xs.length
  · rw [Nat.min_eq_left h, List.take_of_length_le (by rw [List.length_drop]; exact Nat.le_refl _)]
  · rw [Nat.min_eq_right (by omega), List.drop_length, List.drop_eq_nil_of_le (by omega)]
    simp
end Sj
end
section
set_option Elab.async false
set_option linter.all false
set_option maxRecDepth 100000
set_option maxHeartbeats 2000000
namespace Sj
open PySem PySem.Spec PyProof.Rows L2
section
variable {P : Program} {w : World} {K : PySem.W.Frag} {mg : Str → Option Value} {base : Heap} {c : Cs}
def sp_rests_fit : Sp := fun vs H Q _ => ∃ (l : Addr) (as : List Addr) (rs : List (Nat × Nat)), vs = [.ref l] ∧ H l = some (.lst (as.map V.ref)) ∧ Rows (RestAt H) rs as ∧ Q (.bl (Si44.restsOk 0 rs)) H
theorem ok_rests_fit {f : Addr} {fd : FuncData} (F : Fun K "rests_fit" "rests_fit" s_rests_fit f fd) (T : Txt K mg c) : FnOk P w K mg base CX0 1 f fd ["rests"] sp_rests_fit := by
  refine F.ok sc_rests_fit (fun vs H Q E h => ?_) (fun cdv A outer s H vs Q E hr h => ?_)
  · obtain ⟨l, as, rs, rfl, _⟩ := h
    rfl
  · obtain ⟨l, as, rs, rfl, hl, hrs, k⟩ := h
    have nd := sc_rests_fit.nd
    refine ⟨_, (pss_cons (ps_set (i := 1) nd rfl (Or.inl rfl) pe_int)
    (pss_cons (ps_for PassesOwn.never rfl (pi_list (pv 0)) (pg_tup rfl (pgs_cons (pg_name (i := 2) nd rfl (Or.inl rfl)) (pgs_cons (pg_name (i := 3) nd rfl (Or.inl rfl)) pgs_nil))) (pss_cons (ps_if (pw_or (pt_cmpR o_lt (pv 2) (pv 1) (nomark _)) (pw_or (pt_cmpR o_le (pv 3) (pv 2) (nomark _)) (pw_or1 (pt_cmpR o_gt (pv 3) (pe_const T.c_LAST_TIME) (nomark _))))).pt (pss_one (ps_ret pe_bl)) pss_nil)
      (pss_one (ps_set (i := 1) nd rfl (Or.inl rfl) (pv 3)))))
    (pss_one (ps_ret pe_bl)))), ?_⟩
    refine ⟨_, rfl, l, rfl, ⟨_, SqL.of hl⟩, for_list (K := K) (a := l) (xs := as.map V.ref) (fun i σ H' => ∃ (t : Nat) (v2 v3 : Option V), σ = [some (.ref l), some (vn t), v2, v3] ∧ H' = H ∧ Si44.restsOk t (rs.drop i) = Si44.restsOk 0 rs)
      ⟨0, none, none, rfl, rfl, rfl⟩ (fun i σ H' _ ⟨_, _, _, _, e, _⟩ => by rw [e]; exact SqL.of hl) ?_ ?_⟩
    · rintro i x σ H' hx ⟨t, v2, v3, rfl, rfl, hI⟩
      obtain ⟨a, ha, rfl⟩ := map_at hx
      obtain ⟨r, hr', hra⟩ := hrs.at_ ha
      rw [drop_at hr'] at hI
      have hI : (decide (t ≤ r.1) && (decide (r.1 < r.2) && (decide (r.2 ≤ Si44.TIME) && Si44.restsOk r.2 (rs.drop (i + 1))))) = Si44.restsOk 0 rs := hI
      refine ⟨a, _, rfl, SqT.of hra, rfl, _, _, rfl, _, _, rfl, rfl, ?_⟩
      refine ⟨_, rfl, _, rfl, _, _, rfl, rfl, _, rfl, ite2 (fun h1 => ?_) (fun h1 => ?_)⟩
      · have h1 := of_decide_eq_true h1
        have e : Si44.restsOk 0 rs = false := by rw [← hI, decide_eq_false (show ¬ t ≤ r.1 by omega)]; rfl
        rw [e] at k
        exact iteT k
      · refine ⟨_, rfl, _, rfl, _, _, rfl, rfl, _, rfl, ite2 (fun h2 => ?_) (fun h2 => ?_)⟩
        · have h2 := of_decide_eq_true h2
          have e : Si44.restsOk 0 rs = false := by rw [← hI, decide_eq_false (show ¬ r.1 < r.2 by omega)]; simp
          rw [e] at k
          exact iteT k
        · refine ⟨_, rfl, _, _, rfl, rfl, _, rfl, ite2 (fun h3 => ?_) (fun h3 => ?_)⟩
          · have h3 := of_decide_eq_true h3
            have e : Si44.restsOk 0 rs = false := by rw [← hI, decide_eq_false (show ¬ r.2 ≤ Si44.TIME by show ¬ r.2 ≤ 10000; omega)]; simp
            rw [e] at k
            exact k
          · have h1 : ¬ (r.1 : Int) < t := fun z => h1 (decide_eq_true z)
            have h2 : ¬ (r.2 : Int) ≤ r.1 := fun z => h2 (decide_eq_true z)
            have h3 : ¬ (10000 : Int) < r.2 := fun z => h3 (decide_eq_true z)
            refine ⟨_, rfl, r.2, _, _, rfl, rfl, ?_⟩
            rw [← hI, decide_eq_true (show t ≤ r.1 by omega), decide_eq_true (show r.1 < r.2 by omega), decide_eq_true (show r.2 ≤ Si44.TIME by show r.2 ≤ 10000; omega)]
            simp
    · rintro σ H' ⟨t, v2, v3, rfl, rfl, hI⟩
      rw [List.length_map, hrs.1, List.drop_length] at hI
      have hI : true = Si44.restsOk 0 rs := hI
      rw [← hI] at k
      exact k
def machB (m : Si44.Machine) : Bool := decide (m.change ≤ 1000) && (decide (m.rests.length ≤ 4) && Si44.restsOk 0 m.rests)
def sp_machine_fits (c : Cs) : Sp := fun vs H Q _ => ∃ (a : Addr) (m : Si44.Machine), vs = [.ref a] ∧ MachAt c H m a ∧ Q (.bl (machB m)) H
theorem ok_machine_fits {f : Addr} {fd : FuncData} (F : Fun K "machine_fits" "machine_fits" s_machine_fits f fd) (T : Txt K mg c) (c_rests_fit : Callee P w K mg base 1 "rests_fit" ["rests"] sp_rests_fit) :
    FnOk P w K mg base CX0 2 f fd ["machine"] (sp_machine_fits c) := by
  refine F.ok sc_machine_fits (fun vs H Q E h => ?_) (fun cdv A outer s H vs Q E hr h => ?_)
  · obtain ⟨a, m, rfl, _⟩ := h
    rfl
  · obtain ⟨a, m, rfl, ⟨dx, l, as, h1, h2, h3, h4⟩, k⟩ := h
    refine ⟨_, (pss_cons (ps_if (pw_or (pt_cmpR o_gt (pe_fld (pv 0) rfl) (pe_const T.c_MOST_CHANGE) (nomark _)) (pw_or1 (pt_cmpR o_gt (pe_callB cr_len (by rfl) T.b_len bt_len (pa_cons (pe_fld (pv 0) rfl) pa_nil)) (pe_const T.c_MOST_RESTS) (nomark _)))).pt (pss_one (ps_ret pe_bl)) pss_nil)
    (pss_one (ps_ret (pe_fn c_rests_fit (hr.mono (by decide)) (pa_cons (pe_fld (pv 0) rfl) pa_nil))))), ?_⟩
    refine ⟨_, rfl, a, _, dx, _, _, rfl, h1, T.cl_Machine, T.n_Machine_change, lk_mf1, _, _, rfl, rfl, _, rfl, ite2 (fun q => ?_) (fun q => ?_)⟩
    · have q := of_decide_eq_true q
      have e : machB m = false := by unfold machB; rw [decide_eq_false (show ¬ m.change ≤ 1000 by omega)]; rfl
      rw [e] at k
      exact iteT k
    · have q : ¬ (1000 : Int) < m.change := fun z => q (decide_eq_true z)
      refine ⟨_, rfl, a, _, dx, _, _, rfl, h1, T.cl_Machine, T.n_Machine_rests, lk_mf2, l, _, rfl, .inl (SqL.of h2), _, _, rfl, rfl, _, rfl, ite2 (fun q2 => ?_) (fun q2 => ?_)⟩
      · have q2 := of_decide_eq_true q2
        rw [List.length_map, h3.1] at q2
        have e : machB m = false := by unfold machB; rw [decide_eq_false (show ¬ m.rests.length ≤ 4 by omega)]; simp
        rw [e] at k
        exact k
      · have q2 : ¬ (4 : Int) < ((as.map V.ref).length : Nat) := fun z => q2 (decide_eq_true z)
        rw [List.length_map, h3.1] at q2
        have e : machB m = Si44.restsOk 0 m.rests := by unfold machB; rw [decide_eq_true (show m.change ≤ 1000 by omega), decide_eq_true (show m.rests.length ≤ 4 by omega)]; simp
        rw [e] at k
        exact ⟨_, rfl, a, _, dx, _, _, rfl, h1, T.cl_Machine, T.n_Machine_rests, lk_mf2, l, as, m.rests, rfl, h2, h3, k⟩
def stepB (n : Nat) (s : Si44.Step) : Bool := decide (s.machine < n) && (decide (s.kind ≤ 9) && (decide (1 ≤ s.long) && decide (s.long ≤ 1000)))
def jobB (n : Nat) (b : Si44.Job) : Bool := decide (b.from_ ≤ 10000) && (decide (b.due ≤ 10000) && (decide (b.weight ≤ 1000) && (decide (1 ≤ b.steps.length) && b.steps.all (stepB n))))
theorem jobB_ok (h : Si44.House) (b : Si44.Job) : jobB h.machines.length b = Si44.jobOk h b := rfl
def sp_step_fits (c : Cs) : Sp := fun vs H Q _ => ∃ (a lm : Addr) (s : Si44.Step) (ys : List V), vs = [.ref a, .ref lm] ∧ StepAt c H s a ∧ H lm = some (.lst ys) ∧ Q (.bl (stepB ys.length s)) H
theorem ok_step_fits {f : Addr} {fd : FuncData} (F : Fun K "step_fits" "step_fits" s_step_fits f fd) (T : Txt K mg c) : FnOk P w K mg base CX0 1 f fd ["step", "machines"] (sp_step_fits c) := by
  refine F.ok sc_step_fits (fun vs H Q E h => ?_) (fun cdv A outer s H vs Q E hr h => ?_)
  · obtain ⟨a, lm, x, ys, rfl, _⟩ := h
    rfl
  · obtain ⟨a, lm, x, ys, rfl, ⟨dx, h1⟩, h2, k⟩ := h
    refine ⟨_, (pss_cons (ps_if (pw_or (pt_cmpR o_ge (pe_fld (pv 0) rfl) (pe_callB cr_len (by rfl) T.b_len bt_len (pa_cons (pv 1) pa_nil)) (nomark _)) (pw_or1 (pt_cmpR o_gt (pe_fld (pv 0) rfl) (pe_const T.c_MOST_KIND) (nomark _)))).pt (pss_one (ps_ret pe_bl)) pss_nil)
    (pss_one (ps_ret (pe_chain o_le o_le pe_int (pe_fld (pv 0) rfl) (pe_const T.c_MOST_LENGTH))))), ?_⟩
    refine ⟨_, rfl, a, _, dx, _, _, rfl, h1, T.cl_Step, T.n_Step_machine, lk_sf1, _, rfl, lm, _, rfl, .inl (SqL.of h2), _, _, rfl, rfl, _, rfl, ite2 (fun q => ?_) (fun q => ?_)⟩
    · have q := of_decide_eq_true q
      have e : stepB ys.length x = false := by unfold stepB; rw [decide_eq_false (show ¬ x.machine < ys.length by omega)]; rfl
      rw [e] at k
      exact iteT k
    · have q : ¬ (ys.length : Int) ≤ x.machine := fun z => q (decide_eq_true z)
      refine ⟨_, rfl, a, _, dx, _, _, rfl, h1, T.cl_Step, T.n_Step_kind, lk_sf2, _, _, rfl, rfl, _, rfl, ite2 (fun q2 => ?_) (fun q2 => ?_)⟩
      · have q2 := of_decide_eq_true q2
        have e : stepB ys.length x = false := by unfold stepB; rw [decide_eq_false (show ¬ x.kind ≤ 9 by omega)]; simp
        rw [e] at k
        exact k
      · have q2 : ¬ (9 : Int) < x.kind := fun z => q2 (decide_eq_true z)
        have e : stepB ys.length x = (decide (1 ≤ x.long) && decide (x.long ≤ 1000)) := by unfold stepB; rw [decide_eq_true (show x.machine < ys.length by omega), decide_eq_true (show x.kind ≤ 9 by omega)]; simp
        rw [e] at k
        refine ⟨_, rfl, a, _, dx, _, _, rfl, h1, T.cl_Step, T.n_Step_length, lk_sf3, _, _, rfl, rfl, _, rfl, ite2 (fun q3 => ?_) (fun q3 => ?_)⟩
        · have q3 := of_decide_eq_true q3
          refine ⟨_, _, rfl, rfl, ?_⟩
          have e2 : decide ((x.long : Int) ≤ 1000) = (decide (1 ≤ x.long) && decide (x.long ≤ 1000)) := by
            rw [decide_eq_true (show 1 ≤ x.long by omega), Bool.true_and]
            exact decide_eq_decide.mpr (by omega)
          show Q (V.bl (decide ((x.long : Int) ≤ 1000))) H
          rw [e2]
          exact k
        · have q3 : ¬ (1 : Int) ≤ x.long := fun z => q3 (decide_eq_true z)
          rw [decide_eq_false (show ¬ 1 ≤ x.long by omega)] at k
          exact k
def sp_job_fits (c : Cs) : Sp := fun vs H Q _ => ∃ (a lm : Addr) (b : Si44.Job) (ys : List V), vs = [.ref a, .ref lm] ∧ JobAt c H b a ∧ H lm = some (.lst ys) ∧ ∀ H', Same H H' → Q (.bl (jobB ys.length b)) H'
theorem ok_job_fits {f : Addr} {fd : FuncData} (F : Fun K "job_fits" "job_fits" s_job_fits f fd) (T : Txt K mg c) (c_step_fits : Callee P w K mg base 1 "step_fits" ["step", "machines"] (sp_step_fits c)) :
    FnOk P w K mg base CX0 2 f fd ["job", "machines"] (sp_job_fits c) := by
  refine F.ok sc_job_fits (fun vs H Q E h => ?_) (fun cdv A outer s H vs Q E hr h => ?_)
  · obtain ⟨a, lm, x, ys, rfl, _⟩ := h
    rfl
  · obtain ⟨a, lm, b, ys, rfl, ⟨dx, l, as, h1, h2, h3, h4⟩, hm, k⟩ := h
    have nd := sc_job_fits.nd
    have k0 := k H (Same.refl _)
    refine ⟨_, (pss_cons (ps_if (pw_or (pt_cmpR o_gt (pe_fld (pv 0) rfl) (pe_const T.c_LAST_TIME) (nomark _)) (pw_or (pt_cmpR o_gt (pe_fld (pv 0) rfl) (pe_const T.c_LAST_TIME) (nomark _)) (pw_or1 (pt_cmpR o_gt (pe_fld (pv 0) rfl) (pe_const T.c_MOST_WEIGHT) (nomark _))))).pt (pss_one (ps_ret pe_bl)) pss_nil)
    (pss_cons (ps_if (pt_cmpR op_eq (pe_callB cr_len (by rfl) T.b_len bt_len (pa_cons (pe_fld (pv 0) rfl) pa_nil)) pe_int (nomark _)) (pss_one (ps_ret pe_bl)) pss_nil)
    (pss_one (ps_ret (pe_callB (cr_all rfl) (by rfl) T.b_all bt_all (pa_cons (pe_lc (g := (gName 2)) (tt := tYes) (te := (tCall _ [] E0 (tCons (tVar 2) (tCons (tVar 1) tNil)))) rfl nd (pi_list (pe_fld (pv 0) rfl)) (own := [("step", 2)]) (blk_of (by kernel_rfl)) (fun _ _ _ _ _ => pg_name (i := 2) nd rfl (Or.inl rfl)) (fun _ _ _ _ _ => pts_nil) (fun _ _ _ _ _ => (pe_fn c_step_fits (hr.mono (by decide)) (pa_cons (pv 2) (pa_cons (pv 1) pa_nil))))) pa_nil)))))), ?_⟩
    refine ⟨_, rfl, a, _, dx, _, _, rfl, h1, T.cl_Job, T.n_Job_start, lk_jf1, _, _, rfl, rfl, _, rfl, ite2 (fun q => ?_) (fun q => ?_)⟩
    · have q := of_decide_eq_true q
      have e : jobB ys.length b = false := by unfold jobB; rw [decide_eq_false (show ¬ b.from_ ≤ 10000 by omega)]; rfl
      rw [e] at k0
      exact iteT k0
    have q : ¬ (10000 : Int) < b.from_ := fun z => q (decide_eq_true z)
    refine ⟨_, rfl, a, _, dx, _, _, rfl, h1, T.cl_Job, T.n_Job_due, lk_jf2, _, _, rfl, rfl, _, rfl, ite2 (fun q2 => ?_) (fun q2 => ?_)⟩
    · have q2 := of_decide_eq_true q2
      have e : jobB ys.length b = false := by unfold jobB; rw [decide_eq_false (show ¬ b.due ≤ 10000 by omega)]; simp
      rw [e] at k0
      exact iteT k0
    have q2 : ¬ (10000 : Int) < b.due := fun z => q2 (decide_eq_true z)
    refine ⟨_, rfl, a, _, dx, _, _, rfl, h1, T.cl_Job, T.n_Job_weight, lk_jf3, _, _, rfl, rfl, _, rfl, ite2 (fun q3 => ?_) (fun q3 => ?_)⟩
    · have q3 := of_decide_eq_true q3
      have e : jobB ys.length b = false := by unfold jobB; rw [decide_eq_false (show ¬ b.weight ≤ 1000 by omega)]; simp
      rw [e] at k0
      exact k0
    have q3 : ¬ (1000 : Int) < b.weight := fun z => q3 (decide_eq_true z)
    refine ⟨_, rfl, a, _, dx, _, _, rfl, h1, T.cl_Job, T.n_Job_steps, lk_jf4, l, _, rfl, .inl (SqL.of h2), rfl, _, rfl, ite2 (fun q4 => ?_) (fun q4 => ?_)⟩
    · have q4 := of_decide_eq_true q4
      rw [List.length_map, h3.1] at q4
      have q4 : ((b.steps.length : Nat) : Int) = 0 := by injection q4
      have e : jobB ys.length b = false := by unfold jobB; rw [decide_eq_false (show ¬ 1 ≤ b.steps.length by omega)]; simp
      rw [e] at k0
      exact k0
    have q4 : ¬ b.steps.length = 0 := fun z => q4 (decide_eq_true (by rw [List.length_map, h3.1, z]; rfl))
    have e : jobB ys.length b = b.steps.all (stepB ys.length) := by
      unfold jobB
      rw [decide_eq_true (show b.from_ ≤ 10000 by omega), decide_eq_true (show b.due ≤ 10000 by omega), decide_eq_true (show b.weight ≤ 1000 by omega), decide_eq_true (show 1 ≤ b.steps.length by omega)]
      simp
    rw [e] at k
    refine ⟨_, rfl, a, _, dx, _, _, rfl, h1, T.cl_Job, T.n_Job_steps, lk_jf4, l, rfl, ⟨_, SqL.of h2⟩, fun D hD => cm_list hD (SqL.of h2) (by rw [List.length_map, h3.1]; exact le_line h4) (fun i y _ => ∃ x, b.steps[i]? = some x ∧ y = .bl (stepB ys.length x)) (fun _ _ _ _ _ z => z) ?_ ?_⟩
    · intro i x H' hx hs _ N hN
      obtain ⟨p, hp, rfl⟩ := map_at hx
      obtain ⟨x, hx, hxp⟩ := h3.at_ hp
      exact ⟨rfl, _, rfl, _, rfl, p, lm, x, ys, rfl, hxp.keep hs, hs _ _ hm, hN _ _ (Same.refl _) ⟨x, hx, rfl⟩⟩
    · intro zs H' hz hlen hs hR
      have ez : zs = (b.steps.map (stepB ys.length)).map V.bl := by
        apply List.ext_getElem?
        intro i
        rw [List.getElem?_map, List.getElem?_map]
        cases q : zs[i]? with
        | none =>
          have := List.getElem?_eq_none_iff.mp q
          rw [hlen, List.length_map, h3.1] at this
          rw [List.getElem?_eq_none this]
          rfl
        | some y =>
          obtain ⟨x, hx, rfl⟩ := hR i y q
          rw [hx]
          rfl
      rw [ez] at hz
      refine ⟨D, _, rfl, SqL.of hz, ?_⟩
      have := k H' hs
      rw [List.all_map]
      exact this
theorem zs_of {α : Type} {xs : List α} {zs : List V} {f : α → V} (hlen : zs.length = xs.length) (hR : ∀ (i : Nat) (y : V), zs[i]? = some y → ∃ x, xs[i]? = some x ∧ y = f x) : zs = xs.map f := by
  apply List.ext_getElem?
  intro i
  rw [List.getElem?_map]
  cases q : zs[i]? with
  | none =>
    have := List.getElem?_eq_none_iff.mp q
    rw [hlen] at this
    rw [List.getElem?_eq_none this]
    rfl
  | some y =>
    obtain ⟨x, hx, rfl⟩ := hR i y q
    rw [hx]
    rfl
def sp_steps_together (c : Cs) : Sp := fun vs H Q _ => ∃ (lj : Addr) (js : List Si44.Job), vs = [.ref lj] ∧ JobsAt c H js lj ∧ js.length ≤ 1000 ∧ ∀ H', Same H H' → Q (vn (Si44.total (js.map fun b => b.steps.length))) H'
theorem ok_steps_together {f : Addr} {fd : FuncData} (F : Fun K "steps_together" "steps_together" s_steps_together f fd) (T : Txt K mg c) : FnOk P w K mg base CX0 1 f fd ["jobs"] (sp_steps_together c) := by
  refine F.ok sc_steps_together (fun vs H Q E h => ?_) (fun cdv A outer s H vs Q E hr h => ?_)
  · obtain ⟨lj, js, rfl, _⟩ := h
    rfl
  · obtain ⟨lj, js, rfl, ⟨jas, hl, hrow⟩, hz, k⟩ := h
    have nd := sc_steps_together.nd
    refine ⟨_, (pss_one (ps_ret (pe_callB (cr_sum rfl) (by rfl) T.b_sum bt_sum (pa_cons (pe_lc (g := (gName 1)) (tt := tYes) (te := (tCB (rLen K) (tCons (tFld K (tVar 1) "steps") tNil))) rfl nd (pi_list (pv 0)) (own := [("job", 1)]) (blk_of (by kernel_rfl)) (fun _ _ _ _ _ => pg_name (i := 1) nd rfl (Or.inl rfl)) (fun _ _ _ _ _ => pts_nil) (fun _ _ _ _ _ => (pe_callB cr_len (by rfl) T.b_len bt_len (pa_cons (pe_fld (pv 1) rfl) pa_nil)))) pa_nil)))), ?_⟩
    refine ⟨_, rfl, lj, rfl, ⟨_, SqL.of hl⟩, fun D hD => cm_list hD (SqL.of hl) (by rw [List.length_map, hrow.1]; exact le_line hz) (fun i y _ => ∃ b, js[i]? = some b ∧ y = V.int ((b.steps.length : Nat) : Int)) (fun _ _ _ _ _ z => z) ?_ ?_⟩
    · intro i x H' hx hs _ N hN
      obtain ⟨p, hp, rfl⟩ := map_at hx
      obtain ⟨b, hb, dx, l, as, h1, h2, h3, h4⟩ := hrow.at_ hp
      exact ⟨rfl, _, rfl, p, _, dx, _, _, rfl, hs _ _ h1, T.cl_Job, T.n_Job_steps, lk_jf4, l, _, rfl, .inl (SqL.of (hs _ _ h2)), hN _ _ (Same.refl _) ⟨b, hb, by rw [List.length_map, h3.1]⟩⟩
    · intro zs H' hz hlen hs hR
      have ez : zs = ((js.map fun b => b.steps.length).map fun (n : Nat) => (n : Int)).map V.int := by
        rw [List.map_map, List.map_map]
        exact zs_of (by rw [hlen, List.length_map, hrow.1]) hR
      rw [ez] at hz
      refine ⟨D, _, rfl, SqL.of hz, ?_⟩
      rw [sum_total]
      exact k H' hs
theorem count_vn (i : Nat) : ∀ o : List Nat, (o.map vn).countP (fun z => eqV z (vn i)) = o.count i
  | [] => rfl
  | x :: o => by
    rw [List.map_cons, List.countP_cons, count_vn i o, List.count_cons]
    have e : eqV (vn x) (vn i) = (x == i) := by
      show ((x : Int) == (i : Int)) = (x == i)
      rw [Bool.eq_iff_iff, beq_iff_eq, beq_iff_eq]
      exact ⟨fun z => by omega, fun z => by omega⟩
    rw [e]
theorem flat_vn (o : List Nat) : (o.map vn).all flatV = true := by
  rw [List.all_map, List.all_eq_true]
  intro x _
  rfl
def sp_is_order (c : Cs) : Sp := fun vs H Q _ => ∃ (lj lo : Addr) (h : Si44.House) (o : List Nat), vs = [.ref lj, .ref lo] ∧ JobsAt c H h.jobs lj ∧ h.jobs.length ≤ 1000 ∧ H lo = some (.lst (o.map vn)) ∧ ∀ H', Same H H' → Q (.bl (decide (IsOrd h o))) H'
theorem ok_is_order {f : Addr} {fd : FuncData} (F : Fun K "is_order" "is_order" s_is_order f fd) (T : Txt K mg c) (c_steps_together : Callee P w K mg base 1 "steps_together" ["jobs"] (sp_steps_together c)) :
    FnOk P w K mg base CX0 2 f fd ["jobs", "order"] (sp_is_order c) := by
  refine F.ok sc_is_order (fun vs H Q E h => ?_) (fun cdv A outer s H vs Q E hr h => ?_)
  · obtain ⟨lj, lo, h, o, rfl, _⟩ := h
    rfl
  · obtain ⟨lj, lo, h, o, rfl, ⟨jas, hl, hrow⟩, hz, ho, k⟩ := h
    have nd := sc_is_order.nd
    refine ⟨_, (pss_cons (ps_if (pt_cmpR op_ne (pe_callB cr_len (by rfl) T.b_len bt_len (pa_cons (pv 1) pa_nil)) (pe_fn c_steps_together (hr.mono (by decide)) (pa_cons (pv 0) pa_nil)) (nomark _)) (pss_one (ps_ret pe_bl)) pss_nil)
    (pss_one (ps_ret (pe_callB (cr_all rfl) (by rfl) T.b_all bt_all (pa_cons (pe_lc (g := (gTup K 2 (gCons (gName 2) (gCons (gName 3) gNil)))) (tt := tYes) (te := (tOp rEq (tBM K "list" (rCount K) (tVar 1) (tCons (tVar 2) tNil)) (tCB (rLen K) (tCons (tFld K (tVar 3) "steps") tNil)))) rfl nd (pi_enum (by rfl) T.b_enumerate (pa_cons (pv 0) pa_nil)) (own := [("number", 2), ("job", 3)]) (blk_of (by kernel_rfl)) (fun _ _ _ _ _ => pg_tup rfl (pgs_cons (pg_name (i := 2) nd rfl (Or.inl rfl)) (pgs_cons (pg_name (i := 3) nd rfl (Or.inl rfl)) pgs_nil))) (fun _ _ _ _ _ => pts_nil) (fun _ _ _ _ _ => (pe_cmpR op_eq (pe_bm PySem.F.plainAttrs_list PySem.F.slot_list_count PySem.F.type_list_count mt_lcount (pv 1) (pa_cons (pv 2) pa_nil)) (pe_callB cr_len (by rfl) T.b_len bt_len (pa_cons (pe_fld (pv 3) rfl) pa_nil)) (nomark _)))) pa_nil))))), ?_⟩
    refine ⟨_, rfl, lo, _, rfl, .inl (SqL.of ho), _, rfl, lj, h.jobs, rfl, ⟨jas, hl, hrow⟩, hz, fun H1 s1 => ⟨rfl, _, rfl, ite2 (fun q => ?_) (fun q => ?_)⟩⟩
    · have e : decide (IsOrd h o) = false := by
        apply decide_eq_false
        intro z
        rw [List.length_map, z.1] at q
        unfold lens at q
        simp at q
      have := k H1 s1
      rw [e] at this
      exact this
    · have q : o.length = Si44.total (lens h) := by
        by_cases z : o.length = Si44.total (lens h)
        · exact z
        · refine absurd ?_ q
          rw [List.length_map]
          have : ¬ (V.int ((o.length : Nat) : Int) = vn (Si44.total (lens h))) := fun y => z (by injection y with y; omega)
          unfold lens at this
          simp [this]
      refine ⟨_, rfl, lj, _, rfl, SqL.of (s1 _ _ hl), fun D hD => cm_enum hD (SqL.of (s1 _ _ hl)) (by rw [List.length_map, hrow.1]; exact le_line hz) (fun i y _ => ∃ b, h.jobs.zipIdx[i]? = some b ∧ y = .bl (decide (o.count b.2 = b.1.steps.length))) (fun _ _ _ _ _ z => z) ?_ ?_⟩
      · intro i x T' H' hx hT hs _ N hN
        obtain ⟨p, hp, rfl⟩ := map_at hx
        obtain ⟨b, hb, dx, l, as, h1, h2, h3, h4⟩ := hrow.at_ hp
        have s2 := s1.trans hs
        refine ⟨T', _, rfl, SqT.of hT, rfl, _, _, rfl, _, _, rfl, rfl, rfl, ?_⟩
        refine ⟨_, rfl, .inl ⟨rfl, _, SqL.of (s2 _ _ ho)⟩, _, rfl, lo, _, _, rfl, rfl, SqL.of (s2 _ _ ho), rfl, flat_vn o, ?_⟩
        refine ⟨_, rfl, p, _, dx, _, _, rfl, s2 _ _ h1, T.cl_Job, T.n_Job_steps, lk_jf4, l, _, rfl, .inl (SqL.of (s2 _ _ h2)), rfl, ?_⟩
        refine hN _ _ (Same.refl _) ⟨(b, i), by rw [List.getElem?_zipIdx, hb]; simp, ?_⟩
        have e1 : (o.map vn).countP (fun z => eqV z (V.int (i : Nat))) = o.count i := count_vn i o
        rw [e1, List.length_map, h3.1]
        congr 1
        show decide (V.int ((o.count i : Nat) : Int) = V.int ((b.steps.length : Nat) : Int)) = decide (o.count i = b.steps.length)
        exact decide_eq_decide.mpr ⟨fun z => by injection z with z; omega, fun z => by rw [z]⟩
      · intro zs H' hz hlen hs hR
        have ez : zs = ((h.jobs.zipIdx).map fun b => decide (o.count b.2 = b.1.steps.length)).map V.bl := by
          rw [List.map_map]
          exact zs_of (by rw [hlen, List.length_map, hrow.1, List.length_zipIdx]) hR
        rw [ez] at hz
        refine ⟨D, _, rfl, SqL.of hz, ?_⟩
        have e : (((h.jobs.zipIdx).map fun b => decide (o.count b.2 = b.1.steps.length)).all id) = decide (IsOrd h o) := by
          rw [Bool.eq_iff_iff, decide_eq_true_iff, List.all_map, List.all_eq_true]
          unfold IsOrd
          constructor
          · intro z
            refine ⟨q, fun j hj => ?_⟩
            obtain ⟨b, hb⟩ := at_lt hj
            rw [lens_get hb]
            have := z (b, j) (List.mem_of_getElem? (i := j) (by rw [List.getElem?_zipIdx, hb]; simp))
            simpa using this
          · intro z x hx
            obtain ⟨j, hj⟩ := List.getElem?_of_mem hx
            rw [List.getElem?_zipIdx] at hj
            cases hb : h.jobs[j]? with
            | none => rw [hb] at hj; cases hj
            | some b =>
              rw [hb] at hj
              have e : (b, 0 + j) = x := Option.some.inj hj
              subst e
              have := z.2 j (lt_of_at hb)
              rw [lens_get hb] at this
              simpa using this
        rw [e]
        exact k H' (s1.trans hs)
end
end Sj
end
section
set_option Elab.async false
set_option linter.all false
set_option maxRecDepth 100000
set_option maxHeartbeats 2000000
namespace Sj
open PySem PySem.Spec PyProof.Rows L2
section
variable {P : Program} {w : World} {K : PySem.W.Frag} {mg : Str → Option Value} {base : Heap} {c : Cs}
theorem ok_Machine_init {f : Addr} {fd : FuncData} (F : Fun K "__init__" "Machine.__init__" s_Machine_init f fd) (T : Txt K mg c) : FnOk P w K mg base CX0 1 f fd ["self", "change", "rests"] (spRec c.cMachine ["change", "rests"]) := by
  refine F.ok sc_Machine_init (fun vs H Q E h => ?_) (fun cdv A outer s H vs Q E hr h => ?_)
  · obtain ⟨p, dx, as, rfl, hl, _⟩ := h
    exact congrArg (· + 1) hl
  · obtain ⟨p, dx, as, rfl, hl, hp, k⟩ := h
    match as, hl, k with
    | [v0, v1], _, k =>
      refine ⟨_, (pss_cons (ps_fld (pv 0) (pv 1) rfl)
    (pss_one (ps_fld (pv 0) (pv 2) rfl))), ?_⟩
      refine ⟨_, rfl, _, rfl, p, _, dx, _, rfl, hp, T.cl_Machine, T.n_Machine_change, (by decide), ?_⟩
      refine ⟨_, rfl, _, rfl, p, _, dx, _, rfl, upd_same, T.cl_Machine, T.n_Machine_rests, (by show 1 < 1000; decide), ?_⟩
      rw [upd_upd]
      exact k
theorem ok_Step_init {f : Addr} {fd : FuncData} (F : Fun K "__init__" "Step.__init__" s_Step_init f fd) (T : Txt K mg c) : FnOk P w K mg base CX0 1 f fd ["self", "machine", "kind", "length"] (spRec c.cStep ["machine", "kind", "length"]) := by
  refine F.ok sc_Step_init (fun vs H Q E h => ?_) (fun cdv A outer s H vs Q E hr h => ?_)
  · obtain ⟨p, dx, as, rfl, hl, _⟩ := h
    exact congrArg (· + 1) hl
  · obtain ⟨p, dx, as, rfl, hl, hp, k⟩ := h
    match as, hl, k with
    | [v0, v1, v2], _, k =>
      refine ⟨_, (pss_cons (ps_fld (pv 0) (pv 1) rfl)
    (pss_cons (ps_fld (pv 0) (pv 2) rfl)
    (pss_one (ps_fld (pv 0) (pv 3) rfl)))), ?_⟩
      refine ⟨_, rfl, _, rfl, p, _, dx, _, rfl, hp, T.cl_Step, T.n_Step_machine, (by decide), ?_⟩
      refine ⟨_, rfl, _, rfl, p, _, dx, _, rfl, upd_same, T.cl_Step, T.n_Step_kind, (by show 1 < 1000; decide), ?_⟩
      refine ⟨_, rfl, _, rfl, p, _, dx, _, rfl, upd_same, T.cl_Step, T.n_Step_length, (by show 2 < 1000; decide), ?_⟩
      rw [upd_upd, upd_upd]
      exact k
theorem ok_Job_init {f : Addr} {fd : FuncData} (F : Fun K "__init__" "Job.__init__" s_Job_init f fd) (T : Txt K mg c) : FnOk P w K mg base CX0 1 f fd ["self", "start", "due", "weight", "steps"] (spRec c.cJob ["start", "due", "weight", "steps"]) := by
  refine F.ok sc_Job_init (fun vs H Q E h => ?_) (fun cdv A outer s H vs Q E hr h => ?_)
  · obtain ⟨p, dx, as, rfl, hl, _⟩ := h
    exact congrArg (· + 1) hl
  · obtain ⟨p, dx, as, rfl, hl, hp, k⟩ := h
    match as, hl, k with
    | [v0, v1, v2, v3], _, k =>
      refine ⟨_, (pss_cons (ps_fld (pv 0) (pv 1) rfl)
    (pss_cons (ps_fld (pv 0) (pv 2) rfl)
    (pss_cons (ps_fld (pv 0) (pv 3) rfl)
    (pss_one (ps_fld (pv 0) (pv 4) rfl))))), ?_⟩
      refine ⟨_, rfl, _, rfl, p, _, dx, _, rfl, hp, T.cl_Job, T.n_Job_start, (by decide), ?_⟩
      refine ⟨_, rfl, _, rfl, p, _, dx, _, rfl, upd_same, T.cl_Job, T.n_Job_due, (by show 1 < 1000; decide), ?_⟩
      refine ⟨_, rfl, _, rfl, p, _, dx, _, rfl, upd_same, T.cl_Job, T.n_Job_weight, (by show 2 < 1000; decide), ?_⟩
      refine ⟨_, rfl, _, rfl, p, _, dx, _, rfl, upd_same, T.cl_Job, T.n_Job_steps, (by show 3 < 1000; decide), ?_⟩
      rw [upd_upd, upd_upd, upd_upd]
      exact k
theorem ok_Placed_init {f : Addr} {fd : FuncData} (F : Fun K "__init__" "Placed.__init__" s_Placed_init f fd) (T : Txt K mg c) : FnOk P w K mg base CX0 1 f fd ["self", "job", "which", "machine", "ready", "begin", "stop"] (spRec c.cPlaced ["job", "which", "machine", "ready", "begin", "stop"]) := by
  refine F.ok sc_Placed_init (fun vs H Q E h => ?_) (fun cdv A outer s H vs Q E hr h => ?_)
  · obtain ⟨p, dx, as, rfl, hl, _⟩ := h
    exact congrArg (· + 1) hl
  · obtain ⟨p, dx, as, rfl, hl, hp, k⟩ := h
    match as, hl, k with
    | [v0, v1, v2, v3, v4, v5], _, k =>
      refine ⟨_, (pss_cons (ps_fld (pv 0) (pv 1) rfl)
    (pss_cons (ps_fld (pv 0) (pv 2) rfl)
    (pss_cons (ps_fld (pv 0) (pv 3) rfl)
    (pss_cons (ps_fld (pv 0) (pv 4) rfl)
    (pss_cons (ps_fld (pv 0) (pv 5) rfl)
    (pss_one (ps_fld (pv 0) (pv 6) rfl))))))), ?_⟩
      refine ⟨_, rfl, _, rfl, p, _, dx, _, rfl, hp, T.cl_Placed, T.n_Placed_job, (by decide), ?_⟩
      refine ⟨_, rfl, _, rfl, p, _, dx, _, rfl, upd_same, T.cl_Placed, T.n_Placed_which, (by show 1 < 1000; decide), ?_⟩
      refine ⟨_, rfl, _, rfl, p, _, dx, _, rfl, upd_same, T.cl_Placed, T.n_Placed_machine, (by show 2 < 1000; decide), ?_⟩
      refine ⟨_, rfl, _, rfl, p, _, dx, _, rfl, upd_same, T.cl_Placed, T.n_Placed_ready, (by show 3 < 1000; decide), ?_⟩
      refine ⟨_, rfl, _, rfl, p, _, dx, _, rfl, upd_same, T.cl_Placed, T.n_Placed_begin, (by show 4 < 1000; decide), ?_⟩
      refine ⟨_, rfl, _, rfl, p, _, dx, _, rfl, upd_same, T.cl_Placed, T.n_Placed_stop, (by show 5 < 1000; decide), ?_⟩
      rw [upd_upd, upd_upd, upd_upd, upd_upd, upd_upd]
      exact k
theorem ok_Timetable_init {f : Addr} {fd : FuncData} (F : Fun K "__init__" "Timetable.__init__" s_Timetable_init f fd) (T : Txt K mg c) : FnOk P w K mg base CX0 1 f fd ["self", "machines", "jobs", "upcoming", "job_stops", "machine_stops", "kinds"] (spRec c.cTimetable ["machines", "jobs", "upcoming", "job_stops", "machine_stops", "kinds"]) := by
  refine F.ok sc_Timetable_init (fun vs H Q E h => ?_) (fun cdv A outer s H vs Q E hr h => ?_)
  · obtain ⟨p, dx, as, rfl, hl, _⟩ := h
    exact congrArg (· + 1) hl
  · obtain ⟨p, dx, as, rfl, hl, hp, k⟩ := h
    match as, hl, k with
    | [v0, v1, v2, v3, v4, v5], _, k =>
      refine ⟨_, (pss_cons (ps_fld (pv 0) (pv 1) rfl)
    (pss_cons (ps_fld (pv 0) (pv 2) rfl)
    (pss_cons (ps_fld (pv 0) (pv 3) rfl)
    (pss_cons (ps_fld (pv 0) (pv 4) rfl)
    (pss_cons (ps_fld (pv 0) (pv 5) rfl)
    (pss_one (ps_fld (pv 0) (pv 6) rfl))))))), ?_⟩
      refine ⟨_, rfl, _, rfl, p, _, dx, _, rfl, hp, T.cl_Timetable, T.n_Timetable_machines, (by decide), ?_⟩
      refine ⟨_, rfl, _, rfl, p, _, dx, _, rfl, upd_same, T.cl_Timetable, T.n_Timetable_jobs, (by show 1 < 1000; decide), ?_⟩
      refine ⟨_, rfl, _, rfl, p, _, dx, _, rfl, upd_same, T.cl_Timetable, T.n_Timetable_upcoming, (by show 2 < 1000; decide), ?_⟩
      refine ⟨_, rfl, _, rfl, p, _, dx, _, rfl, upd_same, T.cl_Timetable, T.n_Timetable_job_stops, (by show 3 < 1000; decide), ?_⟩
      refine ⟨_, rfl, _, rfl, p, _, dx, _, rfl, upd_same, T.cl_Timetable, T.n_Timetable_machine_stops, (by show 4 < 1000; decide), ?_⟩
      refine ⟨_, rfl, _, rfl, p, _, dx, _, rfl, upd_same, T.cl_Timetable, T.n_Timetable_kinds, (by show 5 < 1000; decide), ?_⟩
      rw [upd_upd, upd_upd, upd_upd, upd_upd, upd_upd]
      exact k
theorem ok_Beginning_init {f : Addr} {fd : FuncData} (F : Fun K "__init__" "Beginning.__init__" s_Beginning_init f fd) (T : Txt K mg c) : FnOk P w K mg base CX0 1 f fd ["self", "timetable", "order", "spent", "ended", "ways"] (spRec c.cBeginning ["timetable", "order", "spent", "ended", "ways"]) := by
  refine F.ok sc_Beginning_init (fun vs H Q E h => ?_) (fun cdv A outer s H vs Q E hr h => ?_)
  · obtain ⟨p, dx, as, rfl, hl, _⟩ := h
    exact congrArg (· + 1) hl
  · obtain ⟨p, dx, as, rfl, hl, hp, k⟩ := h
    match as, hl, k with
    | [v0, v1, v2, v3, v4], _, k =>
      refine ⟨_, (pss_cons (ps_fld (pv 0) (pv 1) rfl)
    (pss_cons (ps_fld (pv 0) (pv 2) rfl)
    (pss_cons (ps_fld (pv 0) (pv 3) rfl)
    (pss_cons (ps_fld (pv 0) (pv 4) rfl)
    (pss_one (ps_fld (pv 0) (pv 5) rfl)))))), ?_⟩
      refine ⟨_, rfl, _, rfl, p, _, dx, _, rfl, hp, T.cl_Beginning, T.n_Beginning_timetable, (by decide), ?_⟩
      refine ⟨_, rfl, _, rfl, p, _, dx, _, rfl, upd_same, T.cl_Beginning, T.n_Beginning_order, (by show 1 < 1000; decide), ?_⟩
      refine ⟨_, rfl, _, rfl, p, _, dx, _, rfl, upd_same, T.cl_Beginning, T.n_Beginning_spent, (by show 2 < 1000; decide), ?_⟩
      refine ⟨_, rfl, _, rfl, p, _, dx, _, rfl, upd_same, T.cl_Beginning, T.n_Beginning_ended, (by show 3 < 1000; decide), ?_⟩
      refine ⟨_, rfl, _, rfl, p, _, dx, _, rfl, upd_same, T.cl_Beginning, T.n_Beginning_ways, (by show 4 < 1000; decide), ?_⟩
      rw [upd_upd, upd_upd, upd_upd, upd_upd]
      exact k
end
end Sj
end
section
set_option Elab.async false
set_option linter.all false
set_option maxRecDepth 100000
set_option maxHeartbeats 2000000
namespace Sj
open PySem PySem.Spec PyProof.Rows L2
section
variable {P : Program} {w : World} {K : PySem.W.Frag} {mg : Str → Option Value} {base : Heap} {c : Cs}
def sp_first_time : Sp := fun vs H Q _ => ∃ (l : Addr) (as : List Addr) (rs : List (Nat × Nat)) (r n : Nat), vs = [.ref l, vn r, vn n] ∧ H l = some (.lst (as.map V.ref)) ∧ Rows (RestAt H) rs as ∧ Q (vn (firstTime rs r n)) H
theorem ok_first_time {f : Addr} {fd : FuncData} (F : Fun K "first_time" "first_time" s_first_time f fd) (T : Txt K mg c) : FnOk P w K mg base CX0 1 f fd ["rests", "ready", "takes"] sp_first_time := by
  refine F.ok sc_first_time (fun vs H Q E h => ?_) (fun cdv A outer s H vs Q E hr h => ?_)
  · obtain ⟨l, as, rs, r, n, rfl, _⟩ := h
    rfl
  · obtain ⟨l, as, rs, r, n, rfl, hl, hrs, k⟩ := h
    have nd := sc_first_time.nd
    refine ⟨_, (pss_cons (ps_set (i := 3) nd rfl (Or.inl rfl) (pv 1))
    (pss_cons (ps_for PassesOwn.never rfl (pi_list (pv 0)) (pg_tup rfl (pgs_cons (pg_name (i := 4) nd rfl (Or.inl rfl)) (pgs_cons (pg_name (i := 5) nd rfl (Or.inl rfl)) pgs_nil))) (pss_one (ps_if (pw_and (pt_cmpR o_lt (pv 3) (pv 5) (nomark _)) (pw_and1 (pt_cmpR o_lt (pv 4) (pe_op o_add (pv 3) (pv 2)) (nomark _)))).pt (pss_one (ps_set (i := 3) nd rfl (Or.inl rfl) (pv 5))) pss_nil)))
    (pss_one (ps_ret (pv 3))))), ?_⟩
    refine ⟨_, rfl, _, rfl, l, rfl, ⟨_, SqL.of hl⟩, for_list (K := K) (a := l) (xs := as.map V.ref) (fun i σ H' => ∃ (t : Nat) (v4 v5 : Option V), σ = [some (.ref l), some (vn r), some (vn n), some (vn t), v4, v5] ∧ H' = H ∧ (rs.drop i).foldl (walk1 n) t = firstTime rs r n)
      ⟨r, none, none, rfl, rfl, rfl⟩ (fun i σ H' _ ⟨_, _, _, _, e, _⟩ => by rw [e]; exact SqL.of hl) ?_ ?_⟩
    · rintro i x σ H' hx ⟨t, v4, v5, rfl, rfl, hI⟩
      obtain ⟨a, ha, rfl⟩ := map_at hx
      obtain ⟨r', hr', hra⟩ := hrs.at_ ha
      rw [drop_at hr', List.foldl_cons] at hI
      unfold walk1 at hI
      refine ⟨a, _, rfl, SqT.of hra, rfl, _, _, rfl, _, _, rfl, rfl, ?_⟩
      refine ⟨_, rfl, _, rfl, _, _, rfl, rfl, _, rfl, ite2 (fun h1 => ?_) (fun h1 => ?_)⟩
      · have h1 := of_decide_eq_true h1
        refine ⟨_, rfl, _, rfl, _, rfl, _, _, rfl, rfl, _, _, rfl, rfl, _, rfl, ite2 (fun h2 => ?_) (fun h2 => ?_)⟩
        · have h2 := of_decide_eq_true h2
          rw [if_pos (show t < r'.2 ∧ r'.1 < t + n by omega)] at hI
          exact ⟨_, rfl, r'.2, _, _, rfl, rfl, hI⟩
        · have h2 : ¬ (r'.1 : Int) < t + n := fun z => h2 (decide_eq_true z)
          rw [if_neg (show ¬ (t < r'.2 ∧ r'.1 < t + n) by omega)] at hI
          exact ⟨t, _, _, rfl, rfl, hI⟩
      · have h1 : ¬ (t : Int) < r'.2 := fun z => h1 (decide_eq_true z)
        rw [if_neg (show ¬ (t < r'.2 ∧ r'.1 < t + n) by omega)] at hI
        exact iteF ⟨t, _, _, rfl, rfl, hI⟩
    · rintro σ H' ⟨t, v4, v5, rfl, rfl, hI⟩
      rw [List.length_map, hrs.1, List.drop_length] at hI
      have hI : t = firstTime rs r n := hI
      subst hI
      exact ⟨_, rfl, k⟩
def tf (lm lj l1 l2 l3 l4 : Addr) : List (Str × V) := [("machines", .ref lm), ("jobs", .ref lj), ("upcoming", .ref l1), ("job_stops", .ref l2), ("machine_stops", .ref l3), ("kinds", .ref l4)]
theorem lk_tf1 {lm lj l1 l2 l3 l4 : Addr} : (tf lm lj l1 l2 l3 l4).lookup ("machines" : Str) = some (.ref lm) := by rfl
theorem lk_tf2 {lm lj l1 l2 l3 l4 : Addr} : (tf lm lj l1 l2 l3 l4).lookup ("jobs" : Str) = some (.ref lj) := by rfl
theorem lk_tf3 {lm lj l1 l2 l3 l4 : Addr} : (tf lm lj l1 l2 l3 l4).lookup ("upcoming" : Str) = some (.ref l1) := by rfl
theorem lk_tf4 {lm lj l1 l2 l3 l4 : Addr} : (tf lm lj l1 l2 l3 l4).lookup ("job_stops" : Str) = some (.ref l2) := by rfl
theorem lk_tf5 {lm lj l1 l2 l3 l4 : Addr} : (tf lm lj l1 l2 l3 l4).lookup ("machine_stops" : Str) = some (.ref l3) := by rfl
theorem lk_tf6 {lm lj l1 l2 l3 l4 : Addr} : (tf lm lj l1 l2 l3 l4).lookup ("kinds" : Str) = some (.ref l4) := by rfl
def TTAt (c : Cs) (G H : Hp) (a : Addr) (h : Si44.House) (l : List Si44.Done) (L : List Addr) : Prop :=
  ∃ dx lm lj l1 l2 l3 l4, L = [l1, l2, l3, l4] ∧ L.Nodup ∧ H a = some (.ins c.cTimetable dx (tf lm lj l1 l2 l3 l4)) ∧ H l1 = some (.lst ((ups h l).map vn)) ∧ H l2 = some (.lst ((jss h l).map vn)) ∧ H l3 = some (.lst ((mss h l).map vn)) ∧ H l4 = some (.lst ((kss h l).map vn)) ∧
    Same G H ∧ (∀ b ∈ L, G b = none) ∧ MachsAt c G h.machines lm ∧ JobsAt c G h.jobs lj
def pf (r : Nat) (d : Si44.Done) : List (Str × V) := [("job", vn d.job), ("which", vn d.step), ("machine", vn d.machine), ("ready", vn r), ("begin", vn d.start), ("stop", vn d.halt_)]
theorem lk_pf1 {r : Nat} {d : Si44.Done} : (pf r d).lookup ("job" : Str) = some (vn d.job) := by rfl
theorem lk_pf2 {r : Nat} {d : Si44.Done} : (pf r d).lookup ("which" : Str) = some (vn d.step) := by rfl
theorem lk_pf3 {r : Nat} {d : Si44.Done} : (pf r d).lookup ("machine" : Str) = some (vn d.machine) := by rfl
theorem lk_pfr {r : Nat} {d : Si44.Done} : (pf r d).lookup ("ready" : Str) = some (vn r) := by rfl
theorem lk_pf4 {r : Nat} {d : Si44.Done} : (pf r d).lookup ("begin" : Str) = some (vn d.start) := by rfl
theorem lk_pf5 {r : Nat} {d : Si44.Done} : (pf r d).lookup ("stop" : Str) = some (vn d.halt_) := by rfl
def PlacedAt (c : Cs) (H : Hp) (x : Nat × Si44.Done) (a : Addr) : Prop := ∃ dx, H a = some (.ins c.cPlaced dx (pf x.1 x.2))
theorem PlacedAt.keep {c : Cs} {H H' : Hp} {d : Nat × Si44.Done} {a : Addr} (s : Same H H') (h : PlacedAt c H d a) : PlacedAt c H' d a := let ⟨dx, h1⟩ := h; ⟨dx, s _ _ h1⟩
theorem vn_at {l : List Nat} {i : Nat} {x : Nat} (h : l[i]? = some x) : (l.map vn)[i]? = some (vn x) := by rw [List.getElem?_map, h]; rfl
theorem ref_at {l : List Addr} {i : Nat} {x : Addr} (h : l[i]? = some x) : (l.map V.ref)[i]? = some (V.ref x) := by rw [List.getElem?_map, h]; rfl
theorem ix_nat {n j : Nat} (h : j < n) : ixN n (j : Int) = some j := by
  unfold ixN
  rw [if_pos (by omega), if_pos (by omega)]
  simp
theorem set_vn (l : List Nat) (j x : Nat) : (l.map vn).set j (vn x) = (l.set j x).map vn := by rw [List.map_set]
theorem max_int (a b : Nat) : (if (b : Int) > (a : Int) then (b : Int) else (a : Int)) = ((max a b : Nat) : Int) := by
  split <;> omega
theorem lk_tf0 {lm lj l1 l2 l3 l4 : Addr} : (tf lm lj l1 l2 l3 l4).lookup ("put" : Str) = none := by rfl
theorem lk_tfm {lm lj l1 l2 l3 l4 : Addr} : (tf lm lj l1 l2 l3 l4).lookup ("has_more" : Str) = none := by rfl
theorem lk_tfa {lm lj l1 l2 l3 l4 : Addr} : (tf lm lj l1 l2 l3 l4).lookup ("ahead" : Str) = none := by rfl
theorem lk_tfc {lm lj l1 l2 l3 l4 : Addr} : (tf lm lj l1 l2 l3 l4).lookup ("copied" : Str) = none := by rfl
def sp_has_more (c : Cs) : Sp := fun vs H Q _ => ∃ (a dx lm lj l1 l2 l3 l4 : Addr) (us : List Nat) (js : List Si44.Job) (n j : Nat) (b : Si44.Job), vs = [.ref a, vn j] ∧ H a = some (.ins c.cTimetable dx (tf lm lj l1 l2 l3 l4)) ∧ H l1 = some (.lst (us.map vn)) ∧ us[j]? = some n ∧ JobsAt c H js lj ∧ js[j]? = some b ∧ Q (.bl (decide (n < b.steps.length))) H
theorem ok_has_more {f : Addr} {fd : FuncData} (F : Fun K "has_more" "Timetable.has_more" s_Timetable_has_more f fd) (T : Txt K mg c) : FnOk P w K mg base CX0 1 f fd ["self", "number"] (sp_has_more c) := by
  refine F.ok sc_Timetable_has_more (fun vs H Q E h => ?_) (fun cdv A outer s H vs Q E hr h => ?_)
  · obtain ⟨a, dx, lm, lj, l1, l2, l3, l4, us, js, n, j, b, rfl, _⟩ := h
    rfl
  · obtain ⟨a, dx, lm, lj, l1, l2, l3, l4, us, js, n, j, b, rfl, hA, h1, hu, ⟨jas, hlj, rj⟩, hb, k⟩ := h
    obtain ⟨pj, hpj, dj, ls, sas, j1, j2, j3, j4⟩ := rj.2 j b hb
    refine ⟨_, (pss_one (ps_ret (pe_cmpR o_lt (pe_ix ix_list (pe_fld (pv 0) rfl) (pv 1) (fun _ _ => rfl)) (pe_callB cr_len (by rfl) T.b_len bt_len (pa_cons (pe_fld (pe_ix ix_list (pe_fld (pv 0) rfl) (pv 1) (fun _ _ => rfl)) rfl) pa_nil)) (nomark _)))), ?_⟩
    refine ⟨_, rfl, a, _, dx, _, _, rfl, hA, T.cl_Timetable, T.n_Timetable_upcoming, lk_tf3, _, rfl, l1, _, _, _, rfl, rfl, SqL.of h1, atI_nat (vn_at hu), ?_⟩
    refine ⟨_, rfl, a, _, dx, _, _, rfl, hA, T.cl_Timetable, T.n_Timetable_jobs, lk_tf2, _, rfl, lj, _, _, _, rfl, rfl, SqL.of hlj, atI_nat (ref_at hpj), pj, _, dj, _, _, rfl, j1, T.cl_Job, T.n_Job_steps, lk_jf4, ls, _, rfl, .inl (SqL.of j2), _, _, rfl, rfl, ?_⟩
    dsimp only
    rw [List.length_map, j3.1]
    have e : decide (((n : Nat) : Int) < ((b.steps.length : Nat) : Int)) = decide (n < b.steps.length) := decide_eq_decide.mpr (by omega)
    rw [e]
    exact k
theorem ite_var {d : Bool} {x i : Nat} {σ : L2.St} {Q : VK} {H : Hp} (hs : σ[i]? = some (some (vn x))) (h : Q (vn (if d = true then x else 0)) H) : if d = true then tVar i σ H Q else tC (.int 0) σ H Q := by
  cases d with
  | true => exact ⟨_, hs, h⟩
  | false => exact h
def sp_put (c : Cs) : Sp := fun vs H Q _ => ∃ (a : Addr) (G : Hp) (h : Si44.House) (l : List Si44.Done) (L : List Addr) (j : Nat) (b : Si44.Job) (s : Si44.Step) (m : Si44.Machine),
  vs = [.ref a, vn j] ∧ TTAt c G H a h l L ∧ h.jobs[j]? = some b ∧ b.steps[cnt l j]? = some s ∧ h.machines[s.machine]? = some m ∧
    ∀ (H' : Hp) (p : Addr), TTAt c G H' a h (l ++ [doneP m l j b s]) L → PlacedAt c H' (max (Si44.readyAt l j b) (Si44.machineAt l s.machine), doneP m l j b s) p → (∀ b o, H b = some o → b ∉ L → H' b = some o) → H p = none → Q (.ref p) H'
theorem ok_put {f : Addr} {fd : FuncData} (F : Fun K "put" "Timetable.put" s_Timetable_put f fd) (T : Txt K mg c) (c_first_time : Callee P w K mg base 1 "first_time" ["rests", "ready", "takes"] sp_first_time)
    (c_Placed : KCallee P w K mg base 1 "Placed" c.cPlaced ["self", "job", "which", "machine", "ready", "begin", "stop"] (spRec c.cPlaced ["job", "which", "machine", "ready", "begin", "stop"]))
    (c_Timetable_has_more : MCallee P w K mg base 1 c.cTimetable "has_more" ["self", "number"] (sp_has_more c)) :
    FnOk P w K mg base CX0 3 f fd ["self", "number"] (sp_put c) := by
  refine F.ok sc_Timetable_put (fun vs H Q E h => ?_) (fun cdv A outer s H vs Q E hr h => ?_)
  · obtain ⟨a, G, h, l, L, j, b, s, m, rfl, _⟩ := h
    rfl
  · obtain ⟨a, G, h, l, L, j, b, x, m, rfl, ⟨dx, lm, lj, l1, l2, l3, l4, eL, nL, hA, h1, h2, h3, h4, sG, gL, ⟨mas, hlm, rm⟩, ⟨jas, hlj, rj⟩⟩, hb, hx, hm, k⟩ := h
    have nd := sc_Timetable_put.nd
    have hj := lt_of_at hb
    have hmx := lt_of_at hm
    obtain ⟨pj, hpj, dj, ls, sas, j1, j2, j3, j4⟩ := rj.2 j b hb
    obtain ⟨px, hpx, dxs, x1⟩ := j3.2 _ x hx
    obtain ⟨pm, hpm, dm, lr, ras, m1, m2, m3, m4⟩ := rm.2 _ m hm
    subst eL
    have g1 : G l1 = none := gL l1 (by simp)
    have g2 : G l2 = none := gL l2 (by simp)
    have g3 : G l3 = none := gL l3 (by simp)
    have g4 : G l4 = none := gL l4 (by simp)
    have n12 : l1 ≠ l2 := by simp at nL; exact nL.1.1
    have n13 : l1 ≠ l3 := by simp at nL; exact nL.1.2.1
    have n14 : l1 ≠ l4 := by simp at nL; exact nL.1.2.2
    have n23 : l2 ≠ l3 := by simp at nL; exact nL.2.1.1
    have n24 : l2 ≠ l4 := by simp at nL; exact nL.2.1.2
    have n34 : l3 ≠ l4 := by simp at nL; exact nL.2.2
    refine ⟨_, (pss_cons (ps_set (i := 2) nd rfl (Or.inl rfl) (pe_ix ix_list (pe_fld (pv 0) rfl) (pv 1) (fun _ _ => rfl)))
    (pss_cons (ps_set (i := 3) nd rfl (Or.inl rfl) (pe_ix ix_list (pe_fld (pe_ix ix_list (pe_fld (pv 0) rfl) (pv 1) (fun _ _ => rfl)) rfl) (pv 2) (fun _ _ => rfl)))
    (pss_cons (ps_set (i := 4) nd rfl (Or.inl rfl) (pe_ix ix_list (pe_fld (pv 0) rfl) (pe_fld (pv 3) rfl) (fun _ _ => rfl)))
    (pss_cons (ps_set (i := 5) nd rfl (Or.inl rfl) (pe_fld (pv 3) rfl))
    (pss_cons (ps_if (pt_cmpR op_ne (pe_fld (pv 3) rfl) (pe_ix ix_list (pe_fld (pv 0) rfl) (pe_fld (pv 3) rfl) (fun _ _ => rfl)) (nomark _)) (pss_one (ps_set (i := 5) nd rfl (Or.inl rfl) (pe_op o_add (pv 5) (pe_fld (pv 4) rfl)))) pss_nil)
    (pss_cons (ps_set (i := 6) nd rfl (Or.inl rfl) (pe_callB (cr_max2 rfl) (by rfl) T.b_max bt_max (pa_cons (pe_ix ix_list (pe_fld (pv 0) rfl) (pv 1) (fun _ _ => rfl)) (pa_cons (pe_ix ix_list (pe_fld (pv 0) rfl) (pe_fld (pv 3) rfl) (fun _ _ => rfl)) pa_nil))))
    (pss_cons (ps_set (i := 7) nd rfl (Or.inl rfl) (pe_fn c_first_time (hr.mono (by decide)) (pa_cons (pe_fld (pv 4) rfl) (pa_cons (pv 6) (pa_cons (pv 5) pa_nil)))))
    (pss_cons (ps_set (i := 8) nd rfl (Or.inl rfl) (pe_op o_add (pv 7) (pv 5)))
    (pss_cons (ps_asg (pe_op o_add (pv 2) pe_int) (pg_sub (pe_fld (pv 0) rfl) (pv 1) set_list))
    (pss_cons (ps_asg (pe_ifExp (pt_val (pe_mt T.cl_Timetable c_Timetable_has_more (hr.mono (by decide)) (pv 0) (pa_cons (pv 1) pa_nil))) (pv 8) pe_int) (pg_sub (pe_fld (pv 0) rfl) (pv 1) set_list))
    (pss_cons (ps_asg (pv 8) (pg_sub (pe_fld (pv 0) rfl) (pe_fld (pv 3) rfl) set_list))
    (pss_cons (ps_asg (pe_fld (pv 3) rfl) (pg_sub (pe_fld (pv 0) rfl) (pe_fld (pv 3) rfl) set_list))
    (pss_one (ps_ret (pe_mk c_Placed (hr.mono (by decide)) (pa_cons (pv 1) (pa_cons (pv 2) (pa_cons (pe_fld (pv 3) rfl) (pa_cons (pv 6) (pa_cons (pv 7) (pa_cons (pv 8) pa_nil))))))))))))))))))))), ?_⟩
    refine ⟨_, rfl, a, _, dx, _, _, rfl, hA, T.cl_Timetable, T.n_Timetable_upcoming, lk_tf3, _, rfl, l1, _, _, _, rfl, rfl, SqL.of h1, atI_nat (vn_at (ups_get l hj)), ?_⟩
    refine ⟨_, rfl, a, _, dx, _, _, rfl, hA, T.cl_Timetable, T.n_Timetable_jobs, lk_tf2, _, rfl, lj, _, _, _, rfl, rfl, SqL.of (sG _ _ hlj), atI_nat (ref_at hpj), pj, _, dj, _, _, rfl, sG _ _ j1, T.cl_Job, T.n_Job_steps, lk_jf4, _, rfl, ls, _, _, _, rfl, rfl, SqL.of (sG _ _ j2), atI_nat (ref_at hpx), ?_⟩
    refine ⟨_, rfl, a, _, dx, _, _, rfl, hA, T.cl_Timetable, T.n_Timetable_machines, lk_tf1, _, rfl, px, _, dxs, _, _, rfl, sG _ _ x1, T.cl_Step, T.n_Step_machine, lk_sf1, lm, _, _, _, rfl, rfl, SqL.of (sG _ _ hlm), atI_nat (ref_at hpm), ?_⟩
    refine ⟨_, rfl, px, _, dxs, _, _, rfl, sG _ _ x1, T.cl_Step, T.n_Step_length, lk_sf3, ?_⟩
    refine ⟨_, rfl, px, _, dxs, _, _, rfl, sG _ _ x1, T.cl_Step, T.n_Step_kind, lk_sf2, _, rfl, a, _, dx, _, _, rfl, hA, T.cl_Timetable, T.n_Timetable_kinds, lk_tf6, _, rfl, px, _, dxs, _, _, rfl, sG _ _ x1, T.cl_Step, T.n_Step_machine, lk_sf1, l4, _, _, _, rfl, rfl, SqL.of h4, atI_nat (vn_at (kss_get l hmx)), rfl, _, rfl, ite2 (fun q => ?_) (fun q => ?_)⟩
    have q : ¬ x.kind = kindAt l x.machine := fun z => by rw [z] at q; simp at q
    refine ⟨_, rfl, _, rfl, pm, _, dm, _, _, rfl, sG _ _ m1, T.cl_Machine, T.n_Machine_change, lk_mf1, _, _, rfl, rfl, ?_⟩
    dsimp only
    rw [show ((x.long : Nat) : Int) + ((m.change : Nat) : Int) = ((takesP m l x : Nat) : Int) by unfold takesP; rw [if_neg q]; omega]
    rotate_left
    have q : x.kind = kindAt l x.machine := by
      by_cases z : x.kind = kindAt l x.machine
      · exact z
      · refine absurd ?_ q
        have : ¬ (vn x.kind = vn (kindAt l x.machine)) := fun y => z (by injection y with y; omega)
        simp [this]
    rw [show vn x.long = vn (takesP m l x) by unfold takesP; rw [if_pos q]]
    all_goals
      refine ⟨_, rfl, a, _, dx, _, _, rfl, hA, T.cl_Timetable, T.n_Timetable_job_stops, lk_tf4, _, rfl, l2, _, _, _, rfl, rfl, SqL.of h2, atI_nat (vn_at (jss_get l hb (lt_of_at hx))), _, rfl, a, _, dx, _, _, rfl, hA, T.cl_Timetable, T.n_Timetable_machine_stops, lk_tf5, _, rfl, px, _, dxs, _, _, rfl, sG _ _ x1, T.cl_Step, T.n_Step_machine, lk_sf1, l3, _, _, _, rfl, rfl, SqL.of h3, atI_nat (vn_at (mss_get l hmx)), _, _, rfl, ?_⟩
      rw [max_int]
      refine ⟨_, rfl, pm, _, dm, _, _, rfl, sG _ _ m1, T.cl_Machine, T.n_Machine_rests, lk_mf2, _, rfl, _, rfl, lr, ras, m.rests, _, _, rfl, sG _ _ m2, m3.imp (fun _ _ => RestAt.keep sG), ?_⟩
      refine ⟨_, rfl, _, rfl, _, _, rfl, rfl, ?_⟩
      dsimp only
      rw [show ((firstTime m.rests (max (Si44.readyAt l j b) (Si44.machineAt l x.machine)) (takesP m l x) : Nat) : Int) + ((takesP m l x : Nat) : Int) = (((doneP m l j b x).halt_ : Nat) : Int) from (Int.natCast_add _ _).symm]
      refine ⟨_, rfl, _, _, rfl, rfl, _, rfl, a, _, dx, _, _, rfl, hA, T.cl_Timetable, T.n_Timetable_upcoming, lk_tf3, _, rfl, l1, _, _, j, rfl, rfl, h1, ix_nat (by simp [ups]; exact hj), ?_⟩
      dsimp only
      rw [show ((ups h l).map vn).set j (V.int (((cnt l j : Nat) : Int) + 1)) = (ups h (l ++ [doneP m l j b x])).map vn by rw [ups_snoc]; exact set_vn _ _ _]
      obtain ⟨H1, e1⟩ : ∃ H1, H1 = upd H l1 (.lst ((ups h (l ++ [doneP m l j b x])).map vn)) := ⟨_, rfl⟩
      rw [← e1]
      have s1 : Same G H1 := by rw [e1]; exact sG.upd_r g1
      have a1 : H1 a = some (.ins c.cTimetable dx (tf lm lj l1 l2 l3 l4)) := by rw [e1, upd_ne (ne_of hA h1 (by intro z; cases z))]; exact hA
      have p12 : H1 l2 = some (.lst ((jss h l).map vn)) := by rw [e1, upd_ne (Ne.symm n12)]; exact h2
      have p13 : H1 l3 = some (.lst ((mss h l).map vn)) := by rw [e1, upd_ne (Ne.symm n13)]; exact h3
      have p14 : H1 l4 = some (.lst ((kss h l).map vn)) := by rw [e1, upd_ne (Ne.symm n14)]; exact h4
      have p11 : H1 l1 = some (.lst ((ups h (l ++ [doneP m l j b x])).map vn)) := by rw [e1]; exact upd_same
      have f1 : ∀ b o, H b = some o → b ∉ [l1, l2, l3, l4] → H1 b = some o := fun b o e n => by rw [e1, upd_ne (fun z => n (by rw [z]; simp))]; exact e
      refine ⟨_, rfl, a, dx, _, rfl, a1, lk_tfm, _, rfl, a, dx, lm, lj, l1, l2, l3, l4, ups h (l ++ [doneP m l j b x]), h.jobs, cnt l j + 1, j, b, rfl, a1, p11, ?_, ⟨jas, s1 _ _ hlj, rj.imp fun _ _ => JobAt.keep s1⟩, hb, _, rfl, ?_⟩
      · rw [ups_get _ hj, cnt_snoc, if_pos (show (doneP m l j b x).job = j from rfl)]
      refine ite_var (x := (doneP m l j b x).halt_) rfl ?_
      refine ⟨_, rfl, a, _, dx, _, _, rfl, a1, T.cl_Timetable, T.n_Timetable_job_stops, lk_tf4, _, rfl, l2, _, _, j, rfl, rfl, p12, ix_nat (by simp [jss]; exact hj), ?_⟩
      rw [show ((jss h l).map vn).set j (vn (if decide (cnt l j + 1 < b.steps.length) = true then (doneP m l j b x).halt_ else 0)) = (jss h (l ++ [doneP m l j b x])).map vn by rw [jss_snoc (d := doneP m l j b x) l hb]; rw [set_vn]; congr 2; simp only [decide_eq_true_eq]; rfl]
      obtain ⟨H2, e2⟩ : ∃ H2, H2 = upd H1 l2 (.lst ((jss h (l ++ [doneP m l j b x])).map vn)) := ⟨_, rfl⟩
      rw [← e2]
      have s2 : Same G H2 := by rw [e2]; exact s1.upd_r g2
      have a2 : H2 a = some (.ins c.cTimetable dx (tf lm lj l1 l2 l3 l4)) := by rw [e2, upd_ne (ne_of a1 p12 (by intro z; cases z))]; exact a1
      have p21 : H2 l1 = some (.lst ((ups h (l ++ [doneP m l j b x])).map vn)) := by rw [e2, upd_ne n12]; exact p11
      have p22 : H2 l2 = some (.lst ((jss h (l ++ [doneP m l j b x])).map vn)) := by rw [e2]; exact upd_same
      have p23 : H2 l3 = some (.lst ((mss h l).map vn)) := by rw [e2, upd_ne (Ne.symm n23)]; exact p13
      have p24 : H2 l4 = some (.lst ((kss h l).map vn)) := by rw [e2, upd_ne (Ne.symm n24)]; exact p14
      have f2 : ∀ b o, H b = some o → b ∉ [l1, l2, l3, l4] → H2 b = some o := fun b o e n => by rw [e2, upd_ne (fun z => n (by rw [z]; simp))]; exact f1 b o e n
      refine ⟨_, rfl, _, rfl, a, _, dx, _, _, rfl, a2, T.cl_Timetable, T.n_Timetable_machine_stops, lk_tf5, _, rfl, px, _, dxs, _, _, rfl, s2 _ _ x1, T.cl_Step, T.n_Step_machine, lk_sf1, l3, _, _, x.machine, rfl, rfl, p23, ix_nat (by simp [mss]; exact hmx), ?_⟩
      rw [show ((mss h l).map vn).set x.machine (V.int (((doneP m l j b x).halt_ : Nat) : Int)) = (mss h (l ++ [doneP m l j b x])).map vn by rw [mss_snoc]; exact set_vn _ _ _]
      obtain ⟨H3, e3⟩ : ∃ H3, H3 = upd H2 l3 (.lst ((mss h (l ++ [doneP m l j b x])).map vn)) := ⟨_, rfl⟩
      rw [← e3]
      have s3 : Same G H3 := by rw [e3]; exact s2.upd_r g3
      have a3 : H3 a = some (.ins c.cTimetable dx (tf lm lj l1 l2 l3 l4)) := by rw [e3, upd_ne (ne_of a2 p23 (by intro z; cases z))]; exact a2
      have p31 : H3 l1 = some (.lst ((ups h (l ++ [doneP m l j b x])).map vn)) := by rw [e3, upd_ne n13]; exact p21
      have p32 : H3 l2 = some (.lst ((jss h (l ++ [doneP m l j b x])).map vn)) := by rw [e3, upd_ne n23]; exact p22
      have p33 : H3 l3 = some (.lst ((mss h (l ++ [doneP m l j b x])).map vn)) := by rw [e3]; exact upd_same
      have p34 : H3 l4 = some (.lst ((kss h l).map vn)) := by rw [e3, upd_ne (Ne.symm n34)]; exact p24
      have f3 : ∀ b o, H b = some o → b ∉ [l1, l2, l3, l4] → H3 b = some o := fun b o e n => by rw [e3, upd_ne (fun z => n (by rw [z]; simp))]; exact f2 b o e n
      refine ⟨_, rfl, px, _, dxs, _, _, rfl, s3 _ _ x1, T.cl_Step, T.n_Step_kind, lk_sf2, _, rfl, a, _, dx, _, _, rfl, a3, T.cl_Timetable, T.n_Timetable_kinds, lk_tf6, _, rfl, px, _, dxs, _, _, rfl, s3 _ _ x1, T.cl_Step, T.n_Step_machine, lk_sf1, l4, _, _, x.machine, rfl, rfl, p34, ix_nat (by simp [kss]; exact hmx), ?_⟩
      rw [show ((kss h l).map vn).set x.machine (V.int ((x.kind : Nat) : Int)) = (kss h (l ++ [doneP m l j b x])).map vn by rw [kss_snoc]; exact set_vn _ _ _]
      obtain ⟨H4, e4⟩ : ∃ H4, H4 = upd H3 l4 (.lst ((kss h (l ++ [doneP m l j b x])).map vn)) := ⟨_, rfl⟩
      rw [← e4]
      have s4 : Same G H4 := by rw [e4]; exact s3.upd_r g4
      have a4 : H4 a = some (.ins c.cTimetable dx (tf lm lj l1 l2 l3 l4)) := by rw [e4, upd_ne (ne_of a3 p34 (by intro z; cases z))]; exact a3
      have p41 : H4 l1 = some (.lst ((ups h (l ++ [doneP m l j b x])).map vn)) := by rw [e4, upd_ne n14]; exact p31
      have p42 : H4 l2 = some (.lst ((jss h (l ++ [doneP m l j b x])).map vn)) := by rw [e4, upd_ne n24]; exact p32
      have p43 : H4 l3 = some (.lst ((mss h (l ++ [doneP m l j b x])).map vn)) := by rw [e4, upd_ne n34]; exact p33
      have p44 : H4 l4 = some (.lst ((kss h (l ++ [doneP m l j b x])).map vn)) := by rw [e4]; exact upd_same
      have f4 : ∀ b o, H b = some o → b ∉ [l1, l2, l3, l4] → H4 b = some o := fun b o e n => by rw [e4, upd_ne (fun z => n (by rw [z]; simp))]; exact f3 b o e n
      refine ⟨_, rfl, _, rfl, _, rfl, px, _, dxs, _, _, rfl, s4 _ _ x1, T.cl_Step, T.n_Step_machine, lk_sf1, _, rfl, _, rfl, _, rfl, fun y dy hy hdy hne => ⟨y, dy, [vn j, vn (cnt l j), vn x.machine, vn (max (Si44.readyAt l j b) (Si44.machineAt l x.machine)), vn (doneP m l j b x).start, vn (doneP m l j b x).halt_], rfl, rfl, upd_same, rfl, ?_⟩⟩
      have s5 := made (C := c.cPlaced) (fs := pf (max (Si44.readyAt l j b) (Si44.machineAt l x.machine)) (doneP m l j b x)) hy hdy
      have hHy : H y = none := by
        cases e : H y with
        | none => rfl
        | some o =>
          by_cases z : y ∈ [l1, l2, l3, l4]
          · rcases List.mem_cons.mp z with z | z
            · rw [z, p41] at hy; cases hy
            rcases List.mem_cons.mp z with z | z
            · rw [z, p42] at hy; cases hy
            rcases List.mem_cons.mp z with z | z
            · rw [z, p43] at hy; cases hy
            · rw [List.mem_singleton.mp z, p44] at hy; cases hy
          · rw [f4 y o e z] at hy; cases hy
      refine k _ y ⟨dx, lm, lj, l1, l2, l3, l4, rfl, nL, s5 _ _ a4, s5 _ _ p41, s5 _ _ p42, s5 _ _ p43, s5 _ _ p44, s4.trans s5, gL, ⟨mas, hlm, rm⟩, ⟨jas, hlj, rj⟩⟩ ⟨dy, upd_same⟩ (fun b o e n => s5 _ _ (f4 b o e n)) hHy
theorem TTAt.upd {c : Cs} {G H : Hp} {a : Addr} {h : Si44.House} {l : List Si44.Done} {L : List Addr} {p : Addr} {xs ys : List V} (t : TTAt c G H a h l L) (hp : H p = some (.lst xs)) (np : p ∉ L) (gp : G p = none) : TTAt c G (L2.upd H p (.lst ys)) a h l L := by
  obtain ⟨dx, lm, lj, l1, l2, l3, l4, eL, nL, hA, h1, h2, h3, h4, sG, gL, hm, hj⟩ := t
  subst eL
  have ne : ∀ b ∈ [l1, l2, l3, l4], b ≠ p := fun b hb z => np (by rw [← z]; exact hb)
  refine ⟨dx, lm, lj, l1, l2, l3, l4, rfl, nL, ?_, ?_, ?_, ?_, ?_, sG.upd_r gp, gL, hm, hj⟩
  · rw [upd_ne (ne_of hA hp (by intro z; cases z))]; exact hA
  · rw [upd_ne (ne l1 (by simp))]; exact h1
  · rw [upd_ne (ne l2 (by simp))]; exact h2
  · rw [upd_ne (ne l3 (by simp))]; exact h3
  · rw [upd_ne (ne l4 (by simp))]; exact h4
theorem TTAt.keep {c : Cs} {G H H' : Hp} {a : Addr} {h : Si44.House} {l : List Si44.Done} {L : List Addr} (t : TTAt c G H a h l L) (s : Same H H') : TTAt c G H' a h l L := by
  obtain ⟨dx, lm, lj, l1, l2, l3, l4, eL, nL, hA, h1, h2, h3, h4, sG, gL, hm, hj⟩ := t
  exact ⟨dx, lm, lj, l1, l2, l3, l4, eL, nL, s _ _ hA, s _ _ h1, s _ _ h2, s _ _ h3, s _ _ h4, sG.trans s, gL, hm, hj⟩
theorem nodup4 {H1 H2 H3 H4 : Hp} {l1 l2 l3 l4 : Addr} {o1 o2 o3 : HO} (a : H2 l1 = some o1) (b : H2 l2 = none) (c : H3 l1 = some o1) (d : H3 l2 = some o2) (e : H3 l3 = none) (f : H4 l1 = some o1) (g : H4 l2 = some o2) (h : H4 l3 = some o3) (i : H4 l4 = none) : [l1, l2, l3, l4].Nodup := by
  simp [ne_of_none a b, ne_of_none c e, ne_of_none d e, ne_of_none f i, ne_of_none g i, ne_of_none h i]
def sp_new_timetable (c : Cs) : Sp := fun vs H Q _ => ∃ (lm lj : Addr) (h : Si44.House), vs = [.ref lm, .ref lj] ∧ MachsAt c H h.machines lm ∧ JobsAt c H h.jobs lj ∧ Sound h ∧ ∀ (H' : Hp) (a : Addr) (L : List Addr), TTAt c H H' a h [] L → (∀ b ∈ L, H b = none) → H a = none → Q (.ref a) H'
theorem ok_new_timetable {f : Addr} {fd : FuncData} (F : Fun K "new_timetable" "new_timetable" s_new_timetable f fd) (T : Txt K mg c) (c_Timetable : KCallee P w K mg base 1 "Timetable" c.cTimetable ["self", "machines", "jobs", "upcoming", "job_stops", "machine_stops", "kinds"] (spRec c.cTimetable ["machines", "jobs", "upcoming", "job_stops", "machine_stops", "kinds"])) :
    FnOk P w K mg base CX0 3 f fd ["machines", "jobs"] (sp_new_timetable c) := by
  refine F.ok sc_new_timetable (fun vs H Q E h => ?_) (fun cdv A outer s H vs Q E hr h => ?_)
  · obtain ⟨lm, lj, h, rfl, _⟩ := h
    rfl
  · obtain ⟨lm, lj, h, rfl, ⟨mas, hlm, rm⟩, ⟨jas, hlj, rj⟩, v, k⟩ := h
    have nd := sc_new_timetable.nd
    have hm1 : h.machines.length ≤ 1000 := by have := v.few; omega
    have hj1 : h.jobs.length ≤ 1000 := by have := v.jobs_few; omega
    have zj : (jas.map V.ref).length ≤ sizeLine := by rw [List.length_map, rj.1]; exact le_line hj1
    have zm : (mas.map V.ref).length ≤ sizeLine := by rw [List.length_map, rm.1]; exact le_line hm1
    refine ⟨_, (pss_cons (ps_setLc (i := 2) (g := (gName 4)) (tt := tYes) (te := (tFld K (tVar 4) "start")) rfl nd rfl rfl rfl (pi_list (pv 1)) (own := [("job", 4)]) (blk_of (by kernel_rfl)) (fun _ _ _ _ _ => pg_name (i := 4) nd rfl (Or.inl rfl)) (fun _ _ _ _ _ => pts_nil) (fun _ _ _ _ _ => (pe_fld (pv 4) rfl)))
    (pss_cons (ps_setLc (i := 3) (g := (gName 5)) (tt := tYes) (te := (tC (.int 0))) rfl nd rfl rfl rfl (pi_list (pv 0)) (own := [("machine", 5)]) (blk_of (by kernel_rfl)) (fun _ _ _ _ _ => pg_name (i := 5) nd rfl (Or.inl rfl)) (fun _ _ _ _ _ => pts_nil) (fun _ _ _ _ _ => pe_int))
    (pss_one (ps_ret (pe_mk c_Timetable (hr.mono (by decide)) (pa_cons (pv 0) (pa_cons (pv 1) (pa_cons (pe_lc (g := (gName 4)) (tt := tYes) (te := (tC (.int 0))) rfl nd (pi_list (pv 1)) (own := [("job", 4)]) (blk_of (by kernel_rfl)) (fun _ _ _ _ _ => pg_name (i := 4) nd rfl (Or.inl rfl)) (fun _ _ _ _ _ => pts_nil) (fun _ _ _ _ _ => pe_int)) (pa_cons (pv 2) (pa_cons (pe_lc (g := (gName 5)) (tt := tYes) (te := (tC (.int 0))) rfl nd (pi_list (pv 0)) (own := [("machine", 5)]) (blk_of (by kernel_rfl)) (fun _ _ _ _ _ => pg_name (i := 5) nd rfl (Or.inl rfl)) (fun _ _ _ _ _ => pts_nil) (fun _ _ _ _ _ => pe_int)) (pa_cons (pv 3) pa_nil))))))))))), ?_⟩
    refine ⟨_, rfl, lj, rfl, ⟨_, SqL.of hlj⟩, fun l2 d2 => cm_vals d2 (SqL.of hlj) zj ((jss h []).map vn) (by simp [jss, rj.1]) (fun i x z H' N hx hz hs hN => ?_) fun H1 q2 s1 => ?_⟩
    · obtain ⟨pj, hpj, rfl⟩ := map_at hx
      obtain ⟨b, hb, dj, ls, sas, j1, _⟩ := rj.at_ hpj
      rw [jss_nil v.one, List.map_map, List.getElem?_map, hb] at hz
      cases hz
      exact ⟨rfl, _, rfl, pj, _, dj, _, _, rfl, hs _ _ j1, T.cl_Job, T.n_Job_start, lk_jf1, hN⟩
    refine ⟨_, rfl, lm, rfl, ⟨_, SqL.of (s1 _ _ hlm)⟩, fun l4 d4 => cm_vals d4 (SqL.of (s1 _ _ hlm)) zm ((kss h []).map vn) (by simp [kss, rm.1]) (fun i x z H' N hx hz hs hN => ?_) fun H2 q4 s2 => ?_⟩
    · rw [kss_nil, List.map_map] at hz
      obtain ⟨_, _, rfl⟩ := map_at hz
      exact ⟨rfl, hN⟩
    refine ⟨_, rfl, _, rfl, _, rfl, lj, rfl, ⟨_, SqL.of (s2 _ _ (s1 _ _ hlj))⟩, fun l1 d1 => cm_vals d1 (SqL.of (s2 _ _ (s1 _ _ hlj))) zj ((ups h []).map vn) (by simp [ups, rj.1]) (fun i x z H' N hx hz hs hN => ?_) fun H3 q1 s3 => ?_⟩
    · rw [ups_nil, List.map_map] at hz
      obtain ⟨_, _, rfl⟩ := map_at hz
      exact ⟨rfl, hN⟩
    refine ⟨_, rfl, _, rfl, lm, rfl, ⟨_, SqL.of (s3 _ _ (s2 _ _ (s1 _ _ hlm)))⟩, fun l3 d3 => cm_vals d3 (SqL.of (s3 _ _ (s2 _ _ (s1 _ _ hlm)))) zm ((mss h []).map vn) (by simp [mss, rm.1]) (fun i x z H' N hx hz hs hN => ?_) fun H4 q3 s4 => ?_⟩
    · rw [mss_nil, List.map_map] at hz
      obtain ⟨_, _, rfl⟩ := map_at hz
      exact ⟨rfl, hN⟩
    refine ⟨_, rfl, fun x dx hx hdx hne => ⟨x, dx, [.ref lm, .ref lj, .ref l1, .ref l2, .ref l3, .ref l4], rfl, rfl, upd_same, rfl, ?_⟩⟩
    have s5 := made (C := c.cTimetable) (fs := tf lm lj l1 l2 l3 l4) hx hdx
    have nL : [l1, l2, l3, l4].Nodup := by
      have a12 := ne_of_none (s2 _ _ q2) d1
      have a14 := ne_of_none q4 d1
      have a24 := ne_of_none q2 d4
      have a13 := ne_of_none q1 d3
      have a23 := ne_of_none (s3 _ _ (s2 _ _ q2)) d3
      have a43 := ne_of_none (s3 _ _ q4) d3
      simp [a12, a14, a24, a13, a23, a43, Ne.symm a12, Ne.symm a14, Ne.symm a43]
    have f1 : H l1 = none := s1.free (s2.free d1)
    have f3 : H l3 = none := s1.free (s2.free (s3.free d3))
    have f4 : H l4 = none := s1.free d4
    have fL : ∀ b ∈ [l1, l2, l3, l4], H b = none := fun b hb => by
      rcases List.mem_cons.mp hb with z | z
      · rw [z]; exact f1
      rcases List.mem_cons.mp z with z | z
      · rw [z]; exact d2
      rcases List.mem_cons.mp z with z | z
      · rw [z]; exact f3
      · rw [List.mem_singleton.mp z]; exact f4
    exact k _ x [l1, l2, l3, l4] ⟨dx, lm, lj, l1, l2, l3, l4, rfl, nL, upd_same, s5 _ _ (s4 _ _ q1), s5 _ _ (s4 _ _ (s3 _ _ (s2 _ _ q2))), s5 _ _ q3, s5 _ _ (s4 _ _ (s3 _ _ q4)), ((((s1.trans s2).trans s3).trans s4).trans s5), fL, ⟨mas, hlm, rm⟩, ⟨jas, hlj, rj⟩⟩ fL (s1.free (s2.free (s3.free (s4.free hx))))
def sp_ahead (c : Cs) : Sp := fun vs H Q _ => ∃ (a : Addr) (G : Hp) (h : Si44.House) (l : List Si44.Done) (L : List Addr), vs = [.ref a] ∧ TTAt c G H a h l L ∧ ∀ (H' : Hp) (b : Addr), Same H H' → Key2 (newOf H H') (ahead h l) b → Q (.ref b) H'
theorem ok_ahead {f : Addr} {fd : FuncData} (F : Fun K "ahead" "Timetable.ahead" s_Timetable_ahead f fd) (T : Txt K mg c) : FnOk P w K mg base CX0 1 f fd ["self"] (sp_ahead c) := by
  refine F.ok sc_Timetable_ahead (fun vs H Q E h => ?_) (fun cdv A outer s H vs Q E hr h => ?_)
  · obtain ⟨a, G, h, l, L, rfl, _⟩ := h
    rfl
  · obtain ⟨a, G, h, l, L, rfl, ⟨dx, lm, lj, l1, l2, l3, l4, eL, nL, hA, h1, h2, h3, h4, sG, gL, hm, hj⟩, k⟩ := h
    refine ⟨_, (pss_one (ps_ret (pe_tup (pa_cons (pe_callTy call_tuple_of (by rfl) T.b_tuple bt_tuple (pa_cons (pe_fld (pv 0) rfl) pa_nil)) (pa_cons (pe_callTy call_tuple_of (by rfl) T.b_tuple bt_tuple (pa_cons (pe_fld (pv 0) rfl) pa_nil)) (pa_cons (pe_callTy call_tuple_of (by rfl) T.b_tuple bt_tuple (pa_cons (pe_fld (pv 0) rfl) pa_nil)) (pa_cons (pe_callTy call_tuple_of (by rfl) T.b_tuple bt_tuple (pa_cons (pe_fld (pv 0) rfl) pa_nil)) pa_nil))))))), ?_⟩
    refine ⟨_, rfl, a, _, dx, _, _, rfl, hA, T.cl_Timetable, T.n_Timetable_upcoming, lk_tf3, l1, _, rfl, .inl ⟨SqL.of h1, fun t1 n1 => ?_⟩⟩
    have s1 := Same.upd (o := .tup ((ups h l).map vn)) n1
    refine ⟨_, rfl, a, _, dx, _, _, rfl, s1 _ _ hA, T.cl_Timetable, T.n_Timetable_job_stops, lk_tf4, l2, _, rfl, .inl ⟨SqL.of (s1 _ _ h2), fun t2 n2 => ?_⟩⟩
    have s2 := Same.upd (o := .tup ((jss h l).map vn)) n2
    refine ⟨_, rfl, a, _, dx, _, _, rfl, s2 _ _ (s1 _ _ hA), T.cl_Timetable, T.n_Timetable_machine_stops, lk_tf5, l3, _, rfl, .inl ⟨SqL.of (s2 _ _ (s1 _ _ h3)), fun t3 n3 => ?_⟩⟩
    have s3 := Same.upd (o := .tup ((mss h l).map vn)) n3
    refine ⟨_, rfl, a, _, dx, _, _, rfl, s3 _ _ (s2 _ _ (s1 _ _ hA)), T.cl_Timetable, T.n_Timetable_kinds, lk_tf6, l4, _, rfl, .inl ⟨SqL.of (s3 _ _ (s2 _ _ (s1 _ _ h4))), fun t4 n4 => ?_⟩⟩
    have s4 := Same.upd (o := .tup ((kss h l).map vn)) n4
    refine ⟨(by show 4 ≤ sizeLine; decide), fun b nb => ?_⟩
    have s5 := Same.upd (o := .tup [V.ref t1, V.ref t2, V.ref t3, V.ref t4]) nb
    have f2 : H t2 = none := s1.free n2
    have f3 : H t3 = none := s1.free (s2.free n3)
    have f4 : H t4 = none := s1.free (s2.free (s3.free n4))
    refine k _ b ((((s1.trans s2).trans s3).trans s4).trans s5) ⟨[t1, t2, t3, t4], newOf_at (s1.free (s2.free (s3.free (s4.free nb)))) upd_same, rfl, fun i ks e => ?_⟩
    match i, e with
    | 0, e => cases e; exact ⟨t1, rfl, newOf_at n1 (s5 _ _ (s4 _ _ (s3 _ _ (s2 _ _ upd_same))))⟩
    | 1, e => cases e; exact ⟨t2, rfl, newOf_at f2 (s5 _ _ (s4 _ _ (s3 _ _ upd_same)))⟩
    | 2, e => cases e; exact ⟨t3, rfl, newOf_at f3 (s5 _ _ (s4 _ _ upd_same))⟩
    | 3, e => cases e; exact ⟨t4, rfl, newOf_at f4 (s5 _ _ upd_same)⟩
    | n + 4, e => cases e
def sp_copied (c : Cs) : Sp := fun vs H Q _ => ∃ (a : Addr) (G : Hp) (h : Si44.House) (l : List Si44.Done) (L : List Addr), vs = [.ref a] ∧ TTAt c G H a h l L ∧ ∀ (H' : Hp) (a' : Addr) (L' : List Addr), Same H H' → TTAt c G H' a' h l L' → (∀ b ∈ L', H b = none) → H a' = none → Q (.ref a') H'
theorem ok_copied {f : Addr} {fd : FuncData} (F : Fun K "copied" "Timetable.copied" s_Timetable_copied f fd) (T : Txt K mg c) (c_Timetable : KCallee P w K mg base 1 "Timetable" c.cTimetable ["self", "machines", "jobs", "upcoming", "job_stops", "machine_stops", "kinds"] (spRec c.cTimetable ["machines", "jobs", "upcoming", "job_stops", "machine_stops", "kinds"])) :
    FnOk P w K mg base CX0 3 f fd ["self"] (sp_copied c) := by
  refine F.ok sc_Timetable_copied (fun vs H Q E h => ?_) (fun cdv A outer s H vs Q E hr h => ?_)
  · obtain ⟨a, G, h, l, L, rfl, _⟩ := h
    rfl
  · obtain ⟨a, G, h, l, L, rfl, ⟨dx, lm, lj, l1, l2, l3, l4, eL, nL, hA, h1, h2, h3, h4, sG, gL, hm, hj⟩, k⟩ := h
    refine ⟨_, (pss_one (ps_ret (pe_mk c_Timetable (hr.mono (by decide)) (pa_cons (pe_fld (pv 0) rfl) (pa_cons (pe_fld (pv 0) rfl) (pa_cons (pe_callTy call_list_of (by rfl) T.b_list bt_list (pa_cons (pe_fld (pv 0) rfl) pa_nil)) (pa_cons (pe_callTy call_list_of (by rfl) T.b_list bt_list (pa_cons (pe_fld (pv 0) rfl) pa_nil)) (pa_cons (pe_callTy call_list_of (by rfl) T.b_list bt_list (pa_cons (pe_fld (pv 0) rfl) pa_nil)) (pa_cons (pe_callTy call_list_of (by rfl) T.b_list bt_list (pa_cons (pe_fld (pv 0) rfl) pa_nil)) pa_nil))))))))), ?_⟩
    refine ⟨_, rfl, a, _, dx, _, _, rfl, hA, T.cl_Timetable, T.n_Timetable_machines, lk_tf1, _, rfl, a, _, dx, _, _, rfl, hA, T.cl_Timetable, T.n_Timetable_jobs, lk_tf2, ?_⟩
    refine ⟨_, rfl, a, _, dx, _, _, rfl, hA, T.cl_Timetable, T.n_Timetable_upcoming, lk_tf3, l1, _, rfl, .inl (SqL.of h1), fun m1 n1 => ?_⟩
    have s1 := Same.upd (o := .lst ((ups h l).map vn)) n1
    refine ⟨_, rfl, a, _, dx, _, _, rfl, s1 _ _ hA, T.cl_Timetable, T.n_Timetable_job_stops, lk_tf4, l2, _, rfl, .inl (SqL.of (s1 _ _ h2)), fun m2 n2 => ?_⟩
    have s2 := Same.upd (o := .lst ((jss h l).map vn)) n2
    refine ⟨_, rfl, a, _, dx, _, _, rfl, s2 _ _ (s1 _ _ hA), T.cl_Timetable, T.n_Timetable_machine_stops, lk_tf5, l3, _, rfl, .inl (SqL.of (s2 _ _ (s1 _ _ h3))), fun m3 n3 => ?_⟩
    have s3 := Same.upd (o := .lst ((mss h l).map vn)) n3
    refine ⟨_, rfl, a, _, dx, _, _, rfl, s3 _ _ (s2 _ _ (s1 _ _ hA)), T.cl_Timetable, T.n_Timetable_kinds, lk_tf6, l4, _, rfl, .inl (SqL.of (s3 _ _ (s2 _ _ (s1 _ _ h4)))), fun m4 n4 => ?_⟩
    have s4 := Same.upd (o := .lst ((kss h l).map vn)) n4
    intro x dy hx hdy hne
    refine ⟨x, dy, [.ref lm, .ref lj, .ref m1, .ref m2, .ref m3, .ref m4], rfl, rfl, upd_same, rfl, ?_⟩
    have s5 := made (C := c.cTimetable) (fs := tf lm lj m1 m2 m3 m4) hx hdy
    have q1 : upd H m1 (.lst ((ups h l).map vn)) m1 = some (.lst ((ups h l).map vn)) := upd_same
    have nM : [m1, m2, m3, m4].Nodup := by
      have a12 := ne_of_none q1 n2
      have a13 := ne_of_none (s2 _ _ q1) n3
      have a14 := ne_of_none (s3 _ _ (s2 _ _ q1)) n4
      have a23 := ne_of_none (upd_same (H := upd H m1 (.lst ((ups h l).map vn))) (a := m2) (o := .lst ((jss h l).map vn))) n3
      have a24 := ne_of_none (s3 _ _ (upd_same (H := upd H m1 (.lst ((ups h l).map vn))) (a := m2) (o := .lst ((jss h l).map vn)))) n4
      have a34 := ne_of_none (upd_same (H := upd (upd H m1 (.lst ((ups h l).map vn))) m2 (.lst ((jss h l).map vn))) (a := m3) (o := .lst ((mss h l).map vn))) n4
      simp [a12, a13, a14, a23, a24, a34]
    have f2 : H m2 = none := s1.free n2
    have f3 : H m3 = none := s1.free (s2.free n3)
    have f4 : H m4 = none := s1.free (s2.free (s3.free n4))
    have fL : ∀ b ∈ [m1, m2, m3, m4], H b = none := fun b hb => by
      rcases List.mem_cons.mp hb with z | z
      · rw [z]; exact n1
      rcases List.mem_cons.mp z with z | z
      · rw [z]; exact f2
      rcases List.mem_cons.mp z with z | z
      · rw [z]; exact f3
      · rw [List.mem_singleton.mp z]; exact f4
    have sA := (((s1.trans s2).trans s3).trans s4).trans s5
    exact k _ x [m1, m2, m3, m4] sA ⟨dy, lm, lj, m1, m2, m3, m4, rfl, nM, upd_same, s5 _ _ (s4 _ _ (s3 _ _ (s2 _ _ q1))), s5 _ _ (s4 _ _ (s3 _ _ upd_same)), s5 _ _ (s4 _ _ upd_same), s5 _ _ upd_same, sG.trans sA, fun b hb => sG.free (fL b hb), hm, hj⟩ fL (s1.free (s2.free (s3.free (s4.free hx))))
def DonesAt (c : Cs) (H : Hp) (h : Si44.House) (l : List Si44.Done) (a : Addr) : Prop := ∃ as, H a = some (.lst (as.map V.ref)) ∧ Rows (PlacedAt c H) (withR h l) as
theorem DonesAt.keep {c : Cs} {H H' : Hp} {h : Si44.House} {l : List Si44.Done} {a : Addr} (s : Same H H') (x : DonesAt c H h l a) : DonesAt c H' h l a := let ⟨as, h1, h2⟩ := x; ⟨as, s _ _ h1, h2.imp fun _ _ => PlacedAt.keep s⟩
def sp_put_in_time (c : Cs) : Sp := fun vs H Q _ => ∃ (lm lj lo : Addr) (h : Si44.House) (o : List Nat) (ds : List Si44.Done), vs = [.ref lm, .ref lj, .ref lo] ∧ MachsAt c H h.machines lm ∧ JobsAt c H h.jobs lj ∧ Sound h ∧ H lo = some (.lst (o.map vn)) ∧ o.length ≤ 1000 ∧ Si44.putAll h [] o = some ds ∧
  ∀ (H' : Hp) (pl : Addr), Same H H' → DonesAt c H' h ds pl → H pl = none → Q (.ref pl) H'
theorem ok_put_in_time {f : Addr} {fd : FuncData} (F : Fun K "put_in_time" "put_in_time" s_put_in_time f fd) (T : Txt K mg c) (c_new_timetable : Callee P w K mg base 3 "new_timetable" ["machines", "jobs"] (sp_new_timetable c))
    (c_Timetable_put : MCallee P w K mg base 3 c.cTimetable "put" ["self", "number"] (sp_put c)) : FnOk P w K mg base CX0 4 f fd ["machines", "jobs", "order"] (sp_put_in_time c) := by
  refine F.ok sc_put_in_time (fun vs H Q E h => ?_) (fun cdv A outer s H vs Q E hr h => ?_)
  · obtain ⟨lm, lj, lo, h, o, ds, rfl, _⟩ := h
    rfl
  · obtain ⟨lm, lj, lo, h, o, ds, rfl, hm, hj, vh, hlo, ho, hds, k⟩ := h
    have nd := sc_put_in_time.nd
    refine ⟨_, (pss_cons (ps_set (i := 3) nd rfl (Or.inl rfl) (pe_fn c_new_timetable (hr.mono (by decide)) (pa_cons (pv 0) (pa_cons (pv 1) pa_nil))))
    (pss_cons (ps_set (i := 4) nd rfl (Or.inl rfl) (pe_lst pa_nil))
    (pss_cons (ps_for PassesOwn.never rfl (pi_list (pv 2)) (pg_name (i := 5) nd rfl (Or.inl rfl)) (pss_one (ps_expr (pe_bm PySem.F.plainAttrs_list PySem.F.slot_list_append PySem.F.type_list_append mt_append (pv 4) (pa_cons (pe_mt T.cl_Timetable c_Timetable_put (hr.mono (by decide)) (pv 3) (pa_cons (pv 5) pa_nil)) pa_nil)))))
    (pss_one (ps_ret (pv 4)))))), ?_⟩
    refine ⟨_, rfl, _, rfl, lm, lj, h, rfl, hm, hj, vh, fun H1 x L tt fl hx => ?_⟩
    refine ⟨Nat.zero_le _, fun pl hpl => ?_⟩
    have sH1 : Same H H1 := tt.choose_spec.choose_spec.choose_spec.choose_spec.choose_spec.choose_spec.choose_spec.2.2.2.2.2.2.2.1
    have hHpl : H pl = none := sH1.free hpl
    have plL : pl ∉ L := fun z => by
      obtain ⟨_, _, _, l1, l2, l3, l4, eL, _, _, h1, h2, h3, h4, _⟩ := tt
      rw [eL] at z
      rcases List.mem_cons.mp z with z | z
      · rw [z, h1] at hpl; cases hpl
      rcases List.mem_cons.mp z with z | z
      · rw [z, h2] at hpl; cases hpl
      rcases List.mem_cons.mp z with z | z
      · rw [z, h3] at hpl; cases hpl
      · rw [List.mem_singleton.mp z, h4] at hpl; cases hpl
    have tt0 : TTAt c H (upd H1 pl (.lst [])) x h [] L := by
      obtain ⟨dx', lm', lj', l1, l2, l3, l4, eL, nL, hA, h1, h2, h3, h4, sG, gL, hm', hj'⟩ := tt
      have su : Same H1 (upd H1 pl (.lst [])) := Same.upd hpl
      exact ⟨dx', lm', lj', l1, l2, l3, l4, eL, nL, su _ _ hA, su _ _ h1, su _ _ h2, su _ _ h3, su _ _ h4, sG.trans su, gL, hm', hj'⟩
    refine ⟨_, rfl, lo, rfl, ⟨_, SqL.of (sH1.upd_r hHpl _ _ hlo)⟩, for_list (K := K) (a := lo) (xs := o.map vn) (fun i σ H' => ∃ (l : List Si44.Done) (as : List Addr) (v5 : Option V), σ = [some (.ref lm), some (.ref lj), some (.ref lo), some (.ref x), some (.ref pl), v5] ∧ Si44.putAll h l (o.drop i) = some ds ∧ TTAt c H H' x h l L ∧
        H' pl = some (.lst (as.map V.ref)) ∧ Rows (PlacedAt c H') (withR h l) as ∧ as.length = i)
      ⟨[], [], none, rfl, hds, tt0, upd_same, Rows.nil, rfl⟩ (fun i σ H' _ ⟨_, _, _, _, _, t, _⟩ => ?_) ?_ ?_⟩
    · obtain ⟨dx', lm', lj', l1, l2, l3, l4, eL, nL, hA, h1, h2, h3, h4, sG, gL, hm', hj'⟩ := t
      exact SqL.of (sG _ _ hlo)
    · rintro i y σ H' hy ⟨l, as, v5, rfl, hput, t, hpl', rows, hlen⟩
      obtain ⟨j, hj', rfl⟩ := map_at hy
      rw [drop_at hj'] at hput
      obtain ⟨b, s', hb, hs', l2, hp2, hput⟩ := putAll_cons hput
      obtain ⟨m, hm'⟩ := at_lt (vh.machine hb hs')
      rw [put_P vh hb hs' hm'] at hp2
      have e2 : l ++ [doneP m l j b s'] = l2 := Option.some.inj hp2
      subst e2
      have t' := t
      obtain ⟨dt, lm', lj', l1, l2, l3, l4, eL, nL, hA, h1, h2, h3, h4, sG, gL, _, _⟩ := t'
      refine ⟨_, rfl, .inl ⟨rfl, _, SqL.of hpl'⟩, _, rfl, x, dt, _, rfl, hA, lk_tf0, _, rfl, x, H, h, l, L, j, b, s', m, rfl, t, hb, hs', hm', fun H2 p tt2 pa fr hp => ?_⟩
      have hpl2 : H2 pl = some (.lst (as.map V.ref)) := fr _ _ hpl' plL
      refine ⟨pl, _, _, rfl, rfl, hpl2, ?_, l ++ [doneP m l j b s'], as ++ [p], _, rfl, hput, tt2.upd hpl2 plL hHpl, ?_, ?_, by simp [hlen]⟩
      · have := lt_of_at hj'
        rw [List.length_map, hlen, sizeLine_eq]
        omega
      · rw [upd_same, List.map_append]
        rfl
      · obtain ⟨dp, pa⟩ := pa
        have keep : ∀ d a, PlacedAt c H2 d a → PlacedAt c (upd H2 pl (.lst (as.map V.ref ++ [V.ref p]))) d a := fun d a ⟨dd, z⟩ => ⟨dd, by rw [upd_ne (ne_of z hpl2 (by intro q; cases q))]; exact z⟩
        rw [withR_snoc, rdy_of (d := doneP m l j b s') hb]
        refine Rows.snoc (rows.imp fun d a ⟨dd, z⟩ => keep d a ⟨dd, fr _ _ z (fun q => ?_)⟩) (keep _ _ ⟨dp, pa⟩)
        rw [eL] at q
        rcases List.mem_cons.mp q with q | q
        · rw [q, h1] at z; cases z
        rcases List.mem_cons.mp q with q | q
        · rw [q, h2] at z; cases z
        rcases List.mem_cons.mp q with q | q
        · rw [q, h3] at z; cases z
        · rw [List.mem_singleton.mp q, h4] at z; cases z
    · rintro σ H' ⟨l, as, v5, rfl, hput, t, hpl', rows, hlen⟩
      rw [List.length_map, List.drop_length] at hput
      have e : l = ds := Option.some.inj hput
      subst e
      obtain ⟨dt, lm', lj', l1, l2, l3, l4, eL, nL, hA, h1, h2, h3, h4, sG, gL, _, _⟩ := t
      exact ⟨_, rfl, k H' pl sG ⟨as, hpl', rows⟩ hHpl⟩
theorem withR_done {h : Si44.House} {ds : List Si44.Done} {i r : Nat} {d : Si44.Done} (hd : (withR h ds)[i]? = some (r, d)) : ds[i]? = some d := by
  rw [withR_get] at hd
  cases q : ds[i]? with
  | none => rw [q] at hd; cases hd
  | some d' =>
    rw [q] at hd
    have hd := Option.some.inj hd
    injection hd with _ hd
    rw [hd]
def sp_job_ends (c : Cs) : Sp := fun vs H Q _ => ∃ (lj pl : Addr) (h : Si44.House) (ds : List Si44.Done), vs = [.ref lj, .ref pl] ∧ JobsAt c H h.jobs lj ∧ h.jobs.length ≤ 1000 ∧ DonesAt c H h ds pl ∧ (∀ d ∈ ds, d.job < h.jobs.length) ∧
  ∀ (H' : Hp) (le : Addr), Same H H' → H' le = some (.lst ((stops h ds).map vn)) → Q (.ref le) H'
theorem ok_job_ends {f : Addr} {fd : FuncData} (F : Fun K "job_ends" "job_ends" s_job_ends f fd) (T : Txt K mg c) : FnOk P w K mg base CX0 1 f fd ["jobs", "placed"] (sp_job_ends c) := by
  refine F.ok sc_job_ends (fun vs H Q E h => ?_) (fun cdv A outer s H vs Q E hr h => ?_)
  · obtain ⟨lj, pl, h, ds, rfl, _⟩ := h
    rfl
  · obtain ⟨lj, pl, h, ds, rfl, ⟨jas, hlj, rj⟩, hj1, ⟨das, hpl, rd⟩, hin, k⟩ := h
    have nd := sc_job_ends.nd
    refine ⟨_, (pss_cons (ps_setLc (i := 2) (g := (gName 4)) (tt := tYes) (te := (tC (.int 0))) rfl nd rfl rfl rfl (pi_list (pv 0)) (own := [("job", 4)]) (blk_of (by kernel_rfl)) (fun _ _ _ _ _ => pg_name (i := 4) nd rfl (Or.inl rfl)) (fun _ _ _ _ _ => pts_nil) (fun _ _ _ _ _ => pe_int))
    (pss_cons (ps_for PassesOwn.never rfl (pi_list (pv 1)) (pg_name (i := 3) nd rfl (Or.inl rfl)) (pss_one (ps_asg (pe_fld (pv 3) rfl) (pg_sub (pv 2) (pe_fld (pv 3) rfl) set_list))))
    (pss_one (ps_ret (pv 2))))), ?_⟩
    refine ⟨_, rfl, lj, rfl, ⟨_, SqL.of hlj⟩, fun le hD => cm_list hD (SqL.of hlj) (by rw [List.length_map, rj.1]; exact le_line hj1) (fun i y _ => ((stops h []).map vn)[i]? = some y) (fun _ _ _ _ _ z => z) ?_ ?_⟩
    · intro i x H' hx hs _ N hN
      obtain ⟨p, hp, rfl⟩ := map_at hx
      obtain ⟨b, hb, _⟩ := rj.at_ hp
      refine ⟨rfl, hN _ _ (Same.refl _) ?_⟩
      rw [stops_nil, List.map_map, List.getElem?_map, hb]
      rfl
    · intro zs H1 hz hlen hs hR
      have e : zs = (stops h []).map vn := by
        apply List.ext_getElem?
        intro i
        cases q : zs[i]? with
        | none =>
          have := List.getElem?_eq_none_iff.mp q
          rw [List.getElem?_eq_none (by simp [stops]; rw [List.length_map, rj.1] at hlen; omega)]
        | some y => exact (hR i y q).symm
      subst e
      refine ⟨_, rfl, pl, rfl, ⟨_, SqL.of (hs _ _ hpl)⟩, for_list (K := K) (a := pl) (xs := das.map V.ref) (fun i σ H' => ∃ v3 v4 : Option V, σ = [some (.ref lj), some (.ref pl), some (.ref le), v3, v4] ∧ Same H H' ∧ H' le = some (.lst ((stops h (ds.take i)).map vn)))
        ⟨_, _, rfl, hs, hz⟩ (fun i σ H' _ ⟨_, _, _, s2, _⟩ => SqL.of (s2 _ _ hpl)) ?_ ?_⟩
      · rintro i y σ H' hy ⟨v3, v4, rfl, s2, hle⟩
        obtain ⟨p, hp, rfl⟩ := map_at hy
        obtain ⟨⟨r, d⟩, hd, dp, hdp⟩ := rd.at_ hp
        have hd := withR_done hd
        refine ⟨_, rfl, p, _, dp, _, _, rfl, s2 _ _ hdp, T.cl_Placed, T.n_Placed_stop, lk_pf5, _, rfl, _, rfl, p, _, dp, _, _, rfl, s2 _ _ hdp, T.cl_Placed, T.n_Placed_job, lk_pf1, le, _, _, d.job, rfl, rfl, hle, ix_nat (by simp [stops]; exact hin d (List.mem_of_getElem? hd)), ?_⟩
        refine ⟨_, _, rfl, s2.upd_r hD, ?_⟩
        rw [upd_same, take_at hd, stops_snoc]
        congr 2
        exact set_vn _ _ _
      · rintro σ H' ⟨v3, v4, rfl, s2, hle⟩
        rw [List.length_map, rd.1, withR_len, List.take_length] at hle
        exact ⟨_, rfl, k H' le s2 hle⟩
def sp_late (c : Cs) : Sp := fun vs H Q _ => ∃ (pj : Addr) (b : Si44.Job) (e : Nat), vs = [.ref pj, vn e] ∧ JobAt c H b pj ∧ Q (vn (e - b.due)) H
theorem ok_late {f : Addr} {fd : FuncData} (F : Fun K "late" "late" s_late f fd) (T : Txt K mg c) : FnOk P w K mg base CX0 1 f fd ["job", "end"] (sp_late c) := by
  refine F.ok sc_late (fun vs H Q E h => ?_) (fun cdv A outer s H vs Q E hr h => ?_)
  · obtain ⟨pj, b, e, rfl, _⟩ := h
    rfl
  · obtain ⟨pj, b, e, rfl, ⟨dx, l, as, h1, h2, h3, h4⟩, k⟩ := h
    refine ⟨_, (pss_one (ps_ret (pe_callB (cr_max2 rfl) (by rfl) T.b_max bt_max (pa_cons pe_int (pa_cons (pe_op o_sub (pv 1) (pe_fld (pv 0) rfl)) pa_nil))))), ?_⟩
    refine ⟨_, rfl, _, rfl, pj, _, dx, _, _, rfl, h1, T.cl_Job, T.n_Job_due, lk_jf2, _, _, rfl, rfl, _, _, rfl, ?_⟩
    dsimp only
    have q : (if ((e : Nat) : Int) - ((b.due : Nat) : Int) > 0 then ((e : Nat) : Int) - ((b.due : Nat) : Int) else 0) = ((e - b.due : Nat) : Int) := by split <;> omega
    rw [q]
    exact k
def sp_job_cost (c : Cs) : Sp := fun vs H Q _ => ∃ (pj : Addr) (b : Si44.Job) (e : Nat), vs = [.ref pj, vn e] ∧ JobAt c H b pj ∧ b.weight ≤ 1000 ∧ Q (vn (b.weight * (e - b.due))) H
theorem ok_job_cost {f : Addr} {fd : FuncData} (F : Fun K "job_cost" "job_cost" s_job_cost f fd) (T : Txt K mg c) (c_late : Callee P w K mg base 1 "late" ["job", "end"] (sp_late c)) : FnOk P w K mg base CX0 2 f fd ["job", "end"] (sp_job_cost c) := by
  refine F.ok sc_job_cost (fun vs H Q E h => ?_) (fun cdv A outer s H vs Q E hr h => ?_)
  · obtain ⟨pj, b, e, rfl, _⟩ := h
    rfl
  · obtain ⟨pj, b, e, rfl, hj, hw, k⟩ := h
    obtain ⟨dx, l, as, h1, h2, h3, h4⟩ := id hj
    refine ⟨_, (pss_one (ps_ret (pe_op o_mul (pe_fld (pv 0) rfl) (pe_fn c_late (hr.mono (by decide)) (pa_cons (pv 0) (pa_cons (pv 1) pa_nil)))))), ?_⟩
    refine ⟨_, rfl, pj, _, dx, _, _, rfl, h1, T.cl_Job, T.n_Job_weight, lk_jf3, _, rfl, _, rfl, pj, b, e, rfl, hj, _, _, rfl, rfl, .inl ⟨by omega, by omega⟩, ?_⟩
    dsimp only
    rw [show ((b.weight : Nat) : Int) * ((e - b.due : Nat) : Int) = ((b.weight * (e - b.due) : Nat) : Int) from (Int.natCast_mul _ _).symm]
    exact k
def sp_cost (c : Cs) : Sp := fun vs H Q _ => ∃ (lj le : Addr) (h : Si44.House) (es : List Nat), vs = [.ref lj, .ref le] ∧ JobsAt c H h.jobs lj ∧ h.jobs.length ≤ 1000 ∧ (∀ b ∈ h.jobs, b.weight ≤ 1000) ∧ H le = some (.lst (es.map vn)) ∧ es.length = h.jobs.length ∧ ∀ H', Same H H' → Q (.int (costP h es)) H'
theorem ok_cost {f : Addr} {fd : FuncData} (F : Fun K "cost" "cost" s_cost f fd) (T : Txt K mg c) (c_job_cost : Callee P w K mg base 2 "job_cost" ["job", "end"] (sp_job_cost c)) : FnOk P w K mg base CX0 3 f fd ["jobs", "ends"] (sp_cost c) := by
  refine F.ok sc_cost (fun vs H Q E h => ?_) (fun cdv A outer s H vs Q E hr h => ?_)
  · obtain ⟨lj, le, h, es, rfl, _⟩ := h
    rfl
  · obtain ⟨lj, le, h, es, rfl, ⟨jas, hlj, rj⟩, hj1, hw, hle, hes, k⟩ := h
    have nd := sc_cost.nd
    refine ⟨_, (pss_one (ps_ret (pe_callB (cr_sum rfl) (by rfl) T.b_sum bt_sum (pa_cons (pe_lc (g := (gTup K 2 (gCons (gName 2) (gCons (gName 3) gNil)))) (tt := tYes) (te := (tCall _ [] E0 (tCons (tVar 2) (tCons (tVar 3) tNil)))) rfl nd (pi_zip (by rfl) T.b_zip (pa_cons (pv 0) (pa_cons (pv 1) pa_nil))) (own := [("job", 2), ("end", 3)]) (blk_of (by kernel_rfl)) (fun _ _ _ _ _ => pg_tup rfl (pgs_cons (pg_name (i := 2) nd rfl (Or.inl rfl)) (pgs_cons (pg_name (i := 3) nd rfl (Or.inl rfl)) pgs_nil))) (fun _ _ _ _ _ => pts_nil) (fun _ _ _ _ _ => (pe_fn c_job_cost (hr.mono (by decide)) (pa_cons (pv 2) (pa_cons (pv 3) pa_nil))))) pa_nil)))), ?_⟩
    refine ⟨_, rfl, _, rfl, lj, le, _, _, rfl, SqL.of hlj, SqL.of hle, fun D hD => cm_zip hD (SqL.of hlj) (SqL.of hle) (by rw [List.length_map, List.length_map, rj.1, hes]) (by rw [List.length_map, rj.1]; exact le_line hj1)
      (fun i y _ => ∃ x, (h.jobs.zip es)[i]? = some x ∧ y = V.int ((x.1.weight : Int) * (if (x.2 : Int) - x.1.due > 0 then (x.2 : Int) - x.1.due else 0))) (fun _ _ _ _ _ z => z) ?_ ?_⟩
    · intro i x z T' H' hx hz hT hs _ N hN
      obtain ⟨p, hp, rfl⟩ := map_at hx
      obtain ⟨e, he, rfl⟩ := map_at hz
      obtain ⟨b, hb, hjb⟩ := rj.at_ hp
      refine ⟨T', _, rfl, SqT.of hT, rfl, _, _, rfl, _, _, rfl, rfl, rfl, ?_⟩
      refine ⟨_, rfl, _, rfl, p, b, e, rfl, hjb.keep hs, hw b (List.mem_of_getElem? hb), ?_⟩
      exact hN _ _ (Same.refl _) ⟨(b, e), by rw [zip2_get, hb, he], by rw [late_int]⟩
    · intro zs H' hz hlen hs hR
      have ez : zs = ((h.jobs.zip es).map fun (x : Si44.Job × Nat) => (x.1.weight : Int) * (if (x.2 : Int) - x.1.due > 0 then (x.2 : Int) - x.1.due else 0)).map V.int := by
        rw [List.map_map]
        exact zs_of (by rw [hlen, List.length_map, rj.1, List.length_zip, hes]; omega) hR
      rw [ez] at hz
      exact ⟨D, _, rfl, SqL.of hz, k H' hs⟩
theorem times_in {h : Si44.House} (v : Sound h) {o : List Nat} {l : List Si44.Done} (e : Si44.times h o = some l) : ∀ d ∈ l, d.job < h.jobs.length := fun d hd => by
  obtain ⟨i, hi⟩ := List.getElem?_of_mem hd
  obtain ⟨b, _, _, hb, _⟩ := times_made v e i d hi
  exact lt_of_at hb
def sp_order_cost (c : Cs) : Sp := fun vs H Q _ => ∃ (lm lj lo : Addr) (h : Si44.House) (o : List Nat) (ds : List Si44.Done), vs = [.ref lm, .ref lj, .ref lo] ∧ MachsAt c H h.machines lm ∧ JobsAt c H h.jobs lj ∧ Sound h ∧ H lo = some (.lst (o.map vn)) ∧ o.length ≤ 1000 ∧ Si44.times h o = some ds ∧
  ∀ (H' : Hp), Same H H' → Q (vn (Si44.cost h ds)) H'
theorem ok_order_cost {f : Addr} {fd : FuncData} (F : Fun K "order_cost" "order_cost" s_order_cost f fd) (T : Txt K mg c) (c_cost : Callee P w K mg base 3 "cost" ["jobs", "ends"] (sp_cost c))
    (c_job_ends : Callee P w K mg base 1 "job_ends" ["jobs", "placed"] (sp_job_ends c)) (c_put_in_time : Callee P w K mg base 4 "put_in_time" ["machines", "jobs", "order"] (sp_put_in_time c)) : FnOk P w K mg base CX0 5 f fd ["machines", "jobs", "order"] (sp_order_cost c) := by
  refine F.ok sc_order_cost (fun vs H Q E h => ?_) (fun cdv A outer s H vs Q E hr h => ?_)
  · obtain ⟨lm, lj, lo, h, o, ds, rfl, _⟩ := h
    rfl
  · obtain ⟨lm, lj, lo, h, o, ds, rfl, hm, hj, v, hlo, ho, hds, k⟩ := h
    have hj1 : h.jobs.length ≤ 1000 := by have := v.jobs_few; omega
    refine ⟨_, (pss_one (ps_ret (pe_fn c_cost (hr.mono (by decide)) (pa_cons (pv 1) (pa_cons (pe_fn c_job_ends (hr.mono (by decide)) (pa_cons (pv 1) (pa_cons (pe_fn c_put_in_time (hr.mono (by decide)) (pa_cons (pv 0) (pa_cons (pv 1) (pa_cons (pv 2) pa_nil)))) pa_nil))) pa_nil))))), ?_⟩
    refine ⟨_, rfl, _, rfl, _, rfl, _, rfl, _, rfl, lm, lj, lo, h, o, ds, rfl, hm, hj, v, hlo, ho, times_put hds, fun H1 pl s1 dl _ => ?_⟩
    refine ⟨lj, pl, h, ds, rfl, hj.keep s1, hj1, dl, times_in v hds, fun H2 le s2 hle => ?_⟩
    refine ⟨lj, le, h, stops h ds, rfl, hj.keep (s1.trans s2), hj1, v.wt, hle, by simp [stops], fun H3 s3 => ?_⟩
    rw [cost_P v hds]
    exact k H3 ((s1.trans s2).trans s3)
end
end Sj
end
section
set_option Elab.async false
set_option linter.all false
set_option maxRecDepth 100000
set_option maxHeartbeats 2000000
namespace Sj
open PySem PySem.Spec PyProof.Rows L2
theorem rg2 {b : Int} {n : Nat} (h : b = 1 + 2 * (n : Int)) (hn : n ≤ 1000) : RgC 1 b 2 n := by
  subst h
  have e : Builtin.Range.rangeSize 1 (1 + 2 * (n : Int)) 2 = (n : Int) := by
    unfold Builtin.Range.rangeSize
    rw [if_pos (show (2 : Int) > 0 by decide)]
    split <;> omega
  refine ⟨by decide, by decide, ?_, e⟩
  unfold Builtin.Range.small
  rw [e]
  rw [if_pos (show (2 : Int) > 0 by decide)]
  simp only [Builtin.Range.rangeFitsLong, Bool.and_eq_true, Bool.or_eq_true, decide_eq_true_eq, beq_iff_eq]
  omega
theorem rg3 {b : Int} {n : Nat} (h : b = 3 + 3 * (n : Int)) (hn : n ≤ 1000) : RgC 3 b 3 n := by
  subst h
  have e : Builtin.Range.rangeSize 3 (3 + 3 * (n : Int)) 3 = (n : Int) := by
    unfold Builtin.Range.rangeSize
    rw [if_pos (show (3 : Int) > 0 by decide)]
    split <;> omega
  refine ⟨by decide, by decide, ?_, e⟩
  unfold Builtin.Range.small
  rw [e]
  rw [if_pos (show (3 : Int) > 0 by decide)]
  simp only [Builtin.Range.rangeFitsLong, Bool.and_eq_true, Bool.or_eq_true, decide_eq_true_eq, beq_iff_eq]
  omega
section
variable {P : Program} {w : World} {K : PySem.W.Frag} {mg : Str → Option Value} {base : Heap} {c : Cs}
def sp_told_machine (c : Cs) : Sp := fun vs H Q _ => ∃ (l : Addr) (m : Si44.Machine), vs = [.ref l] ∧ H l = some (.lst ((m.change :: flat2 m.rests).map vn)) ∧ m.rests.length ≤ 10 ∧ ∀ H' a, Same H H' → MachAt c (newOf H H') m a → Q (.ref a) H'
theorem ok_told_machine {f : Addr} {fd : FuncData} (F : Fun K "told_machine" "told_machine" s_told_machine f fd) (T : Txt K mg c) (c_Machine : KCallee P w K mg base 1 "Machine" c.cMachine ["self", "change", "rests"] (spRec c.cMachine ["change", "rests"])) :
    FnOk P w K mg base CX0 3 f fd ["numbers"] (sp_told_machine c) := by
  refine F.ok sc_told_machine (fun vs H Q E h => ?_) (fun cdv A outer s H vs Q E hr h => ?_)
  · obtain ⟨l, m, rfl, _⟩ := h
    rfl
  · obtain ⟨l, m, rfl, hl, hm, k⟩ := h
    have nd := sc_told_machine.nd
    refine ⟨_, (pss_cons (ps_setLc (i := 1) (g := (gName 2)) (tt := tYes) (te := (tTup (tCons (tOp (rIxL K) (tVar 0) (tVar 2)) (tCons (tOp (rIxL K) (tVar 0) (tOp rAddI (tVar 2) (tC (.int 1)))) tNil)))) rfl nd rfl rfl rfl (pi_range3 (by rfl) T.b_range (pa_cons pe_int (pa_cons (pe_callB cr_len (by rfl) T.b_len bt_len (pa_cons (pv 0) pa_nil)) (pa_cons pe_int pa_nil)))) (own := [("k", 2)]) (blk_of (by kernel_rfl)) (fun _ _ _ _ _ => pg_name (i := 2) nd rfl (Or.inl rfl)) (fun _ _ _ _ _ => pts_nil) (fun _ _ _ _ _ => (pe_tup (pa_cons (pe_ix ix_list (pv 0) (pv 2) (fun _ _ => rfl)) (pa_cons (pe_ix ix_list (pv 0) (pe_op o_add (pv 2) pe_int) (fun _ _ => rfl)) pa_nil)))))
    (pss_one (ps_ret (pe_mk c_Machine (hr.mono (by decide)) (pa_cons (pe_ix ix_list (pv 0) pe_int (fun _ _ => rfl)) (pa_cons (pv 1) pa_nil)))))), ?_⟩
    refine ⟨_, rfl, l, _, rfl, .inl (SqL.of hl), 1, _, 2, m.rests.length, rfl, rg2 (by rw [List.length_map, List.length_cons, flat2_len]; omega) (by omega), fun D hD => cm_rng hD (le_line hm) (fun i y G => ∃ r p, m.rests[i]? = some r ∧ y = .ref p ∧ RestAt (newOf H G) r p) (fun i y G G' sG ⟨r, p, h1, h2, h3⟩ => ⟨r, p, h1, h2, newOf_mono sG _ _ h3⟩) ?_ ?_⟩
    · intro i H' hi hs ⟨oD, hoD⟩ N hN
      obtain ⟨r, hr'⟩ := at_lt hi
      obtain ⟨f1, f2⟩ := flat2_at hr'
      refine ⟨rfl, _, rfl, _, rfl, l, _, _, _, rfl, rfl, SqL.of (hs _ _ hl), at_of (j := 2 * i + 1) (v := vn r.1) (by push_cast; omega) (vn_at (by rw [List.getElem?_cons_succ]; exact f1)), ?_⟩
      refine ⟨_, rfl, _, rfl, _, _, rfl, rfl, l, _, _, _, rfl, rfl, SqL.of (hs _ _ hl), at_of (j := 2 * i + 1 + 1) (v := vn r.2) (by push_cast; omega) (vn_at (by rw [List.getElem?_cons_succ]; exact f2)), ?_⟩
      refine ⟨(by show 2 ≤ sizeLine; decide), fun p hp => ?_⟩
      refine hN _ _ (Same.upd hp) ⟨r, p, hr', rfl, newOf_at (hs.free hp) ?_⟩
      rw [del_ne (fun z => by rw [z, hoD] at hp; cases hp), upd_same]
    · intro ys H' hz hlen hs hR
      refine ⟨_, rfl, l, _, _, _, rfl, rfl, SqL.of (hs _ _ hl), at_of (j := 0) (v := vn m.change) rfl rfl, _, rfl, fun x dx hx hdx hne => ⟨x, dx, [vn m.change, .ref D], rfl, rfl, upd_same, rfl, ?_⟩⟩
      have s2 := made (C := c.cMachine) (fs := [("change", vn m.change), ("rests", V.ref D)]) hx hdx
      refine k _ x (hs.trans s2) ?_
      obtain ⟨as, rfl, hrow⟩ := rows_of (R := RestAt (newOf H (del H' D))) hlen hR
      refine ⟨dx, D, as, newOf_at (hs.free hx) upd_same, newOf_at hD (s2 _ _ hz), hrow.imp fun r p z => newOf_mono (Same.of_del.trans s2) _ _ z, hm⟩
def sp_told_job (c : Cs) : Sp := fun vs H Q _ => ∃ (l : Addr) (b : Si44.Job), vs = [.ref l] ∧ H l = some (.lst ((b.from_ :: b.due :: b.weight :: flat3 b.steps).map vn)) ∧ b.steps.length ≤ 12 ∧ ∀ H' a, Same H H' → JobAt c (newOf H H') b a → Q (.ref a) H'
theorem ok_told_job {f : Addr} {fd : FuncData} (F : Fun K "told_job" "told_job" s_told_job f fd) (T : Txt K mg c) (c_Step : KCallee P w K mg base 1 "Step" c.cStep ["self", "machine", "kind", "length"] (spRec c.cStep ["machine", "kind", "length"]))
    (c_Job : KCallee P w K mg base 1 "Job" c.cJob ["self", "start", "due", "weight", "steps"] (spRec c.cJob ["start", "due", "weight", "steps"])) : FnOk P w K mg base CX0 3 f fd ["numbers"] (sp_told_job c) := by
  refine F.ok sc_told_job (fun vs H Q E h => ?_) (fun cdv A outer s H vs Q E hr h => ?_)
  · obtain ⟨l, b, rfl, _⟩ := h
    rfl
  · obtain ⟨l, b, rfl, hl, hm, k⟩ := h
    have nd := sc_told_job.nd
    refine ⟨_, (pss_cons (ps_setLc (i := 1) (g := (gName 2)) (tt := tYes) (te := (tMake _ _ [] E0 (tCons (tOp (rIxL K) (tVar 0) (tVar 2)) (tCons (tOp (rIxL K) (tVar 0) (tOp rAddI (tVar 2) (tC (.int 1)))) (tCons (tOp (rIxL K) (tVar 0) (tOp rAddI (tVar 2) (tC (.int 2)))) tNil))))) rfl nd rfl rfl rfl (pi_range3 (by rfl) T.b_range (pa_cons pe_int (pa_cons (pe_callB cr_len (by rfl) T.b_len bt_len (pa_cons (pv 0) pa_nil)) (pa_cons pe_int pa_nil)))) (own := [("k", 2)]) (blk_of (by kernel_rfl)) (fun _ _ _ _ _ => pg_name (i := 2) nd rfl (Or.inl rfl)) (fun _ _ _ _ _ => pts_nil) (fun _ _ _ _ _ => (pe_mk c_Step (hr.mono (by decide)) (pa_cons (pe_ix ix_list (pv 0) (pv 2) (fun _ _ => rfl)) (pa_cons (pe_ix ix_list (pv 0) (pe_op o_add (pv 2) pe_int) (fun _ _ => rfl)) (pa_cons (pe_ix ix_list (pv 0) (pe_op o_add (pv 2) pe_int) (fun _ _ => rfl)) pa_nil))))))
    (pss_one (ps_ret (pe_mk c_Job (hr.mono (by decide)) (pa_cons (pe_ix ix_list (pv 0) pe_int (fun _ _ => rfl)) (pa_cons (pe_ix ix_list (pv 0) pe_int (fun _ _ => rfl)) (pa_cons (pe_ix ix_list (pv 0) pe_int (fun _ _ => rfl)) (pa_cons (pv 1) pa_nil)))))))), ?_⟩
    refine ⟨_, rfl, l, _, rfl, .inl (SqL.of hl), 3, _, 3, b.steps.length, rfl, rg3 (by rw [List.length_map, List.length_cons, List.length_cons, List.length_cons, flat3_len]; omega) (by omega), fun D hD => cm_rng hD (le_line hm) (fun i y G => ∃ r p, b.steps[i]? = some r ∧ y = .ref p ∧ StepAt c (newOf H G) r p) (fun i y G G' sG ⟨r, p, h1, h2, h3⟩ => ⟨r, p, h1, h2, StepAt.keep (newOf_mono sG) h3⟩) ?_ ?_⟩
    · intro i H' hi hs ⟨oD, hoD⟩ N hN
      obtain ⟨r, hr'⟩ := at_lt hi
      obtain ⟨f1, f2, f3⟩ := flat3_at hr'
      refine ⟨rfl, _, rfl, _, rfl, l, _, _, _, rfl, rfl, SqL.of (hs _ _ hl), at_of (j := 3 * i + 3) (v := vn r.machine) (by push_cast; omega) (vn_at (by exact f1)), ?_⟩
      refine ⟨_, rfl, _, rfl, _, _, rfl, rfl, l, _, _, _, rfl, rfl, SqL.of (hs _ _ hl), at_of (j := 3 * i + 1 + 3) (v := vn r.kind) (by push_cast; omega) (vn_at (by exact f2)), ?_⟩
      refine ⟨_, rfl, _, rfl, _, _, rfl, rfl, l, _, _, _, rfl, rfl, SqL.of (hs _ _ hl), at_of (j := 3 * i + 2 + 3) (v := vn r.long) (by push_cast; omega) (vn_at (by exact f3)), ?_⟩
      intro x dx hx hdx hne
      refine ⟨x, dx, [vn r.machine, vn r.kind, vn r.long], rfl, rfl, upd_same, rfl, ?_⟩
      refine hN _ _ (made hx hdx) ⟨r, x, hr', rfl, dx, newOf_at (hs.free hx) ?_⟩
      rw [del_ne (fun z => by rw [z, hoD] at hx; cases hx), upd_same]
      rfl
    · intro ys H' hz hlen hs hR
      refine ⟨_, rfl, l, _, _, _, rfl, rfl, SqL.of (hs _ _ hl), at_of (j := 0) (v := vn b.from_) rfl rfl, _, rfl, l, _, _, _, rfl, rfl, SqL.of (hs _ _ hl), at_of (j := 1) (v := vn b.due) rfl rfl, _, rfl, l, _, _, _, rfl, rfl, SqL.of (hs _ _ hl), at_of (j := 2) (v := vn b.weight) rfl rfl, _, rfl,
        fun x dx hx hdx hne => ⟨x, dx, [vn b.from_, vn b.due, vn b.weight, .ref D], rfl, rfl, upd_same, rfl, ?_⟩⟩
      have s2 := made (C := c.cJob) (fs := jf b D) hx hdx
      refine k _ x (hs.trans s2) ?_
      obtain ⟨as, rfl, hrow⟩ := rows_of (R := StepAt c (newOf H (del H' D))) hlen hR
      exact ⟨dx, D, as, newOf_at (hs.free hx) upd_same, newOf_at hD (s2 _ _ hz), hrow.imp fun r p z => StepAt.keep (newOf_mono (Same.of_del.trans s2)) z, hm⟩
def hf (lm lj : Addr) : List (Str × V) := [("machines", .ref lm), ("jobs", .ref lj)]
theorem lk_hf1 {lm lj : Addr} : (hf lm lj).lookup ("machines" : Str) = some (.ref lm) := by rfl
theorem lk_hf2 {lm lj : Addr} : (hf lm lj).lookup ("jobs" : Str) = some (.ref lj) := by rfl
def HouseAt (c : Cs) (G H : Hp) (p : Addr) (h : Si44.House) (W : List Addr) : Prop :=
  ∃ dx lm lj, W = [p, lm, lj] ∧ lm ≠ lj ∧ H p = some (.ins c.cHouse dx (hf lm lj)) ∧ Same G H ∧ (∀ b ∈ W, G b = none) ∧ (∃ as, H lm = some (.lst (as.map V.ref)) ∧ Rows (MachAt c G) h.machines as) ∧ (∃ as, H lj = some (.lst (as.map V.ref)) ∧ Rows (JobAt c G) h.jobs as) ∧ Valid h
theorem HouseAt.keep {c : Cs} {G H H' : Hp} {p : Addr} {h : Si44.House} {W : List Addr} (x : HouseAt c G H p h W) (s : Same H H') : HouseAt c G H' p h W := by
  obtain ⟨dx, lm, lj, eW, ne, hp, sG, gW, ⟨mas, hm, rm⟩, ⟨jas, hj, rj⟩, v⟩ := x
  exact ⟨dx, lm, lj, eW, ne, s _ _ hp, sG.trans s, gW, ⟨mas, s _ _ hm, rm⟩, ⟨jas, s _ _ hj, rj⟩, v⟩
structure Fram (N G H : Hp) (W : List Addr) (G' H' : Hp) (W' : List Addr) : Prop where
  keep : ∀ b o, H b = some o → b ∉ W → H' b = some o
  own : ∀ b ∈ W', b ∈ W ∨ H b = none
  part : ∀ b o, H b = some o → G b = none → N b = none → G' b = none
theorem Fram.same {N G H H' : Hp} {W : List Addr} (s : Same H H') : Fram N G H W G H' W := ⟨fun b o e _ => s b o e, fun b hb => .inl hb, fun _ _ _ g _ => g⟩
abbrev emp : Hp := fun _ => none
theorem upd_none {H : Hp} {p b : Addr} {o : HO} (h : L2.upd H p o b = none) : b ≠ p ∧ H b = none := by
  unfold L2.upd at h
  split at h
  · cases h
  · rename_i n
    exact ⟨n, h⟩
theorem Valid.jobs_few {h : Si44.House} (v : Valid h) : h.jobs.length ≤ 8 := v.sound.jobs_few
def ansL (a : Si44.Ans) : List Int := a.v :: a.l
def AfterCall (c : Cs) (p : Addr) (h : Si44.House) (q : Si44.Call) (N G H : Hp) (W : List Addr) (Q : VK) : Prop :=
  ∀ (G' H' : Hp) (W' : List Addr) (la : Addr), HouseAt c G' H' p (Si44.step h q).1 W' → Fram N G H W G' H' W' → H' la = some (.lst ((ansL (Si44.step h q).2).map V.int)) → H la = none → Q (.ref la) H'
def sp_house_init (c : Cs) : Sp := fun vs H Q _ => ∃ (p dx : Addr), vs = [.ref p] ∧ H p = some (.ins c.cHouse dx []) ∧ ∀ H' W, HouseAt c emp H' p Si44.init W → (∀ b o, H b = some o → b ≠ p → H' b = some o) → (∀ b ∈ W, b = p ∨ H b = none) → Q .non H'
theorem ok_house_init {f : Addr} {fd : FuncData} (F : Fun K "__init__" "House.__init__" s_House_init f fd) (T : Txt K mg c) : FnOk P w K mg base CX0 1 f fd ["self"] (sp_house_init c) := by
  refine F.ok sc_House_init (fun vs H Q E h => ?_) (fun cdv A outer s H vs Q E hr h => ?_)
  · obtain ⟨p, dx, rfl, _⟩ := h
    rfl
  · obtain ⟨p, dx, rfl, hp, k⟩ := h
    refine ⟨_, (pss_cons (ps_fld (pv 0) (pe_lst pa_nil) rfl)
    (pss_one (ps_fld (pv 0) (pe_lst pa_nil) rfl))), ?_⟩
    refine ⟨Nat.zero_le _, fun lm hlm => ?_⟩
    have nlm : p ≠ lm := ne_of_none hp hlm
    refine ⟨_, rfl, p, _, dx, _, rfl, (by rw [upd_ne nlm]; exact hp), T.cl_House, T.n_House_machines, (by decide), ?_⟩
    refine ⟨Nat.zero_le _, fun lj hlj => ?_⟩
    have nlj : p ≠ lj := ne_of_none upd_same hlj
    refine ⟨_, rfl, p, _, dx, _, rfl, (by rw [upd_ne nlj]; exact upd_same), T.cl_House, T.n_House_jobs, (by show 1 < 1000; decide), ?_⟩
    have n12 : lm ≠ lj := fun z => by rw [← z, upd_ne (Ne.symm nlm), upd_same] at hlj; cases hlj
    have hlj0 : H lj = none := by rw [upd_ne (Ne.symm nlj), upd_ne (Ne.symm n12)] at hlj; exact hlj
    refine k _ [p, lm, lj] ⟨dx, lm, lj, rfl, n12, upd_same, (fun b o e => by cases e), (fun b hb => rfl), ⟨[], ?_, Rows.nil⟩, ⟨[], ?_, Rows.nil⟩, Valid.init⟩ (fun b o e n => ?_) (fun b hb => ?_)
    · rw [upd_ne (Ne.symm nlm), upd_ne n12, upd_ne (Ne.symm nlm), upd_same]
      rfl
    · rw [upd_ne (Ne.symm nlj), upd_same]
      rfl
    · rw [upd_ne n, upd_ne (ne_of_none e hlj0), upd_ne n, upd_ne (ne_of_none e hlm)]
      exact e
    · rcases List.mem_cons.mp hb with z | z
      · exact .inl z
      rcases List.mem_cons.mp z with z | z
      · exact .inr (by rw [z]; exact hlm)
      · exact .inr (by rw [List.mem_singleton.mp z]; exact hlj0)
def sp_begin_anew (c : Cs) : Sp := fun vs H Q _ => ∃ (p : Addr) (h : Si44.House) (G : Hp) (W : List Addr), vs = [.ref p] ∧ HouseAt c G H p h W ∧ AfterCall c p h .begins emp G H W Q
theorem ok_begin_anew {f : Addr} {fd : FuncData} (F : Fun K "begin_anew" "House.begin_anew" s_House_begin_anew f fd) (T : Txt K mg c) : FnOk P w K mg base CX0 1 f fd ["self"] (sp_begin_anew c) := by
  refine F.ok sc_House_begin_anew (fun vs H Q E h => ?_) (fun cdv A outer s H vs Q E hr h => ?_)
  · obtain ⟨p, h, G, W, rfl, _⟩ := h
    rfl
  · obtain ⟨p, h, G, W, rfl, ⟨dx, lm0, lj0, eW, ne, hp, sG, gW, _, _, vh⟩, k⟩ := h
    refine ⟨_, (pss_cons (ps_fld (pv 0) (pe_lst pa_nil) rfl)
    (pss_cons (ps_fld (pv 0) (pe_lst pa_nil) rfl)
    (pss_one (ps_ret (pe_lst (pa_cons pe_int pa_nil)))))), ?_⟩
    refine ⟨Nat.zero_le _, fun lm hlm => ?_⟩
    have nlm : p ≠ lm := ne_of_none hp hlm
    refine ⟨_, rfl, p, _, dx, _, rfl, (by rw [upd_ne nlm]; exact hp), T.cl_House, T.n_House_machines, (by show 2 < 1000; decide), ?_⟩
    refine ⟨Nat.zero_le _, fun lj hlj => ?_⟩
    have nlj : p ≠ lj := ne_of_none upd_same hlj
    refine ⟨_, rfl, p, _, dx, _, rfl, (by rw [upd_ne nlj]; exact upd_same), T.cl_House, T.n_House_jobs, (by show 2 < 1000; decide), ?_⟩
    have n12 : lm ≠ lj := fun z => by rw [← z, upd_ne (Ne.symm nlm), upd_same] at hlj; cases hlj
    have hlj0 : H lj = none := by rw [upd_ne (Ne.symm nlj), upd_ne (Ne.symm n12)] at hlj; exact hlj
    refine ⟨(by show 1 ≤ sizeLine; decide), fun la hla => ?_⟩
    refine k emp _ [p, lm, lj] la (HouseAt.keep (H := upd (upd (upd (upd H lm (.lst [])) p (.ins c.cHouse dx (hf lm lj0))) lj (.lst [])) p (.ins c.cHouse dx (hf lm lj))) ⟨dx, lm, lj, rfl, n12, upd_same, (fun b o e => by cases e), (fun b hb => rfl), ⟨[], ?_, Rows.nil⟩, ⟨[], ?_, Rows.nil⟩, Valid.init⟩ (Same.upd hla)) ⟨fun b o e n => ?_, fun b hb => ?_, fun _ _ _ _ _ => rfl⟩ upd_same (upd_none (upd_none (upd_none (upd_none hla).2).2).2).2
    · rw [upd_ne (Ne.symm nlm), upd_ne n12, upd_ne (Ne.symm nlm), upd_same]
      rfl
    · rw [upd_ne (Ne.symm nlj), upd_same]
      rfl
    · have np : b ≠ p := fun z => n (by rw [z, eW]; simp)
      have e2 : (upd (upd (upd (upd H lm (.lst [])) p (.ins c.cHouse dx (hf lm lj0))) lj (.lst [])) p (.ins c.cHouse dx (hf lm lj))) b = some o := by
        rw [upd_ne np, upd_ne (ne_of_none e hlj0), upd_ne np, upd_ne (ne_of_none e hlm)]
        exact e
      exact Same.upd hla b o e2
    · rcases List.mem_cons.mp hb with z | z
      · exact .inl (by rw [z, eW]; simp)
      rcases List.mem_cons.mp z with z | z
      · exact .inr (by rw [z]; exact hlm)
      · exact .inr (by rw [List.mem_singleton.mp z]; exact hlj0)
theorem refuse {c : Cs} {N G H H1 : Hp} {p : Addr} {h : Si44.House} {W : List Addr} {q : Si44.Call} {Q : VK} {z : Int} (x : HouseAt c G H p h W) (s : Same H H1) (k : AfterCall c p h q N G H W Q) (e : Si44.step h q = (h, Si44.ok z)) :
    ([V.int z] : List V).length ≤ sizeLine ∧ ∀ la, H1 la = none → Q (.ref la) (upd H1 la (.lst [V.int z])) := by
  refine ⟨by show 1 ≤ sizeLine; decide, fun la hla => k G _ W la ?_ (Fram.same (s.trans (Same.upd hla))) ?_ (s.free hla)⟩
  · rw [e]
    exact x.keep (s.trans (Same.upd hla))
  · rw [e]
    exact upd_same
def sp_add_machine (c : Cs) : Sp := fun vs H Q _ => ∃ (p a : Addr) (h : Si44.House) (G : Hp) (W : List Addr) (m : Si44.Machine) (N : Hp), vs = [.ref p, .ref a] ∧ HouseAt c G H p h W ∧ Same N H ∧ (∀ b ∈ W, N b = none) ∧ MachAt c N m a ∧ AfterCall c p h (.machine m.change m.rests) N G H W Q
theorem ok_add_machine {f : Addr} {fd : FuncData} (F : Fun K "add_machine" "House.add_machine" s_House_add_machine f fd) (T : Txt K mg c) (c_machine_fits : Callee P w K mg base 2 "machine_fits" ["machine"] (sp_machine_fits c)) :
    FnOk P w K mg base CX0 3 f fd ["self", "machine"] (sp_add_machine c) := by
  refine F.ok sc_House_add_machine (fun vs H Q E h => ?_) (fun cdv A outer s H vs Q E hr h => ?_)
  · obtain ⟨p, a, h, G, W, m, N, rfl, _⟩ := h
    rfl
  · obtain ⟨p, a, h, G, W, m, N, rfl, hH, sN, nW, hm, k⟩ := h
    have hH' := hH
    obtain ⟨dx, lm, lj, eW, ne, hp, sG, gW, ⟨mas, hlm, rm⟩, ⟨jas, hlj, rj⟩, vh⟩ := hH'
    subst eW
    have es : Si44.step h (.machine m.change m.rests) = if machB m = true then (if 4 ≤ h.machines.length then (h, Si44.ok (-5)) else ({ h with machines := h.machines ++ [⟨m.change, m.rests⟩] }, Si44.ok (h.machines.length : Int))) else (h, Si44.ok (-1)) := by
      show (if 1000 < m.change ∨ 4 < m.rests.length ∨ Si44.restsOk 0 m.rests = false then (h, Si44.ok (-1)) else if 4 ≤ h.machines.length then (h, Si44.ok (-5)) else ({ h with machines := h.machines ++ [⟨m.change, m.rests⟩] }, Si44.ok (h.machines.length : Int))) = _
      by_cases z : machB m = true
      · rw [if_pos z, if_neg]
        unfold machB at z
        simp only [Bool.and_eq_true, decide_eq_true_eq] at z
        intro y
        rcases y with y | y | y
        · omega
        · omega
        · rw [z.2.2] at y; cases y
      · rw [if_neg z, if_pos]
        by_cases y1 : 1000 < m.change
        · exact .inl y1
        · by_cases y2 : 4 < m.rests.length
          · exact .inr (.inl y2)
          · refine .inr (.inr ?_)
            cases y3 : Si44.restsOk 0 m.rests with
            | false => rfl
            | true =>
              refine absurd ?_ z
              unfold machB
              rw [y3, decide_eq_true (show m.change ≤ 1000 by omega), decide_eq_true (show m.rests.length ≤ 4 by omega)]
              rfl
    refine ⟨_, (pss_cons (ps_if (pt_not (pt_val (pe_fn c_machine_fits (hr.mono (by decide)) (pa_cons (pv 1) pa_nil)))) (pss_one (ps_ret (pe_lst (pa_cons (pe_const T.c_OUT_OF_BOUNDS) pa_nil)))) pss_nil)
    (pss_cons (ps_if (pt_cmpR op_eq (pe_callB cr_len (by rfl) T.b_len bt_len (pa_cons (pe_fld (pv 0) rfl) pa_nil)) (pe_const T.c_MOST_MACHINES) (nomark _)) (pss_one (ps_ret (pe_lst (pa_cons (pe_const T.c_NO_ROOM) pa_nil)))) pss_nil)
    (pss_cons (ps_expr (pe_bm PySem.F.plainAttrs_list PySem.F.slot_list_append PySem.F.type_list_append mt_append (pe_fld (pv 0) rfl) (pa_cons (pv 1) pa_nil)))
    (pss_one (ps_ret (pe_lst (pa_cons (pe_op o_sub (pe_callB cr_len (by rfl) T.b_len bt_len (pa_cons (pe_fld (pv 0) rfl) pa_nil)) pe_int) pa_nil))))))), ?_⟩
    refine ⟨_, rfl, a, m, rfl, hm.keep sN, _, rfl, ite2 (fun q => ?_) (fun q => ?_)⟩
    · have q : ¬ machB m = true := fun z => by rw [z] at q; cases q
      rw [if_neg q] at es
      exact refuse hH (Same.refl _) k es
    have q : machB m = true := by
      cases z : machB m with
      | true => rfl
      | false => rw [z] at q; exact absurd rfl q
    rw [if_pos q] at es
    refine ⟨_, rfl, p, _, dx, _, _, rfl, hp, T.cl_House, T.n_House_machines, lk_hf1, lm, _, rfl, .inl (SqL.of hlm), rfl, _, rfl, ite2 (fun q2 => ?_) (fun q2 => ?_)⟩
    · have q2 := of_decide_eq_true q2
      rw [List.length_map, rm.1] at q2
      have q2 : ((h.machines.length : Nat) : Int) = 4 := by injection q2
      rw [if_pos (by omega)] at es
      exact refuse hH (Same.refl _) k es
    have q2 : ¬ h.machines.length = 4 := fun z => q2 (decide_eq_true (by rw [List.length_map, rm.1, z]; rfl))
    have hfew := vh.few
    rw [if_neg (by omega)] at es
    refine ⟨_, rfl, p, _, dx, _, _, rfl, hp, T.cl_House, T.n_House_machines, lk_hf1, .inl ⟨rfl, _, SqL.of hlm⟩, _, rfl, lm, _, _, rfl, rfl, hlm, ?_, ?_⟩
    · rw [List.length_map, rm.1, sizeLine_eq]
      omega
    have npm : p ≠ lm := ne_of hp hlm (by intro z; cases z)
    obtain ⟨H1, e1⟩ : ∃ H1, H1 = upd H lm (.lst ((mas ++ [a]).map V.ref)) := ⟨_, rfl⟩
    have e1' : upd H lm (.lst (mas.map V.ref ++ [V.ref a])) = H1 := by rw [e1, List.map_append]; rfl
    rw [e1']
    have p1 : H1 p = some (.ins c.cHouse dx (hf lm lj)) := by rw [e1, upd_ne npm]; exact hp
    have m1 : H1 lm = some (.lst ((mas ++ [a]).map V.ref)) := by rw [e1]; exact upd_same
    have j1 : H1 lj = some (.lst (jas.map V.ref)) := by rw [e1, upd_ne (Ne.symm ne)]; exact hlj
    have g1 : G lm = none := gW lm (by simp)
    have n1 : N lm = none := nW lm (by simp)
    have hH1 : HouseAt c (uni G N) H1 p { h with machines := h.machines ++ [⟨m.change, m.rests⟩] } [p, lm, lj] := by
      refine ⟨dx, lm, lj, rfl, ne, p1, ?_, fun b hb => uni_none (gW b hb) (nW b hb), ⟨mas ++ [a], m1, Rows.snoc (rm.imp fun _ _ => MachAt.keep uni_l) (hm.keep (uni_r sG sN))⟩, ⟨jas, j1, rj.imp fun _ _ => JobAt.keep uni_l⟩, ?_⟩
      · rw [e1]
        exact (uni_sub sG sN).upd_r (uni_none g1 n1)
      · have := vh.step (.machine m.change m.rests)
        rw [es] at this
        exact this
    refine ⟨_, rfl, p, _, dx, _, _, rfl, p1, T.cl_House, T.n_House_machines, lk_hf1, lm, _, rfl, .inl (SqL.of m1), _, _, rfl, rfl, (by show 1 ≤ sizeLine; decide), fun la hla => ?_⟩
    refine k _ _ [p, lm, lj] la (by rw [es]; exact hH1.keep (Same.upd hla)) ⟨fun b o e n => ?_, fun b hb => .inl hb, fun b o _ g n => uni_none g n⟩ ?_ (by rw [e1] at hla; exact (upd_none hla).2)
    · refine Same.upd hla b o ?_
      rw [e1, upd_ne (fun z => n (by rw [z]; simp))]
      exact e
    · rw [es, upd_same]
      have e5 : (((((mas ++ [a]).map V.ref).length : Nat)) : Int) - 1 = (h.machines.length : Int) := by rw [List.length_map, List.length_append, rm.1, List.length_singleton]; omega
      show some (HO.lst [V.int ((((((mas ++ [a]).map V.ref).length : Nat)) : Int) - 1)]) = some (HO.lst [V.int (h.machines.length : Int)])
      rw [e5]
def sp_add_job (c : Cs) : Sp := fun vs H Q _ => ∃ (p a : Addr) (h : Si44.House) (G : Hp) (W : List Addr) (b : Si44.Job) (N : Hp), vs = [.ref p, .ref a] ∧ HouseAt c G H p h W ∧ Same N H ∧ (∀ b ∈ W, N b = none) ∧ JobAt c N b a ∧ AfterCall c p h (.job b) N G H W Q
theorem ok_add_job {f : Addr} {fd : FuncData} (F : Fun K "add_job" "House.add_job" s_House_add_job f fd) (T : Txt K mg c) (c_job_fits : Callee P w K mg base 2 "job_fits" ["job", "machines"] (sp_job_fits c))
    (c_steps_together : Callee P w K mg base 1 "steps_together" ["jobs"] (sp_steps_together c)) : FnOk P w K mg base CX0 3 f fd ["self", "job"] (sp_add_job c) := by
  refine F.ok sc_House_add_job (fun vs H Q E h => ?_) (fun cdv A outer s H vs Q E hr h => ?_)
  · obtain ⟨p, a, h, G, W, b, N, rfl, _⟩ := h
    rfl
  · obtain ⟨p, a, h, G, W, b, N, rfl, hH, sN, nW, hb, k⟩ := h
    have hH' := hH
    obtain ⟨dx, lm, lj, eW, ne, hp, sG, gW, ⟨mas, hlm, rm⟩, ⟨jas, hlj, rj⟩, vh⟩ := hH'
    subst eW
    have es : Si44.step h (.job b) = if Si44.jobOk h b = false then (h, Si44.ok (-1)) else if Si44.STEPS < Si44.total (h.jobs.map fun x => x.steps.length) + b.steps.length then (h, Si44.ok (-5)) else ({ h with jobs := h.jobs ++ [b] }, Si44.ok (h.jobs.length : Int)) := rfl
    obtain ⟨db, lb, bas, b1, b2, b3, b4⟩ := hb
    have ej : jobB (mas.map V.ref).length b = Si44.jobOk h b := by rw [List.length_map, rm.1]; rfl
    refine ⟨_, (pss_cons (ps_if (pt_not (pt_val (pe_fn c_job_fits (hr.mono (by decide)) (pa_cons (pv 1) (pa_cons (pe_fld (pv 0) rfl) pa_nil))))) (pss_one (ps_ret (pe_lst (pa_cons (pe_const T.c_OUT_OF_BOUNDS) pa_nil)))) pss_nil)
    (pss_cons (ps_if (pt_cmpR o_gt (pe_op o_add (pe_fn c_steps_together (hr.mono (by decide)) (pa_cons (pe_fld (pv 0) rfl) pa_nil)) (pe_callB cr_len (by rfl) T.b_len bt_len (pa_cons (pe_fld (pv 1) rfl) pa_nil))) (pe_const T.c_MOST_STEPS) (nomark _)) (pss_one (ps_ret (pe_lst (pa_cons (pe_const T.c_NO_ROOM) pa_nil)))) pss_nil)
    (pss_cons (ps_expr (pe_bm PySem.F.plainAttrs_list PySem.F.slot_list_append PySem.F.type_list_append mt_append (pe_fld (pv 0) rfl) (pa_cons (pv 1) pa_nil)))
    (pss_one (ps_ret (pe_lst (pa_cons (pe_op o_sub (pe_callB cr_len (by rfl) T.b_len bt_len (pa_cons (pe_fld (pv 0) rfl) pa_nil)) pe_int) pa_nil))))))), ?_⟩
    refine ⟨_, rfl, _, rfl, p, _, dx, _, _, rfl, hp, T.cl_House, T.n_House_machines, lk_hf1, a, lm, b, _, rfl, JobAt.keep sN ⟨db, lb, bas, b1, b2, b3, b4⟩, hlm, fun H1 s1 => ⟨_, rfl, ite2 (fun q => ?_) (fun q => ?_)⟩⟩
    · have q : Si44.jobOk h b = false := by rw [← ej]; cases z : jobB (mas.map V.ref).length b with
        | false => rfl
        | true => rw [z] at q; cases q
      rw [if_pos q] at es
      exact refuse hH s1 k es
    have q : ¬ Si44.jobOk h b = false := by rw [← ej]; intro z; rw [z] at q; exact q rfl
    rw [if_neg q] at es
    refine ⟨_, rfl, p, _, dx, _, _, rfl, s1 _ _ hp, T.cl_House, T.n_House_jobs, lk_hf2, lj, h.jobs, rfl, ⟨jas, s1 _ _ hlj, rj.imp fun _ _ => JobAt.keep (sG.trans s1)⟩, by have := vh.jobs_few; omega, fun H2 s2 => ?_⟩
    have s12 := s1.trans s2
    refine ⟨_, rfl, a, _, db, _, _, rfl, s12 _ _ (sN _ _ b1), T.cl_Job, T.n_Job_steps, lk_jf4, lb, _, rfl, .inl (SqL.of (s12 _ _ (sN _ _ b2))), _, _, rfl, rfl, _, _, rfl, rfl, _, rfl, ite2 (fun q2 => ?_) (fun q2 => ?_)⟩
    · have q2 := of_decide_eq_true q2
      rw [List.length_map, b3.1] at q2
      rw [if_pos (show Si44.STEPS < _ by show 8 < _; omega)] at es
      exact refuse hH s12 k es
    have q2 : ¬ (8 : Int) < ((Si44.total (h.jobs.map fun b => b.steps.length) : Nat) : Int) + (((bas.map V.ref).length : Nat) : Int) := fun z => q2 (decide_eq_true z)
    rw [List.length_map, b3.1] at q2
    rw [if_neg (show ¬ Si44.STEPS < _ by show ¬ 8 < _; omega)] at es
    have hp2 := s12 _ _ hp
    have hlj2 := s12 _ _ hlj
    refine ⟨_, rfl, p, _, dx, _, _, rfl, hp2, T.cl_House, T.n_House_jobs, lk_hf2, .inl ⟨rfl, _, SqL.of hlj2⟩, _, rfl, lj, _, _, rfl, rfl, hlj2, ?_, ?_⟩
    · have := vh.jobs_few
      rw [List.length_map, rj.1, sizeLine_eq]
      omega
    have npj : p ≠ lj := ne_of hp hlj (by intro z; cases z)
    obtain ⟨H3, e3⟩ : ∃ H3, H3 = upd H2 lj (.lst ((jas ++ [a]).map V.ref)) := ⟨_, rfl⟩
    have e3' : upd H2 lj (.lst (jas.map V.ref ++ [V.ref a])) = H3 := by rw [e3, List.map_append]; rfl
    rw [e3']
    have p3 : H3 p = some (.ins c.cHouse dx (hf lm lj)) := by rw [e3, upd_ne npj]; exact hp2
    have j3 : H3 lj = some (.lst ((jas ++ [a]).map V.ref)) := by rw [e3]; exact upd_same
    have m3 : H3 lm = some (.lst (mas.map V.ref)) := by rw [e3, upd_ne ne]; exact s12 _ _ hlm
    have g3 : G lj = none := gW lj (by simp)
    have n3 : N lj = none := nW lj (by simp)
    have hH3 : HouseAt c (uni G N) H3 p { h with jobs := h.jobs ++ [b] } [p, lm, lj] := by
      refine ⟨dx, lm, lj, rfl, ne, p3, ?_, fun b hb => uni_none (gW b hb) (nW b hb), ⟨mas, m3, rm.imp fun _ _ => MachAt.keep uni_l⟩, ⟨jas ++ [a], j3, Rows.snoc (rj.imp fun _ _ => JobAt.keep uni_l) (JobAt.keep (uni_r sG sN) ⟨db, lb, bas, b1, b2, b3, b4⟩)⟩, ?_⟩
      · rw [e3]
        exact ((uni_sub sG sN).trans s12).upd_r (uni_none g3 n3)
      · have := vh.step (.job b)
        rw [es] at this
        exact this
    refine ⟨_, rfl, p, _, dx, _, _, rfl, p3, T.cl_House, T.n_House_jobs, lk_hf2, lj, _, rfl, .inl (SqL.of j3), _, _, rfl, rfl, (by show 1 ≤ sizeLine; decide), fun la hla => ?_⟩
    refine k _ _ [p, lm, lj] la (by rw [es]; exact hH3.keep (Same.upd hla)) ⟨fun b o e n => ?_, fun b hb => .inl hb, fun b o _ g n => uni_none g n⟩ ?_ (by rw [e3] at hla; exact s12.free (upd_none hla).2)
    · refine Same.upd hla b o ?_
      rw [e3, upd_ne (fun z => n (by rw [z]; simp))]
      exact s12 _ _ e
    · rw [es, upd_same]
      have e5 : (((((jas ++ [a]).map V.ref).length : Nat)) : Int) - 1 = (h.jobs.length : Int) := by rw [List.length_map, List.length_append, rj.1, List.length_singleton]; omega
      show some (HO.lst [V.int ((((((jas ++ [a]).map V.ref).length : Nat)) : Int) - 1)]) = some (HO.lst [V.int (h.jobs.length : Int)])
      rw [e5]
theorem seq_nat {j n : Nat} (h : j < n) : seqIndex? (j : Int) n = some j := (ixN_seq (ix_nat h)).1
def sp_drop_job (c : Cs) : Sp := fun vs H Q _ => ∃ (p : Addr) (h : Si44.House) (G : Hp) (W : List Addr) (j : Nat), vs = [.ref p, vn j] ∧ HouseAt c G H p h W ∧ AfterCall c p h (.drop j) emp G H W Q
theorem ok_drop_job {f : Addr} {fd : FuncData} (F : Fun K "drop_job" "House.drop_job" s_House_drop_job f fd) (T : Txt K mg c) : FnOk P w K mg base CX0 1 f fd ["self", "number"] (sp_drop_job c) := by
  refine F.ok sc_House_drop_job (fun vs H Q E h => ?_) (fun cdv A outer s H vs Q E hr h => ?_)
  · obtain ⟨p, h, G, W, j, rfl, _⟩ := h
    rfl
  · obtain ⟨p, h, G, W, j, rfl, hH, k⟩ := h
    have hH' := hH
    obtain ⟨dx, lm, lj, eW, ne, hp, sG, gW, ⟨mas, hlm, rm⟩, ⟨jas, hlj, rj⟩, vh⟩ := hH'
    subst eW
    have es : Si44.step h (.drop j) = if h.jobs.length ≤ j then (h, Si44.ok (-2)) else ({ h with jobs := h.jobs.eraseIdx j }, Si44.ok ((h.jobs.length - 1 : Nat) : Int)) := rfl
    refine ⟨_, (pss_cons (ps_if (pt_cmpR o_ge (pv 1) (pe_callB cr_len (by rfl) T.b_len bt_len (pa_cons (pe_fld (pv 0) rfl) pa_nil)) (nomark _)) (pss_one (ps_ret (pe_lst (pa_cons (pe_const T.c_NOT_THERE) pa_nil)))) pss_nil)
    (pss_cons (ps_expr (pe_bm PySem.F.plainAttrs_list PySem.F.slot_list_pop PySem.F.type_list_pop mt_popAt (pe_fld (pv 0) rfl) (pa_cons (pv 1) pa_nil)))
    (pss_one (ps_ret (pe_lst (pa_cons (pe_callB cr_len (by rfl) T.b_len bt_len (pa_cons (pe_fld (pv 0) rfl) pa_nil)) pa_nil)))))), ?_⟩
    refine ⟨_, rfl, _, rfl, p, _, dx, _, _, rfl, hp, T.cl_House, T.n_House_jobs, lk_hf2, lj, _, rfl, .inl (SqL.of hlj), _, _, rfl, rfl, _, rfl, ite2 (fun q => ?_) (fun q => ?_)⟩
    · have q := of_decide_eq_true q
      rw [List.length_map, rj.1] at q
      rw [if_pos (by omega)] at es
      exact refuse hH (Same.refl _) k es
    have q : ¬ (((jas.map V.ref).length : Nat) : Int) ≤ (j : Int) := fun z => q (decide_eq_true z)
    rw [List.length_map, rj.1] at q
    rw [if_neg (by omega)] at es
    have hjl : j < jas.length := by rw [rj.1]; omega
    obtain ⟨a, ha⟩ := at_lt hjl
    have hfew := vh.jobs_few
    refine ⟨_, rfl, p, _, dx, _, _, rfl, hp, T.cl_House, T.n_House_jobs, lk_hf2, .inl ⟨rfl, _, SqL.of hlj⟩, _, rfl, lj, _, _, j, _, rfl, rfl, hlj, by omega, by omega, seq_nat (by rw [List.length_map]; exact hjl), ref_at ha, ?_⟩
    have npj : p ≠ lj := ne_of hp hlj (by intro z; cases z)
    obtain ⟨H3, e3⟩ : ∃ H3, H3 = upd H lj (.lst ((jas.eraseIdx j).map V.ref)) := ⟨_, rfl⟩
    have e3' : upd H lj (.lst ((jas.map V.ref).eraseIdx j)) = H3 := by rw [e3, map_erase]
    rw [e3']
    have p3 : H3 p = some (.ins c.cHouse dx (hf lm lj)) := by rw [e3, upd_ne npj]; exact hp
    have j3 : H3 lj = some (.lst ((jas.eraseIdx j).map V.ref)) := by rw [e3]; exact upd_same
    have m3 : H3 lm = some (.lst (mas.map V.ref)) := by rw [e3, upd_ne ne]; exact hlm
    have g3 : G lj = none := gW lj (by simp)
    have hH3 : HouseAt c G H3 p { h with jobs := h.jobs.eraseIdx j } [p, lm, lj] := by
      refine ⟨dx, lm, lj, rfl, ne, p3, ?_, gW, ⟨mas, m3, rm⟩, ⟨jas.eraseIdx j, j3, rj.erase j⟩, ?_⟩
      · rw [e3]
        exact sG.upd_r g3
      · have := vh.step (.drop j)
        rw [es] at this
        exact this
    refine ⟨_, rfl, p, _, dx, _, _, rfl, p3, T.cl_House, T.n_House_jobs, lk_hf2, lj, _, rfl, .inl (SqL.of j3), (by show 1 ≤ sizeLine; decide), fun la hla => ?_⟩
    refine k _ _ [p, lm, lj] la (by rw [es]; exact hH3.keep (Same.upd hla)) ⟨fun b o e n => ?_, fun b hb => .inl hb, fun b o _ g n => g⟩ ?_ (by rw [e3] at hla; exact (upd_none hla).2)
    · refine Same.upd hla b o ?_
      rw [e3, upd_ne (fun z => n (by rw [z]; simp))]
      exact e
    · rw [es, upd_same]
      have e5 : ((jas.eraseIdx j).map V.ref).length = h.jobs.length - 1 := by rw [List.length_map, List.length_eraseIdx, if_pos hjl, rj.1]
      show some (HO.lst [V.int ((((jas.eraseIdx j).map V.ref).length : Nat) : Int)]) = some (HO.lst [V.int ((h.jobs.length - 1 : Nat) : Int)])
      rw [e5]
def outs (l : List Si44.Done) : List Int := Si44.ints (l.flatMap Si44.doneOut)
theorem outs_snoc (l : List Si44.Done) (d : Si44.Done) : outs (l ++ [d]) = outs l ++ [(d.job : Int), (d.step : Int), (d.machine : Int), (d.start : Int), (d.halt_ : Int)] := by
  unfold outs Si44.ints
  rw [List.flatMap_append, List.map_append]
  rfl
theorem outs_len (l : List Si44.Done) : (outs l).length = 5 * l.length := by
  unfold outs Si44.ints
  rw [List.length_map]
  induction l with
  | nil => rfl
  | cons d l ih =>
    rw [List.flatMap_cons, List.length_append, ih, List.length_cons]
    show 5 + _ = _
    omega
theorem HouseAt.parts {c : Cs} {G H : Hp} {p : Addr} {h : Si44.House} {W : List Addr} (x : HouseAt c G H p h W) : ∃ dx lm lj, H p = some (.ins c.cHouse dx (hf lm lj)) ∧ MachsAt c H h.machines lm ∧ JobsAt c H h.jobs lj ∧ Valid h := by
  obtain ⟨dx, lm, lj, eW, ne, hp, sG, gW, ⟨mas, hm, rm⟩, ⟨jas, hj, rj⟩, v⟩ := x
  exact ⟨dx, lm, lj, hp, ⟨mas, hm, rm.imp fun _ _ => MachAt.keep sG⟩, ⟨jas, hj, rj.imp fun _ _ => JobAt.keep sG⟩, v⟩
def sp_times_by (c : Cs) : Sp := fun vs H Q _ => ∃ (p lo : Addr) (h : Si44.House) (G : Hp) (W : List Addr) (o : List Nat), vs = [.ref p, .ref lo] ∧ HouseAt c G H p h W ∧ H lo = some (.lst (o.map vn)) ∧ o.length ≤ 20 ∧ AfterCall c p h (.times o) emp G H W Q
theorem ok_times_by {f : Addr} {fd : FuncData} (F : Fun K "times_by" "House.times_by" s_House_times_by f fd) (T : Txt K mg c) (c_is_order : Callee P w K mg base 2 "is_order" ["jobs", "order"] (sp_is_order c))
    (c_put_in_time : Callee P w K mg base 4 "put_in_time" ["machines", "jobs", "order"] (sp_put_in_time c)) (c_job_ends : Callee P w K mg base 1 "job_ends" ["jobs", "placed"] (sp_job_ends c)) (c_cost : Callee P w K mg base 3 "cost" ["jobs", "ends"] (sp_cost c)) :
    FnOk P w K mg base CX0 5 f fd ["self", "order"] (sp_times_by c) := by
  refine F.ok sc_House_times_by (fun vs H Q E h => ?_) (fun cdv A outer s H vs Q E hr h => ?_)
  · obtain ⟨p, lo, h, G, W, o, rfl, _⟩ := h
    rfl
  · obtain ⟨p, lo, h, G, W, o, rfl, hH, hlo, ho, k⟩ := h
    have nd := sc_House_times_by.nd
    obtain ⟨dx, lm, lj, hp, hM, hJ, vh⟩ := hH.parts
    have hfew := vh.jobs_few
    have es : Si44.step h (.times o) = (h, match Si44.times h o with
      | none => Si44.ok (-6)
      | some l => ⟨(Si44.cost h l : Int), Si44.ints (l.length :: l.flatMap Si44.doneOut)⟩) := rfl
    refine ⟨_, (pss_cons (ps_if (pt_not (pt_val (pe_fn c_is_order (hr.mono (by decide)) (pa_cons (pe_fld (pv 0) rfl) (pa_cons (pv 1) pa_nil))))) (pss_one (ps_ret (pe_lst (pa_cons (pe_const T.c_NO_ORDER) pa_nil)))) pss_nil)
    (pss_cons (ps_set (i := 2) nd rfl (Or.inl rfl) (pe_fn c_put_in_time (hr.mono (by decide)) (pa_cons (pe_fld (pv 0) rfl) (pa_cons (pe_fld (pv 0) rfl) (pa_cons (pv 1) pa_nil)))))
    (pss_cons (ps_set (i := 3) nd rfl (Or.inl rfl) (pe_lst (pa_cons (pe_fn c_cost (hr.mono (by decide)) (pa_cons (pe_fld (pv 0) rfl) (pa_cons (pe_fn c_job_ends (hr.mono (by decide)) (pa_cons (pe_fld (pv 0) rfl) (pa_cons (pv 2) pa_nil))) pa_nil))) (pa_cons (pe_callB cr_len (by rfl) T.b_len bt_len (pa_cons (pv 2) pa_nil)) pa_nil))))
    (pss_cons (ps_for PassesOwn.never rfl (pi_list (pv 2)) (pg_name (i := 4) nd rfl (Or.inl rfl)) (pss_one (ps_expr (pe_bm PySem.F.plainAttrs_list PySem.F.slot_list_extend PySem.F.type_list_extend mt_extend (pv 3) (pa_cons (pe_lst (pa_cons (pe_fld (pv 4) rfl) (pa_cons (pe_fld (pv 4) rfl) (pa_cons (pe_fld (pv 4) rfl) (pa_cons (pe_fld (pv 4) rfl) (pa_cons (pe_fld (pv 4) rfl) pa_nil)))))) pa_nil)))))
    (pss_one (ps_ret (pv 3))))))), ?_⟩
    refine ⟨_, rfl, p, _, dx, _, _, rfl, hp, T.cl_House, T.n_House_jobs, lk_hf2, _, rfl, lj, lo, h, o, rfl, hJ, by omega, hlo, fun H1 s1 => ⟨_, rfl, ite2 (fun q => ?_) (fun q => ?_)⟩⟩
    · have q : ¬ IsOrd h o := fun z => by rw [decide_eq_true z] at q; cases q
      have e : Si44.times h o = none := by
        cases z : Si44.times h o with
        | none => rfl
        | some l => exact absurd ((times_isSome h o).mp (by rw [z]; rfl)) q
      rw [e] at es
      exact refuse hH s1 k es
    have q : IsOrd h o := by
      by_cases z : IsOrd h o
      · exact z
      · rw [decide_eq_false z] at q; exact absurd rfl q
    obtain ⟨ds, hds⟩ := Option.isSome_iff_exists.mp ((times_isSome h o).mpr q)
    rw [hds] at es
    refine ⟨_, rfl, p, _, dx, _, _, rfl, s1 _ _ hp, T.cl_House, T.n_House_machines, lk_hf1, _, rfl, p, _, dx, _, _, rfl, s1 _ _ hp, T.cl_House, T.n_House_jobs, lk_hf2, _, rfl, lm, lj, lo, h, o, ds, rfl, hM.keep s1, hJ.keep s1, vh.sound, s1 _ _ hlo, by omega, times_put hds, fun H2 pl s2 hpl npl => ?_⟩
    have s12 := s1.trans s2
    have hin : ∀ d ∈ ds, d.job < h.jobs.length := fun d hd => by
      have hm : d.job ∈ o := by rw [← times_jobs hds]; exact List.mem_map.mpr ⟨d, hd, rfl⟩
      have hfit := (putAll_fits h o []).mp (by rw [times_put hds]; rfl)
      exact (hfit d.job (by rw [Ne, List.count_eq_zero]; exact fun z => z hm)).1
    refine ⟨_, rfl, p, _, dx, _, _, rfl, s12 _ _ hp, T.cl_House, T.n_House_jobs, lk_hf2, _, rfl, p, _, dx, _, _, rfl, s12 _ _ hp, T.cl_House, T.n_House_jobs, lk_hf2, _, rfl, lj, pl, h, ds, rfl, hJ.keep s12, by omega, hpl, hin, fun H3 le s3 hle => ?_⟩
    have s13 := s12.trans s3
    refine ⟨lj, le, h, stops h ds, rfl, hJ.keep s13, by omega, fun b hb => ((jobOk_iff h b).mp (vh.job b hb)).2.2.1, hle, by simp [stops], fun H4 s4 => ?_⟩
    have s14 := s13.trans s4
    rw [cost_P vh.sound hds]
    obtain ⟨das, hda, rd⟩ := hpl.keep (s3.trans s4)
    refine ⟨_, rfl, pl, _, rfl, .inl (SqL.of hda), (by show 2 ≤ sizeLine; decide), fun la hla => ?_⟩
    have s5 : Same H4 (upd H4 la (.lst [V.int ((Si44.cost h ds : Nat) : Int), V.int (((das.map V.ref).length : Nat) : Int)])) := Same.upd hla
    have hdl : ds.length ≤ 8 := by
      have h1 : (ds.map (·.job)).length = o.length := by rw [times_jobs hds]
      rw [List.length_map] at h1
      have h2 : Si44.total (lens h) ≤ 8 := vh.steps
      rw [h1, q.1]
      exact h2
    refine ⟨_, rfl, pl, rfl, ⟨_, SqL.of (s5 _ _ hda)⟩, for_list (K := K) (a := pl) (xs := das.map V.ref) (fun i σ H' => ∃ v4 : Option V, σ = [some (.ref p), some (.ref lo), some (.ref pl), some (.ref la), v4] ∧ Same H4 H' ∧ H' la = some (.lst ((((Si44.cost h ds : Nat) : Int) :: ((ds.length : Nat) : Int) :: outs (ds.take i)).map V.int)))
      ⟨none, rfl, s5, ?_⟩ (fun i σ H' _ ⟨_, _, s6, _⟩ => SqL.of (s6 _ _ hda)) ?_ ?_⟩
    · rw [upd_same, List.length_map, rd.1, withR_len]
      rfl
    · rintro i y σ H' hy ⟨v4, rfl, s6, hla'⟩
      obtain ⟨a, ha, rfl⟩ := map_at hy
      obtain ⟨⟨r, d⟩, hd, dp, hdp⟩ := rd.at_ ha
      have hd := withR_done hd
      have hdp := s6 _ _ hdp
      refine ⟨_, rfl, .inl ⟨rfl, _, SqL.of hla'⟩, _, rfl, a, _, dp, _, _, rfl, hdp, T.cl_Placed, T.n_Placed_job, lk_pf1, _, rfl, a, _, dp, _, _, rfl, hdp, T.cl_Placed, T.n_Placed_which, lk_pf2, _, rfl, a, _, dp, _, _, rfl, hdp, T.cl_Placed, T.n_Placed_machine, lk_pf3, _, rfl, a, _, dp, _, _, rfl, hdp, T.cl_Placed, T.n_Placed_begin, lk_pf4, _, rfl, a, _, dp, _, _, rfl, hdp, T.cl_Placed, T.n_Placed_stop, lk_pf5, (by show 5 ≤ sizeLine; decide), fun lx hlx => ?_⟩
      have nx : la ≠ lx := ne_of_none hla' hlx
      refine ⟨la, lx, _, _, rfl, rfl, (by rw [upd_ne nx]; exact hla'), upd_same, ?_, _, rfl, ?_, ?_⟩
      · have h1 := lt_of_at hd
        rw [List.length_map, List.length_cons, List.length_cons, outs_len, List.length_take, sizeLine_eq]
        show _ + 5 ≤ _
        omega
      · have h0 : H4 la = none := hla
        exact (s6.trans (Same.upd hlx)).upd_r h0
      · rw [upd_same, take_at hd, outs_snoc, ← List.cons_append, ← List.cons_append, List.map_append]
        rfl
    · rintro σ H' ⟨v4, rfl, s6, hla'⟩
      rw [List.length_map, rd.1, withR_len, List.take_length] at hla'
      refine ⟨_, rfl, k G H' W la ?_ (Fram.same (s14.trans s6)) ?_ (s14.free hla)⟩
      · rw [es]
        exact hH.keep (s14.trans s6)
      · rw [es, hla']
        rfl
end
end Sj
end
section
set_option Elab.async false
set_option linter.all false
set_option maxRecDepth 100000
set_option maxHeartbeats 2000000
namespace Sj
open PySem PySem.Spec PyProof.Rows L2
def grow (S H H' : Hp) : Hp := uni S (newOf H H')
theorem grow_l {S H H' : Hp} : Same S (grow S H H') := uni_l
theorem grow_at {S H H' : Hp} {b : Addr} {o : HO} (sS : Same S H) (h : H b = none) (h' : H' b = some o) : grow S H H' b = some o := by
  unfold grow uni
  rw [sS.free h]
  exact newOf_at h h'
theorem grow_sub {S H H' : Hp} (sS : Same S H) (s : Same H H') : Same (grow S H H') H' := uni_sub (sS.trans s) newOf_sub
theorem grow_none {S H H' : Hp} {b : Addr} {o : HO} (g : S b = none) (h : H b = some o) : grow S H H' b = none := uni_none g (newOf_old h)
theorem grow_all {H H' : Hp} (s : Same H H') : grow H H H' = H' := by
  funext b
  cases q : H b with
  | none => unfold grow uni newOf; rw [q]
  | some o => unfold grow uni; rw [q]; exact (s _ _ q).symm
def bf (ta lo : Addr) (s e w : Nat) : List (Str × V) := [("timetable", .ref ta), ("order", .ref lo), ("spent", vn s), ("ended", vn e), ("ways", vn w)]
theorem lk_bf1 {ta lo : Addr} {s e w : Nat} : (bf ta lo s e w).lookup ("timetable" : Str) = some (.ref ta) := by rfl
theorem lk_bf2 {ta lo : Addr} {s e w : Nat} : (bf ta lo s e w).lookup ("order" : Str) = some (.ref lo) := by rfl
theorem lk_bf3 {ta lo : Addr} {s e w : Nat} : (bf ta lo s e w).lookup ("spent" : Str) = some (vn s) := by rfl
theorem lk_bf4 {ta lo : Addr} {s e w : Nat} : (bf ta lo s e w).lookup ("ended" : Str) = some (vn e) := by rfl
theorem lk_bf5 {ta lo : Addr} {s e w : Nat} : (bf ta lo s e w).lookup ("ways" : Str) = some (vn w) := by rfl
def BgAt (c : Cs) (G H : Hp) (h : Si44.House) (b : Bg) (p : Addr) : Prop := ∃ dx ta lo L, H p = some (.ins c.cBeginning dx (bf ta lo (spentOf h b.l) (endedOf h b.l) b.ways)) ∧ TTAt c G H ta h b.l L ∧ H lo = some (.lst ((jobsOf b.l).map vn))
theorem BgAt.keep {c : Cs} {G H H' : Hp} {h : Si44.House} {b : Bg} {p : Addr} (s : Same H H') (x : BgAt c G H h b p) : BgAt c G H' h b p := by
  obtain ⟨dx, ta, lo, L, h1, h2, h3⟩ := x
  exact ⟨dx, ta, lo, L, s _ _ h1, h2.keep s, s _ _ h3⟩
section
variable {P : Program} {w : World} {K : PySem.W.Frag} {mg : Str → Option Value} {base : Heap} {c : Cs}
def sp_rank (c : Cs) : Sp := fun vs H Q _ => ∃ (p : Addr) (G : Hp) (h : Si44.House) (b : Bg), vs = [.ref p] ∧ BgAt c G H h b p ∧ ∀ (H' : Hp) (x : V), Same H H' → TriAt H' (rk h b) x → Q x H'
theorem ok_rank {f : Addr} {fd : FuncData} (F : Fun K "rank" "rank" s_rank f fd) (T : Txt K mg c) : FnOk P w K mg base CX0 1 f fd ["beginning"] (sp_rank c) := by
  refine F.ok sc_rank (fun vs H Q E h => ?_) (fun cdv A outer s H vs Q E hr h => ?_)
  · obtain ⟨p, G, h, b, rfl, _⟩ := h
    rfl
  · obtain ⟨p, G, h, b, rfl, ⟨dx, ta, lo, L, h1, h2, h3⟩, k⟩ := h
    refine ⟨_, (pss_one (ps_ret (pe_tup (pa_cons (pe_fld (pv 0) rfl) (pa_cons (pe_fld (pv 0) rfl) (pa_cons (pe_fld (pv 0) rfl) pa_nil)))))), ?_⟩
    refine ⟨_, rfl, p, _, dx, _, _, rfl, h1, T.cl_Beginning, T.n_Beginning_spent, lk_bf3, _, rfl, p, _, dx, _, _, rfl, h1, T.cl_Beginning, T.n_Beginning_ended, lk_bf4, _, rfl, p, _, dx, _, _, rfl, h1, T.cl_Beginning, T.n_Beginning_order, lk_bf2, (by show 3 ≤ sizeLine; decide), fun t ht => ?_⟩
    exact k _ (.ref t) (Same.upd ht) ⟨t, lo, rfl, upd_same, Same.upd ht _ _ h3⟩
def sp_with_next (c : Cs) : Sp := fun vs H Q _ => ∃ (p : Addr) (G S : Hp) (h : Si44.House) (x : Bg) (j : Nat) (b : Si44.Job) (s : Si44.Step) (m : Si44.Machine), vs = [.ref p, vn j] ∧ Same S H ∧ BgAt c G S h x p ∧ Sound h ∧ h.jobs[j]? = some b ∧ b.steps[cnt x.l j]? = some s ∧ h.machines[s.machine]? = some m ∧ x.l.length ≤ 1000 ∧
  ∀ (H' : Hp) (p' : Addr), Same H H' → BgAt c G (grow S H H') h ⟨x.l ++ [doneP m x.l j b s], x.ways⟩ p' → Q (.ref p') H'
theorem ok_with_next {f : Addr} {fd : FuncData} (F : Fun K "with_next" "with_next" s_with_next f fd) (T : Txt K mg c) (c_Timetable_copied : MCallee P w K mg base 3 c.cTimetable "copied" ["self"] (sp_copied c))
    (c_Timetable_put : MCallee P w K mg base 3 c.cTimetable "put" ["self", "number"] (sp_put c)) (c_Timetable_has_more : MCallee P w K mg base 1 c.cTimetable "has_more" ["self", "number"] (sp_has_more c))
    (c_job_cost : Callee P w K mg base 2 "job_cost" ["job", "end"] (sp_job_cost c)) (c_Beginning : KCallee P w K mg base 1 "Beginning" c.cBeginning ["self", "timetable", "order", "spent", "ended", "ways"] (spRec c.cBeginning ["timetable", "order", "spent", "ended", "ways"])) :
    FnOk P w K mg base CX0 4 f fd ["beginning", "number"] (sp_with_next c) := by
  refine F.ok sc_with_next (fun vs H Q E h => ?_) (fun cdv A outer s H vs Q E hr h => ?_)
  · obtain ⟨p, G, S, h, x, j, b, s, m, rfl, _⟩ := h
    rfl
  · obtain ⟨p, G, S, h, x, j, b, st, m, rfl, sS, hx, v, hb, hs, hm, hlen, k⟩ := h
    obtain ⟨dx, ta, lo, L, x1, x2, x3⟩ := hx
    obtain ⟨dt, lm, lj, l1, l2, l3, l4, eL, nL, t1, t2, t3, t4, t5, sG, gL, hms, hjs⟩ := id x2
    have nd := sc_with_next.nd
    have hj := lt_of_at hb
    have hc : cnt x.l j < b.steps.length := lt_of_at hs
    refine ⟨_, (pss_cons (ps_set (i := 2) nd rfl (Or.inl rfl) (pe_mt0 T.cl_Timetable c_Timetable_copied (hr.mono (by decide)) (pe_fld (pv 0) rfl)))
    (pss_cons (ps_set (i := 3) nd rfl (Or.inl rfl) (pe_mt T.cl_Timetable c_Timetable_put (hr.mono (by decide)) (pv 2) (pa_cons (pv 1) pa_nil)))
    (pss_cons (ps_set (i := 4) nd rfl (Or.inl rfl) (pe_fld (pv 0) rfl))
    (pss_cons (ps_set (i := 5) nd rfl (Or.inl rfl) (pe_fld (pv 0) rfl))
    (pss_cons (ps_if (pt_not (pt_val (pe_mt T.cl_Timetable c_Timetable_has_more (hr.mono (by decide)) (pv 2) (pa_cons (pv 1) pa_nil)))) (pss_cons (ps_set (i := 4) nd rfl (Or.inl rfl) (pe_op o_add (pv 4) (pe_fn c_job_cost (hr.mono (by decide)) (pa_cons (pe_ix ix_list (pe_fld (pv 2) rfl) (pv 1) (fun _ _ => rfl)) (pa_cons (pe_fld (pv 3) rfl) pa_nil)))))
      (pss_one (ps_set (i := 5) nd rfl (Or.inl rfl) (pe_op o_add (pv 5) (pe_fld (pv 3) rfl))))) pss_nil)
    (pss_one (ps_ret (pe_mk c_Beginning (hr.mono (by decide)) (pa_cons (pv 2) (pa_cons (pe_op op_cat (pe_fld (pv 0) rfl) (pe_lst (pa_cons (pv 1) pa_nil))) (pa_cons (pv 4) (pa_cons (pv 5) (pa_cons (pe_fld (pv 0) rfl) pa_nil))))))))))))), ?_⟩
    refine ⟨_, rfl, p, _, dx, _, _, rfl, sS _ _ x1, T.cl_Beginning, T.n_Beginning_timetable, lk_bf1, ta, dt, _, rfl, sS _ _ t1, lk_tfc, ta, G, h, x.l, L, rfl, x2.keep sS, fun H1 a' L' s1 tt1 fl1 na => ?_⟩
    obtain ⟨d1, lm1, lj1, k1, k2, k3, k4, eL1, nL1, u1, u2, u3, u4, u5, sG1, gL1, hms1, hjs1⟩ := id tt1
    refine ⟨_, rfl, a', d1, _, rfl, u1, lk_tf0, _, rfl, a', G, h, x.l, L', j, b, st, m, rfl, tt1, hb, hs, hm, fun H2 pp tt2 pa fr hpp => ?_⟩
    have s2 : Same H H2 := fun b o e => fr b o (s1 _ _ e) fun z => by rw [fl1 b z] at e; cases e
    obtain ⟨dpp, pa⟩ := pa
    obtain ⟨d2, lm2, lj2, k1', k2', k3', k4', eL2, nL2, w1, w2, w3, w4, w5, sG2, gL2, hms2, hjs2⟩ := id tt2
    generalize hd : doneP m x.l j b st = d at tt2 pa w1 w2 w3 w4 w5 k
    have hdj : d.job = j := by rw [← hd]; rfl
    have hbd : h.jobs[d.job]? = some b := by rw [hdj]; exact hb
    have hcd : cnt x.l d.job < b.steps.length := by rw [hdj]; exact hc
    have es := spent_snoc hbd hcd
    have ee := ended_snoc hbd hcd
    rw [hdj] at es ee
    obtain ⟨jas, hlj, rj⟩ := hjs2.keep sG2
    obtain ⟨pj, hpj, hjb⟩ := rj.2 j b hb
    refine ⟨_, rfl, p, _, dx, _, _, rfl, s2 _ _ (sS _ _ x1), T.cl_Beginning, T.n_Beginning_spent, lk_bf3, ?_⟩
    refine ⟨_, rfl, p, _, dx, _, _, rfl, s2 _ _ (sS _ _ x1), T.cl_Beginning, T.n_Beginning_ended, lk_bf4, ?_⟩
    refine ⟨_, rfl, a', d2, _, rfl, w1, lk_tfm, _, rfl, a', d2, lm2, lj2, k1', k2', k3', k4', ups h (x.l ++ [d]), h.jobs, cnt x.l j + 1, j, b, rfl, w1, w2, ?_, ⟨jas, hlj, rj⟩, hb, _, rfl, ite2 (fun q => ?_) (fun q => ?_)⟩
    · rw [ups_get _ hj, cnt_snoc, if_pos hdj]
    have q : b.steps.length ≤ cnt x.l j + 1 := by
      rcases Nat.lt_or_ge (cnt x.l j + 1) b.steps.length with z | z
      · rw [decide_eq_true z] at q; cases q
      · exact z
    rw [if_pos q] at es ee
    refine ⟨_, rfl, _, rfl, a', _, d2, _, _, rfl, w1, T.cl_Timetable, T.n_Timetable_jobs, lk_tf2, _, rfl, lj2, _, _, _, rfl, rfl, SqL.of hlj, atI_nat (ref_at hpj), _, rfl, pp, _, dpp, _, _, rfl, pa, T.cl_Placed, T.n_Placed_stop, lk_pf5, pj, b, d.halt_, rfl, hjb, v.wt b (List.mem_of_getElem? hb), _, _, rfl, rfl, ?_⟩
    refine ⟨_, rfl, _, rfl, pp, _, dpp, _, _, rfl, pa, T.cl_Placed, T.n_Placed_stop, lk_pf5, _, _, rfl, rfl, ?_⟩
    dsimp only
    rw [show ((spentOf h x.l : Nat) : Int) + ((b.weight * (d.halt_ - b.due) : Nat) : Int) = ((spentOf h (x.l ++ [d]) : Nat) : Int) by rw [es]; omega, show ((endedOf h x.l : Nat) : Int) + ((d.halt_ : Nat) : Int) = ((endedOf h (x.l ++ [d]) : Nat) : Int) by rw [ee]; omega]
    rotate_left
    have q : ¬ b.steps.length ≤ cnt x.l j + 1 := fun z => q (by rw [decide_eq_false (by omega)]; rfl)
    rw [if_neg q, Nat.add_zero] at es ee
    rw [← es, ← ee]
    all_goals
      refine ⟨_, rfl, _, rfl, p, _, dx, _, _, rfl, s2 _ _ (sS _ _ x1), T.cl_Beginning, T.n_Beginning_order, lk_bf2, _, rfl, (by show 1 ≤ sizeLine; decide), fun l0 n0 => ?_⟩
      have s3 := Same.upd (o := .lst [vn j]) n0
      refine ⟨lo, l0, _, _, rfl, rfl, s3 _ _ (s2 _ _ (sS _ _ x3)), upd_same, ?_, fun lo' no' => ?_⟩
      · have : (jobsOf x.l).length = x.l.length := by unfold jobsOf; rw [List.length_map]
        rw [List.length_map, this, sizeLine_eq]
        show x.l.length + 1 ≤ _
        omega
      have s4 := Same.upd (o := .lst ((jobsOf x.l).map vn ++ [vn j])) no'
      refine ⟨_, rfl, _, rfl, _, rfl, p, _, dx, _, _, rfl, s4 _ _ (s3 _ _ (s2 _ _ (sS _ _ x1))), T.cl_Beginning, T.n_Beginning_ways, lk_bf5, fun y dy hy hdy hne => ⟨y, dy, [.ref a', .ref lo', vn (spentOf h (x.l ++ [d])), vn (endedOf h (x.l ++ [d])), vn x.ways], rfl, rfl, upd_same, rfl, ?_⟩⟩
      have s5 := made (C := c.cBeginning) (fs := bf a' lo' (spentOf h (x.l ++ [d])) (endedOf h (x.l ++ [d])) x.ways) hy hdy
      have sA := ((s2.trans s3).trans s4).trans s5
      have sB := (s3.trans s4).trans s5
      have nl : ∀ z ∈ L', H z = none := fl1
      have mem : ∀ z ∈ [k1', k2', k3', k4'], H z = none := fun z hz => nl z (by rw [eL2]; exact hz)
      refine k _ y sA ⟨dy, a', lo', L', grow_at sS (s2.free (s3.free (s4.free hy))) upd_same, ?_, grow_at sS (s2.free (s3.free no')) ?_⟩
      · exact ⟨d2, lm2, lj2, k1', k2', k3', k4', eL2, nL2, grow_at sS na (sB _ _ w1), grow_at sS (mem k1' (by simp)) (sB _ _ w2), grow_at sS (mem k2' (by simp)) (sB _ _ w3), grow_at sS (mem k3' (by simp)) (sB _ _ w4), grow_at sS (mem k4' (by simp)) (sB _ _ w5), sG.trans grow_l, gL2, hms2, hjs2⟩
      · refine Eq.trans (s5 _ _ upd_same) ?_
        unfold jobsOf
        rw [List.map_append, List.map_append]
        show some (HO.lst (_ ++ [vn j])) = some (HO.lst (_ ++ [vn d.job]))
        rw [hdj]
theorem filt_range {α β : Type} (g : List α) (d : α) (q : α → Bool) (f : α → β) : ((List.range g.length).filter fun i => q (g.getD i d)).map (fun i => f (g.getD i d)) = (g.filter q).map f := by
  have e : g = (List.range g.length).map fun i => g.getD i d := by
    apply List.ext_getElem?
    intro i
    rw [List.getElem?_map]
    by_cases hi : i < g.length
    · rw [List.getElem?_range hi, List.getElem?_eq_getElem hi]
      simp [hi]
    · rw [List.getElem?_eq_none (by omega), List.getElem?_eq_none (by simpa using hi)]
      rfl
  conv => rhs; rw [e, List.filter_map, List.map_map]
  rfl
def bg0 : Bg := ⟨[], 0⟩
theorem getD_at {α : Type} {g : List α} {i : Nat} {x d : α} (h : g[i]? = some x) : g.getD i d = x := by rw [List.getD_eq_getElem?_getD, h]; rfl
def sp_as_one (c : Cs) : Sp := fun vs H Q _ => ∃ (lb : Addr) (as : List Addr) (G S : Hp) (h : Si44.House) (g : List Bg) (n : Nat), vs = [.ref lb] ∧ H lb = some (.lst (as.map V.ref)) ∧ Same S H ∧ Rows (BgAt c G S h) g as ∧ g ≠ [] ∧ (∀ b ∈ g, b.l.length = n) ∧ g.length ≤ sizeLine ∧
  ∀ (H' : Hp) (p : Addr) (x : Bg), Same H H' → OneOf h g x → BgAt c G (grow S H H') h x p → Q (.ref p) H'
theorem ok_as_one {f : Addr} {fd : FuncData} (F : Fun K "as_one" "as_one" s_as_one f fd) (T : Txt K mg c) (c_rank : Callee P w K mg base 1 "rank" ["beginning"] (sp_rank c)) (c_Beginning : KCallee P w K mg base 1 "Beginning" c.cBeginning ["self", "timetable", "order", "spent", "ended", "ways"] (spRec c.cBeginning ["timetable", "order", "spent", "ended", "ways"])) :
    FnOk P w K mg base CX0 3 f fd ["beginnings"] (sp_as_one c) := by
  refine F.ok sc_as_one (fun vs H Q E h => ?_) (fun cdv A outer s H vs Q E hr h => ?_)
  · obtain ⟨lb, as, G, S, h, g, n, rfl, _⟩ := h
    rfl
  · obtain ⟨lb, as, G, S, h, g, n, rfl, hlb, sS, rows, gne, hn, hz, k⟩ := h
    have nd := sc_as_one.nd
    have hlen : (as.map V.ref).length = g.length := by rw [List.length_map, rows.1]
    refine ⟨_, (pss_cons (ps_set (i := 1) nd rfl (Or.inr rfl) (pe_minK rfl c_rank (hr.mono (by decide)) (pv 0) T.b_min))
    (pss_cons (ps_set (i := 2) nd rfl (Or.inl rfl) (pe_callB (cr_sum rfl) (by rfl) T.b_sum bt_sum (pa_cons (pe_lc (g := (gName 3)) (tt := (tTest (tOp rEq (tFld K (tVar 3) "spent") (tFld K (tVar 1) "spent")))) (te := (tFld K (tVar 3) "ways")) rfl nd (pi_list (pv 0)) (own := [("one", 3)]) (blk_of (by kernel_rfl)) (fun _ _ _ _ _ => pg_name (i := 3) nd rfl (Or.inl rfl)) (fun _ _ _ _ _ => (pts_one (pt_cmpR op_eq (pe_fld (pv 3) rfl) (pe_fld (pv 1) rfl) (nomark _)))) (fun _ _ _ _ _ => (pe_fld (pv 3) rfl))) pa_nil)))
    (pss_one (ps_ret (pe_mk c_Beginning (hr.mono (by decide)) (pa_cons (pe_fld (pv 1) rfl) (pa_cons (pe_fld (pv 1) rfl) (pa_cons (pe_fld (pv 1) rfl) (pa_cons (pe_fld (pv 1) rfl) (pa_cons (pv 2) pa_nil)))))))))), ?_⟩
    refine ⟨_, rfl, lb, as.map V.ref, (fun i => rk h (g.getD i bg0)), n, rfl, hlb, ?_, fun i hi => ?_, fun i y H' hy sH => ?_, fun i y H1 hy least s1 => ?_⟩
    · rw [hlen]
      exact List.length_pos_iff.mpr gne
    · rw [hlen] at hi
      obtain ⟨b, hb⟩ := at_lt hi
      show (jobsOf (g.getD i bg0).l).length = n
      rw [getD_at hb]
      unfold jobsOf
      rw [List.length_map]
      exact hn b (List.mem_of_getElem? hb)
    · obtain ⟨p, hp, rfl⟩ := map_at hy
      obtain ⟨b, hb, hbp⟩ := rows.at_ hp
      exact ⟨p, G, h, b, rfl, hbp.keep (sS.trans sH), fun H'' x s2 tri => ⟨s2, by show TriAt H'' (rk h (g.getD i bg0)) x; rw [getD_at hb]; exact tri⟩⟩
    obtain ⟨pb, hpb, rfl⟩ := map_at hy
    obtain ⟨b, hb, hbp⟩ := rows.at_ hpb
    obtain ⟨dx, ta, lo, L, b1, b2, b3⟩ := id hbp
    have sS1 := sS.trans s1
    refine ⟨_, rfl, lb, rfl, ⟨_, SqL.of (s1 _ _ hlb)⟩, fun D hD => cmf_list hD (SqL.of (s1 _ _ hlb)) (by rw [hlen]; exact hz) (fun i => spentOf h (g.getD i bg0).l == spentOf h b.l) (fun i => vn (g.getD i bg0).ways) (fun i' x' H' hx' hs N Nb yes no => ?_) fun H2 q2 s2 => ?_⟩
    · obtain ⟨p, hp, rfl⟩ := map_at hx'
      obtain ⟨y, hy', dy, ty, ly, Ly, y1, y2, y3⟩ := rows.at_ hp
      rw [getD_at hy'] at yes no
      refine ⟨rfl, _, rfl, p, _, dy, _, _, rfl, hs _ _ (sS1 _ _ y1), T.cl_Beginning, T.n_Beginning_spent, lk_bf3, _, rfl, pb, _, dx, _, _, rfl, hs _ _ (sS1 _ _ b1), T.cl_Beginning, T.n_Beginning_spent, lk_bf3, rfl, _, rfl, ite2 (fun q => ?_) (fun q => ?_)⟩
      · have z : spentOf h y.l = spentOf h b.l := by have q := of_decide_eq_true q; injection q with q; omega
        exact ⟨_, rfl, p, _, dy, _, _, rfl, hs _ _ (sS1 _ _ y1), T.cl_Beginning, T.n_Beginning_ways, lk_bf5, yes (by simp [z])⟩
      · have z : ¬ spentOf h y.l = spentOf h b.l := fun z => q (decide_eq_true (by rw [z]))
        exact no (by simp [z])
    have ez : (((List.range (as.map V.ref).length).filter fun i => spentOf h (g.getD i bg0).l == spentOf h b.l).map fun i => vn (g.getD i bg0).ways) = (((g.filter fun y => spentOf h y.l == spentOf h b.l).map fun y => y.ways).map fun (n : Nat) => (n : Int)).map V.int := by
      rw [hlen, filt_range g bg0 (fun y => spentOf h y.l == spentOf h b.l) (fun y => vn y.ways), List.map_map, List.map_map]
      rfl
    rw [ez] at q2
    refine ⟨D, _, rfl, SqL.of q2, ?_⟩
    rw [sum_total]
    have sS2 := sS1.trans s2
    refine ⟨_, rfl, pb, _, dx, _, _, rfl, sS2 _ _ b1, T.cl_Beginning, T.n_Beginning_timetable, lk_bf1, _, rfl, pb, _, dx, _, _, rfl, sS2 _ _ b1, T.cl_Beginning, T.n_Beginning_order, lk_bf2, _, rfl, pb, _, dx, _, _, rfl, sS2 _ _ b1, T.cl_Beginning, T.n_Beginning_spent, lk_bf3, _, rfl, pb, _, dx, _, _, rfl, sS2 _ _ b1, T.cl_Beginning, T.n_Beginning_ended, lk_bf4, _, rfl, ?_⟩
    intro y dy hy' hdy hne
    refine ⟨y, dy, [.ref ta, .ref lo, vn (spentOf h b.l), vn (endedOf h b.l), vn (Si44.total ((g.filter fun y => spentOf h y.l == spentOf h b.l).map fun y => y.ways))], rfl, rfl, upd_same, rfl, ?_⟩
    have s3 := made (C := c.cBeginning) (fs := bf ta lo (spentOf h b.l) (endedOf h b.l) (Si44.total ((g.filter fun y => spentOf h y.l == spentOf h b.l).map fun y => y.ways))) hy' hdy
    refine k _ y ⟨b.l, Si44.total ((g.filter fun y => spentOf h y.l == spentOf h b.l).map fun y => y.ways)⟩ ((s1.trans s2).trans s3) ⟨b, List.mem_of_getElem? hb, fun y hy => ?_, rfl, rfl⟩ ⟨dy, ta, lo, L, grow_at sS (s1.free (s2.free hy')) upd_same, b2.keep grow_l, grow_l _ _ b3⟩
    obtain ⟨i', hi'⟩ := List.getElem?_of_mem hy
    have : rkLt (rk h (g.getD i' bg0)) (rk h (g.getD i bg0)) = false := least i' (by rw [hlen]; exact lt_of_at hi')
    rw [getD_at hb, getD_at hi'] at this
    exact this
end
end Sj
end
section
set_option Elab.async false
set_option linter.all false
set_option maxRecDepth 100000
set_option maxHeartbeats 2000000
namespace Sj
open PySem PySem.Spec PyProof.Rows L2
def EntAt (c : Cs) (G S H : Hp) (h : Si44.House) (d : Addr) (e : Ent) (g : List (List Nat) × List Bg) : Prop :=
  e.1 = g.1 ∧ Key2 S e.1 e.2.1 ∧ S e.2.2 = none ∧ e.2.2 ≠ d ∧ ∃ as : List Addr, H e.2.2 = some (.lst (as.map V.ref)) ∧ Rows (BgAt c G S h) g.2 as
structure AlikeAt (P : Program) (w : World) (c : Cs) (G S H : Hp) (h : Si44.House) (d : Addr) (ents : List Ent) (ep : Nat) (gs : List (List (List Nat) × List Bg)) : Prop where
  dict : H d = some (dO P w d ents ep)
  dS : S d = none
  sub : Same S H
  len : ents.length = gs.length
  nd : (ents.map fun e => e.2.2).Nodup
  each : ∀ (i : Nat) e g, ents[i]? = some e → gs[i]? = some g → EntAt c G S H h d e g
theorem upd_ref {a b : Addr} {H : Hp} {o : HO} : upd H a o b = some o ∨ upd H a o b = H b := by
  by_cases z : b = a
  · rw [z]; exact .inl upd_same
  · exact .inr (upd_ne z)
section
variable {P : Program} {w : World} {c : Cs} {G S H : Hp} {h : Si44.House} {d : Addr} {ents : List Ent} {ep : Nat} {gs : List (List (List Nat) × List Bg)}
theorem AlikeAt.grow {H' : Hp} (A : AlikeAt P w c G S H h d ents ep gs) (s : Same H H') : AlikeAt P w c G (grow S H H') H' h d ents ep gs := by
  refine ⟨s _ _ A.dict, grow_none A.dS A.dict, grow_sub A.sub s, A.len, A.nd, fun i e g he hg => ?_⟩
  obtain ⟨e1, e2, e3, e4, as, e5, e6⟩ := A.each i e g he hg
  exact ⟨e1, e2.keep fun b ys q => grow_l _ _ q, grow_none e3 e5, e4, as, s _ _ e5, e6.imp fun _ _ => BgAt.keep grow_l⟩
theorem AlikeAt.keys (A : AlikeAt P w c G S H h d ents ep gs) : ents.map (fun e => e.1) = gs.map (fun g => g.1) := by
  apply List.ext_getElem?
  intro i
  rw [List.getElem?_map, List.getElem?_map]
  cases q : ents[i]? with
  | none =>
    have := List.getElem?_eq_none_iff.mp q
    rw [List.getElem?_eq_none (by rw [← A.len]; exact this)]
    rfl
  | some e =>
    obtain ⟨g, hg⟩ := at_lt (show i < gs.length by rw [← A.len]; exact lt_of_at q)
    rw [hg]
    show some e.1 = some g.1
    rw [(A.each i e g q hg).1]
theorem AlikeAt.key2 (A : AlikeAt P w c G S H h d ents ep gs) : ∀ x ∈ ents, Key2 H x.1 x.2.1 := fun x hx => by
  obtain ⟨i, hi⟩ := List.getElem?_of_mem hx
  obtain ⟨g, hg⟩ := at_lt (show i < gs.length by rw [← A.len]; exact lt_of_at hi)
  exact (A.each i x g hi hg).2.1.keep fun b ys q => A.sub _ _ q
theorem any_keys (e : ents.map (fun e => e.1) = gs.map (fun g => g.1)) (k : List (List Nat)) : (gs.any fun g => decide (g.1 = k)) = true ↔ ∃ x ∈ ents, x.1 = k := by
  rw [List.any_eq_true]
  constructor
  · rintro ⟨g, hg, q⟩
    have : k ∈ gs.map (fun g => g.1) := List.mem_map.mpr ⟨g, hg, of_decide_eq_true q⟩
    rw [← e] at this
    obtain ⟨x, hx, q⟩ := List.mem_map.mp this
    exact ⟨x, hx, q⟩
  · rintro ⟨x, hx, q⟩
    have : k ∈ ents.map (fun e => e.1) := List.mem_map.mpr ⟨x, hx, q⟩
    rw [e] at this
    obtain ⟨g, hg, q⟩ := List.mem_map.mp this
    exact ⟨g, hg, decide_eq_true q⟩
theorem AlikeAt.there (A : AlikeAt P w c G S H h d ents ep gs) (nk : (gs.map fun g => g.1).Nodup) {x : Ent} (hx : x ∈ ents) {y : Bg} {p : Addr} (hy : BgAt c G S h y p) :
    ∃ (as : List Addr) (g : List (List Nat) × List Bg), g ∈ gs ∧ as.length = g.2.length ∧ H x.2.2 = some (.lst (as.map V.ref)) ∧ AlikeAt P w c G S (upd H x.2.2 (.lst (as.map V.ref ++ [V.ref p]))) h d ents ep (ins gs x.1 y) := by
  obtain ⟨i0, hi0⟩ := List.getElem?_of_mem hx
  obtain ⟨g0, hg0⟩ := at_lt (show i0 < gs.length by rw [← A.len]; exact lt_of_at hi0)
  obtain ⟨e1, e2, e3, e4, as, e5, e6⟩ := A.each i0 x g0 hi0 hg0
  refine ⟨as, g0, List.mem_of_getElem? hg0, e6.1, e5, ?_⟩
  have ei : ins gs x.1 y = gs.map fun g => if g.1 = x.1 then (g.1, g.2 ++ [y]) else g := by
    unfold ins
    rw [if_pos ((any_keys A.keys x.1).mpr ⟨x, hx, rfl⟩)]
  rw [ei]
  refine ⟨?_, A.dS, A.sub.upd_r e3, by rw [List.length_map]; exact A.len, A.nd, fun i e g he hg => ?_⟩
  · rw [upd_ne (Ne.symm e4)]; exact A.dict
  · rw [List.getElem?_map] at hg
    cases q : gs[i]? with
    | none => rw [q] at hg; cases hg
    | some g1 =>
      rw [q] at hg
      have hg : (if g1.1 = x.1 then (g1.1, g1.2 ++ [y]) else g1) = g := Option.some.inj hg
      obtain ⟨a1, a2, a3, a4, bs, a5, a6⟩ := A.each i e g1 he q
      by_cases z : g1.1 = x.1
      · rw [if_pos z] at hg
        have hi : i = i0 := by
          have q1 : (gs.map fun g => g.1)[i]? = some x.1 := by rw [List.getElem?_map, q]; show some g1.1 = _; rw [z]
          have q2 : (gs.map fun g => g.1)[i0]? = some x.1 := by rw [List.getElem?_map, hg0]; show some g0.1 = _; rw [e1]
          exact (List.getElem?_inj (lt_of_at q1) nk).mp (q1.trans q2.symm)
        subst hi
        rw [hi0] at he
        have he : x = e := Option.some.inj he
        subst he
        rw [hg0] at q
        have q : g0 = g1 := Option.some.inj q
        subst q
        subst hg
        refine ⟨e1, e2, e3, e4, as ++ [p], ?_, e6.snoc hy⟩
        rw [upd_same, List.map_append]
        rfl
      · rw [if_neg z] at hg
        subst hg
        have ne : e.2.2 ≠ x.2.2 := fun y => by
          have q1 : (ents.map fun e => e.2.2)[i]? = some x.2.2 := by rw [List.getElem?_map, he]; show some e.2.2 = _; rw [y]
          have q2 : (ents.map fun e => e.2.2)[i0]? = some x.2.2 := by rw [List.getElem?_map, hi0]; rfl
          have := (List.getElem?_inj (lt_of_at q1) A.nd).mp (q1.trans q2.symm)
          subst this
          rw [hg0] at q
          have q : g0 = g1 := Option.some.inj q
          subst q
          exact z e1.symm
        exact ⟨a1, a2, a3, a4, bs, by rw [upd_ne ne]; exact a5, a6⟩
theorem AlikeAt.new (A : AlikeAt P w c G S H h d ents ep gs) (gne : ∀ g ∈ gs, g.2 ≠ []) {k : List (List Nat)} {b l p : Addr} {ep' : Nat} (hk : ∀ x ∈ ents, x.1 ≠ k) (kb : Key2 S k b) (hl : H l = some (.lst [])) (lS : S l = none) {y : Bg} (hy : BgAt c G S h y p) :
    AlikeAt P w c G S (upd (upd H d (dO P w d (ents ++ [(k, b, l)]) ep')) l (.lst [V.ref p])) h d (ents ++ [(k, b, l)]) ep' (ins gs k y) := by
  have ld : l ≠ d := ne_of hl A.dict (by intro z; cases z)
  have ei : ins gs k y = gs ++ [(k, [y])] := by
    unfold ins
    rw [if_neg (fun z => by
      obtain ⟨x, hx, q⟩ := (any_keys A.keys k).mp z
      exact hk x hx q)]
  have nl : ∀ e ∈ ents, e.2.2 ≠ l := fun e he z => by
    obtain ⟨i, hi⟩ := List.getElem?_of_mem he
    obtain ⟨g, hg⟩ := at_lt (show i < gs.length by rw [← A.len]; exact lt_of_at hi)
    obtain ⟨a1, a2, a3, a4, bs, a5, a6⟩ := A.each i e g hi hg
    rw [z, hl] at a5
    have a5 := Option.some.inj a5
    injection a5 with a5
    have : bs = [] := by
      cases bs with
      | nil => rfl
      | cons _ _ => simp at a5
    have h1 := a6.1
    rw [this] at h1
    exact gne g (List.mem_of_getElem? hg) (List.length_eq_zero_iff.mp h1.symm)
  rw [ei]
  refine ⟨?_, A.dS, (A.sub.upd_r A.dS).upd_r lS, by simp [A.len], ?_, fun i e g he hg => ?_⟩
  · rw [upd_ne (Ne.symm ld), upd_same]
  · rw [List.map_append, List.nodup_append]
    refine ⟨A.nd, by simp, fun a ha b' hb' => ?_⟩
    have e : b' = l := by simpa using hb'
    subst e
    obtain ⟨e, he, rfl⟩ := List.mem_map.mp ha
    exact nl e he
  · by_cases hi : i < ents.length
    · rw [List.getElem?_append_left hi] at he
      rw [List.getElem?_append_left (by rw [← A.len]; exact hi)] at hg
      obtain ⟨a1, a2, a3, a4, bs, a5, a6⟩ := A.each i e g he hg
      exact ⟨a1, a2, a3, a4, bs, by rw [upd_ne (nl e (List.mem_of_getElem? he)), upd_ne a4]; exact a5, a6⟩
    · rw [List.getElem?_append_right (by omega)] at he
      rw [List.getElem?_append_right (by rw [← A.len]; omega), ← A.len] at hg
      have h0 : i - ents.length = 0 := by
        have := lt_of_at he
        simp at this
        omega
      rw [h0] at he hg
      have he : (k, b, l) = e := Option.some.inj he
      have hg : (k, [y]) = g := Option.some.inj hg
      subst he hg
      exact ⟨rfl, kb, lS, ld, [p], upd_same, Rows.nil.snoc hy⟩
end
section
variable {P : Program} {w : World} {K : PySem.W.Frag} {mg : Str → Option Value} {base : Heap} {c : Cs}
def sp_longer_by_one (c : Cs) : Sp := fun vs H Q _ => ∃ (lb lj : Addr) (as : List Addr) (G : Hp) (h : Si44.House) (bs : List Bg) (n : Nat), vs = [.ref lb, .ref lj] ∧ H lb = some (.lst (as.map V.ref)) ∧ Rows (BgAt c G H h) bs as ∧ JobsAt c G h.jobs lj ∧ Same G H ∧ Sound h ∧ (∀ b ∈ bs, b.l.length = n) ∧ n ≤ 100 ∧ bs.length * h.jobs.length ≤ 16777216 ∧ bs.length ≤ 16777216 ∧
  ∀ (H' : Hp) (lb' : Addr) (as' : List Addr) (bs' : List Bg) (gs : List (List (List Nat) × List Bg)), Same H H' → H' lb' = some (.lst (as'.map V.ref)) → Rows (BgAt c G H' h) bs' as' → Grp h (nx h bs) gs → bs'.length = gs.length → (∀ (i : Nat) g b, gs[i]? = some g → bs'[i]? = some b → OneOf h g.2 b) → Q (.ref lb') H'
theorem ok_longer_by_one {f : Addr} {fd : FuncData} (F : Fun K "longer_by_one" "longer_by_one" s_longer_by_one f fd) (T : Txt K mg c) (c_Timetable_has_more : MCallee P w K mg base 1 c.cTimetable "has_more" ["self", "number"] (sp_has_more c))
    (c_with_next : Callee P w K mg base 4 "with_next" ["beginning", "number"] (sp_with_next c)) (c_Timetable_ahead : MCallee P w K mg base 1 c.cTimetable "ahead" ["self"] (sp_ahead c))
    (c_as_one : Callee P w K mg base 3 "as_one" ["beginnings"] (sp_as_one c)) : FnOk P w K mg base CX0 5 f fd ["beginnings", "jobs"] (sp_longer_by_one c) := by
  refine F.ok sc_longer_by_one (fun vs H Q E h => ?_) (fun cdv A outer s H vs Q E hr h => ?_)
  · obtain ⟨lb, lj, as, G, h, bs, n, rfl, _⟩ := h
    rfl
  · obtain ⟨lb, lj, as, G, h, bs, n, rfl, hlb, rows, hjs, sG, v, hn, hn1, hz, hz2, k⟩ := h
    have nd := sc_longer_by_one.nd
    obtain ⟨jas, hlj, rj⟩ := hjs
    have hJ := v.jobs_few
    refine ⟨_, (pss_cons (ps_set (i := 2) nd rfl (Or.inl rfl) pe_dnew2)
    (pss_cons (ps_for PassesOwn.never rfl (pi_list (pv 0)) (pg_name (i := 3) nd rfl (Or.inl rfl)) (pss_one (ps_for PassesOwn.never rfl (pi_range1 (by rfl) T.b_range (pa_cons (pe_callB cr_len (by rfl) T.b_len bt_len (pa_cons (pv 1) pa_nil)) pa_nil)) (pg_name (i := 4) nd rfl (Or.inl rfl)) (pss_one (ps_if (pt_val (pe_mt T.cl_Timetable c_Timetable_has_more (hr.mono (by decide)) (pe_fld (pv 3) rfl) (pa_cons (pv 4) pa_nil))) (pss_cons (ps_set (i := 6) nd rfl (Or.inl rfl) (pe_fn c_with_next (hr.mono (by decide)) (pa_cons (pv 3) (pa_cons (pv 4) pa_nil))))
          (pss_one (ps_expr (pe_bm PySem.F.plainAttrs_list PySem.F.slot_list_append PySem.F.type_list_append mt_append (pe_dsetd (hu2_of hr) (pv 2) (pe_mt0 T.cl_Timetable c_Timetable_ahead (hr.mono (by decide)) (pe_fld (pv 6) rfl)) (pe_lst pa_nil) ⟨rfl, rfl, rfl, rfl⟩) (pa_cons (pv 6) pa_nil))))) pss_nil)))))
    (pss_one (ps_ret (pe_lc (g := (gName 5)) (tt := tYes) (te := (tCall _ [] E0 (tCons (tVar 5) tNil))) rfl nd (pi_values2 (pv 2)) (own := [("group", 5)]) (blk_of (by kernel_rfl)) (fun _ _ _ _ _ => pg_name (i := 5) nd rfl (Or.inl rfl)) (fun _ _ _ _ _ => pts_nil) (fun _ _ _ _ _ => (pe_fn c_as_one (hr.mono (by decide)) (pa_cons (pv 5) pa_nil)))))))), ?_⟩
    intro d hd
    have A0 : AlikeAt P w c G H (upd H d (dO P w d [] 0)) h d [] 0 [] := ⟨upd_same, hd, Same.upd hd, rfl, by simp, fun i e g he _ => by simp at he⟩
    refine ⟨_, rfl, lb, rfl, ⟨_, SqL.of (A0.sub _ _ hlb)⟩, for_list (K := K) (a := lb) (xs := as.map V.ref) (fun i σ H' => ∃ (v3 v4 v5 v6 : Option V) (S : Hp) (ents : List Ent) (ep : Nat) (gs : List (List (List Nat) × List Bg)), σ = [some (.ref lb), some (.ref lj), some (.ref d), v3, v4, v5, v6] ∧ Same H S ∧ AlikeAt P w c G S H' h d ents ep gs ∧ Grp h (nx h (bs.take i)) gs)
      ⟨none, none, none, none, H, [], 0, [], rfl, Same.refl _, A0, Grp.nil h⟩ (fun i σ H' _ ⟨_, _, _, _, _, _, _, _, _, sS, A', _⟩ => SqL.of (A'.sub _ _ (sS _ _ hlb))) ?_ ?_⟩
    · rintro i y σ H1 hy ⟨v3, v4, v5, v6, S1, ents1, ep1, gs1, rfl, sS1, A1, G1⟩
      obtain ⟨p, hp, rfl⟩ := map_at hy
      obtain ⟨b, hb, hbp⟩ := rows.at_ hp
      have hi := lt_of_at hb
      have ej : (((jas.map V.ref).length : Nat) : Int).toNat = h.jobs.length := by rw [List.length_map, rj.1]; rfl
      refine ⟨_, rfl, lj, _, rfl, .inl (SqL.of (A1.sub _ _ (sS1 _ _ (sG _ _ hlj)))), _, rfl, by rw [List.length_map, rj.1]; omega, by rw [List.length_map, rj.1]; omega, ?_⟩
      rw [ej]
      refine for_range (lo := 0) (n := h.jobs.length) (fun j σ H' => ∃ (v4 v5 v6 : Option V) (S : Hp) (ents : List Ent) (ep : Nat) (gs : List (List (List Nat) × List Bg)), σ = [some (.ref lb), some (.ref lj), some (.ref d), some (.ref p), v4, v5, v6] ∧ Same H S ∧ AlikeAt P w c G S H' h d ents ep gs ∧ Grp h (nx h (bs.take i) ++ nxp h b j) gs)
        ?_ ?_ ?_
      · exact ⟨_, _, _, S1, ents1, ep1, gs1, rfl, sS1, A1, by rw [nxp_zero, List.append_nil]; exact G1⟩
      · rintro j σ H2 hj ⟨v4, v5, v6, S2, ents2, ep2, gs2, rfl, sS2, A2, G2⟩
        rw [show (0 : Int) + (j : Nat) = ((j : Nat) : Int) by omega]
        have hbp2 := hbp.keep sS2
        obtain ⟨dx, ta, lo, L, x1, x2, x3⟩ := id hbp2
        obtain ⟨dt, lm, lj', l1, l2, l3, l4, eL, nL, t1, t2, t3, t4, t5, sG2, gL, hms, hjs2⟩ := id x2
        obtain ⟨bj, hbj⟩ := at_lt hj
        refine ⟨_, rfl, p, _, dx, _, _, rfl, A2.sub _ _ x1, T.cl_Beginning, T.n_Beginning_timetable, lk_bf1, ta, dt, _, rfl, A2.sub _ _ t1, lk_tfm, _, rfl, ta, dt, lm, lj', l1, l2, l3, l4, ups h b.l, h.jobs, cnt b.l j, j, bj, rfl, A2.sub _ _ t1, A2.sub _ _ t2, ups_get _ hj, hjs2.keep (sG2.trans A2.sub), hbj, _, rfl, ite2 (fun q => ?_) (fun q => ?_)⟩
        · have q : cnt b.l j < bj.steps.length := of_decide_eq_true q
          obtain ⟨st, hst⟩ := at_lt q
          obtain ⟨m, hm⟩ := at_lt (v.machine hbj hst)
          have hput := put_P v hbj hst hm
          have hbl := hn b (List.mem_of_getElem? hb)
          have hfew := so_far (h := h) (b := b) hi hj
          refine ⟨_, rfl, _, rfl, p, G, S2, h, b, j, bj, st, m, rfl, A2.sub, hbp2, v, hbj, hst, hm, by omega, fun H3 p' s3 hx => ?_⟩
          have A3 := A2.grow s3
          generalize hS3 : grow S2 H2 H3 = S3 at A3 hx
          have sS3 : Same H S3 := by rw [← hS3]; exact sS2.trans grow_l
          obtain ⟨dx', ta', lo', L', y1, y2, y3⟩ := id hx
          obtain ⟨dt', lm', lj'', m1, m2, m3, m4, eL', nL', u1, u2, u3, u4, u5, sG3, gL', hms3, hjs3⟩ := id y2
          refine ⟨_, rfl, d, rfl, ⟨_, _, A3.dict⟩, ?_⟩
          refine ⟨_, rfl, p', _, dx', _, _, rfl, A3.sub _ _ y1, T.cl_Beginning, T.n_Beginning_timetable, lk_bf1, ta', dt', _, rfl, A3.sub _ _ u1, lk_tfa, ta', G, h, _, L', rfl, y2.keep A3.sub, fun H4 kb s4 hk => ?_⟩
          have A4 := A3.grow s4
          have hk4 : Key2 (grow S3 H3 H4) (ahead h (b.l ++ [doneP m b.l j bj st])) kb := hk.keep fun z ys q => uni_r (A3.sub.trans s4) newOf_sub _ _ q
          have hx4 := hx.keep (grow_l (S := S3) (H := H3) (H' := H4))
          have sS4 : Same H (grow S3 H3 H4) := sS3.trans grow_l
          generalize grow S3 H3 H4 = S4 at A4 hk4 hx4 sS4
          refine ⟨Nat.zero_le _, fun l nl => ?_⟩
          have s5 := Same.upd (o := .lst []) nl
          have lS : S4 l = none := A4.sub.free nl
          have A5 : AlikeAt P w c G S4 (upd H4 l (.lst [])) h d ents2 ep2 gs2 := ⟨s5 _ _ A4.dict, A4.dS, A4.sub.trans s5, A4.len, A4.nd, fun i e g he hg => let ⟨e1, e2, e3, e4, as, e5, e6⟩ := A4.each i e g he hg; ⟨e1, e2, e3, e4, as, s5 _ _ e5, e6⟩⟩
          have nk := G2.nd
          have few := G2.few
          refine ⟨ents2, ep2, ahead h (b.l ++ [doneP m b.l j bj st]), kb, l, A5.dict, rfl, rfl, hk4.keep (fun z ys q => A5.sub _ _ q), A5.key2, by rw [A5.keys]; exact nk, ?_, fun x hx' ex => ?_, fun hno ep' => ?_⟩
          · rw [A5.len, sizeLine_eq]; omega
          · obtain ⟨gas, g0, hg0, hl0, hgl, A6⟩ := A5.there nk hx' hx4
            refine ⟨.inl ⟨rfl, _, SqL.of hgl⟩, _, rfl, x.2.2, _, _, rfl, rfl, hgl, ?_, ?_⟩
            · have := few.2 g0 hg0
              rw [List.length_map, hl0, sizeLine_eq]
              omega
            · refine ⟨_, _, _, S4, ents2, ep2, _, rfl, sS4, A6, ?_⟩
              rw [nxp_some hput, ← List.append_assoc, ex]
              exact G2.snoc ⟨b.l ++ [doneP m b.l j bj st], b.ways⟩
          · have A6 := A5.new (ep' := ep') G2.ne hno hk4 upd_same lS hx4
            have hl6 : upd (upd H4 l (.lst [])) d (dO P w d (ents2 ++ [(ahead h (b.l ++ [doneP m b.l j bj st]), kb, l)]) ep') l = some (.lst []) := by
              rw [upd_ne (ne_of upd_same A5.dict (by intro z; cases z))]; exact upd_same
            refine ⟨.inl ⟨rfl, _, SqL.of hl6⟩, _, rfl, l, _, _, rfl, rfl, hl6, (by show 0 < sizeLine; decide), ?_⟩
            refine ⟨_, _, _, S4, _, ep', _, rfl, sS4, A6, ?_⟩
            rw [nxp_some hput, ← List.append_assoc]
            exact G2.snoc ⟨b.l ++ [doneP m b.l j bj st], b.ways⟩
        · have q : ¬ cnt b.l j < bj.steps.length := fun z => q (decide_eq_true z)
          have hput : Si44.put h b.l j = none := by
            rcases put_cases v b.l hj with ⟨_, _, _, hp'⟩ | ⟨b', s', m', hb', hs', _⟩
            · exact hp'
            · rw [hbj] at hb'
              have hb' : bj = b' := Option.some.inj hb'
              subst hb'
              exact absurd (lt_of_at hs') q
          refine ⟨_, _, _, S2, ents2, ep2, gs2, rfl, sS2, A2, ?_⟩
          rw [nxp_none hput]
          exact G2
      · rintro σ H2 ⟨v4, v5, v6, S2, ents2, ep2, gs2, rfl, sS2, A2, G2⟩
        refine ⟨_, _, _, _, S2, ents2, ep2, gs2, rfl, sS2, A2, ?_⟩
        rw [nx_take hb, ← nxp_all]
        exact G2
    · rintro σ H1 ⟨v3, v4, v5, v6, S1, ents1, ep1, gs1, rfl, sS1, A1, G1⟩
      rw [List.length_map, rows.1, List.take_length] at G1
      have hfew := nx_few h bs
      have few := G1.few
      refine ⟨_, rfl, d, ents1, ep1, rfl, A1.dict, fun D hD => cm_vals2 hD A1.dict (by rw [A1.len, sizeLine_eq]; omega) (fun i y H' => ∃ g b p, gs1[i]? = some g ∧ y = .ref p ∧ OneOf h g.2 b ∧ BgAt c G H' h b p) (fun i y Ha Hb sab ⟨g, b, p, q1, q2, q3, q4⟩ => ⟨g, b, p, q1, q2, q3, q4.keep sab⟩) (fun i x H' hx hs ⟨oD, hoD⟩ N hN => ?_) (fun ys H' hy hlen hs hR => ?_)⟩
      · obtain ⟨g, hg⟩ := at_lt (show i < gs1.length by rw [← A1.len]; exact lt_of_at hx)
        obtain ⟨e1, e2, e3, e4, gas, e5, e6⟩ := A1.each i x g hx hg
        have gm := List.mem_of_getElem? hg
        refine ⟨rfl, _, rfl, x.2.2, gas, G, S1, h, g.2, n + 1, rfl, hs _ _ e5, A1.sub.trans hs, e6, G1.ne g gm, fun b' hb' => ?_, by have := few.2 g gm; rw [sizeLine_eq]; omega, fun H'' p z s2 ho hz' => ?_⟩
        · obtain ⟨b0, hb0, j0, hj0, hput, _⟩ := nx_mem (G1.of g gm b' hb')
          rcases put_cases v b0.l hj0 with ⟨_, _, _, hp'⟩ | ⟨b1, s', m', hb1, hs', hm', hp'⟩
          · rw [hput] at hp'; cases hp'
          · rw [hput] at hp'
            have hp' := Option.some.inj hp'
            rw [hp', List.length_append, hn b0 hb0]
            rfl
        · refine hN _ _ s2 ⟨g, z, p, hg, rfl, ho, hz'.keep fun b o e => ?_⟩
          have bD : b ≠ D := fun q => by
            subst q
            rw [grow_none (A1.sub.free hD) hoD] at e
            cases e
          rw [del_ne bD]
          exact grow_sub (A1.sub.trans hs) s2 _ _ e
      · obtain ⟨bps, hbps⟩ : ∃ bps : List (Bg × Addr), bps.length = ys.length ∧ ∀ (i : Nat) q, bps[i]? = some q → ∃ g, gs1[i]? = some g ∧ ys[i]? = some (.ref q.2) ∧ OneOf h g.2 q.1 ∧ BgAt c G H' h q.1 q.2 := by
          have key : ∀ m, m ≤ ys.length → ∃ bps : List (Bg × Addr), bps.length = m ∧ ∀ (i : Nat) q, bps[i]? = some q → ∃ g, gs1[i]? = some g ∧ ys[i]? = some (.ref q.2) ∧ OneOf h g.2 q.1 ∧ BgAt c G H' h q.1 q.2 := by
            intro m
            induction m with
            | zero => intro _; exact ⟨[], rfl, fun i q e => by simp at e⟩
            | succ m ih =>
              intro hm
              obtain ⟨bps, h1, h2⟩ := ih (by omega)
              obtain ⟨y, hy'⟩ := at_lt (show m < ys.length by omega)
              obtain ⟨g, b, p, q1, q2, q3, q4⟩ := hR m y hy'
              refine ⟨bps ++ [(b, p)], by simp [h1], fun i q e => ?_⟩
              by_cases hi : i < bps.length
              · rw [List.getElem?_append_left hi] at e
                exact h2 i q e
              · rw [List.getElem?_append_right (by omega)] at e
                have h0 : i - bps.length = 0 := by
                  have := lt_of_at e
                  simp at this
                  omega
                rw [h0] at e
                have e : (b, p) = q := Option.some.inj e
                subst e
                have : i = m := by omega
                subst this
                exact ⟨g, q1, by rw [hy', q2], q3, q4.keep Same.of_del⟩
          exact key ys.length (Nat.le_refl _)
        obtain ⟨hbl, hbps⟩ := hbps
        have ey : ys = (bps.map fun q => q.2).map V.ref := by
          apply List.ext_getElem?
          intro i
          rw [List.getElem?_map, List.getElem?_map]
          cases q : bps[i]? with
          | none =>
            have := List.getElem?_eq_none_iff.mp q
            rw [List.getElem?_eq_none (by omega)]
            rfl
          | some z =>
            obtain ⟨g, _, e, _⟩ := hbps i z q
            rw [e]
            rfl
        rw [ey] at hy
        refine k H' D (bps.map fun q => q.2) (bps.map fun q => q.1) gs1 (sS1.trans (A1.sub.trans hs)) hy ⟨by simp, fun i b e => ?_⟩ G1 (by rw [List.length_map, hbl, hlen, A1.len]) (fun i g b hg e => ?_)
        · rw [List.getElem?_map] at e
          cases q : bps[i]? with
          | none => rw [q] at e; cases e
          | some z =>
            rw [q] at e
            have e : z.1 = b := Option.some.inj e
            subst e
            obtain ⟨g, _, _, _, r⟩ := hbps i z q
            exact ⟨z.2, by rw [List.getElem?_map, q]; rfl, r⟩
        · rw [List.getElem?_map] at e
          cases q : bps[i]? with
          | none => rw [q] at e; cases e
          | some z =>
            rw [q] at e
            have e : z.1 = b := Option.some.inj e
            subst e
            obtain ⟨g', e1, _, r, _⟩ := hbps i z q
            rw [hg] at e1
            have e1 : g = g' := Option.some.inj e1
            subst e1
            exact r
def sp_best_order (c : Cs) : Sp := fun vs H Q _ => ∃ (lm lj : Addr) (h : Si44.House), vs = [.ref lm, .ref lj] ∧ MachsAt c H h.machines lm ∧ JobsAt c H h.jobs lj ∧ Sound h ∧
  ∀ (H' : Hp) (p : Addr) (b : Bg) (z : Tri), Same H H' → BgAt c H H' h b p → Si44.best h = some z → (spentOf h b.l, endedOf h b.l, jobsOf b.l) = z → b.ways = cm z.1 (trip h (Si44.total (lens h)) []) → z ∈ trip h (Si44.total (lens h)) [] → (∀ y ∈ trip h (Si44.total (lens h)) [], rkLt y z = false) → Q (.ref p) H'
theorem ok_best_order {f : Addr} {fd : FuncData} (F : Fun K "best_order" "best_order" s_best_order f fd) (T : Txt K mg c) (c_Beginning : KCallee P w K mg base 1 "Beginning" c.cBeginning ["self", "timetable", "order", "spent", "ended", "ways"] (spRec c.cBeginning ["timetable", "order", "spent", "ended", "ways"]))
    (c_new_timetable : Callee P w K mg base 3 "new_timetable" ["machines", "jobs"] (sp_new_timetable c)) (c_steps_together : Callee P w K mg base 1 "steps_together" ["jobs"] (sp_steps_together c))
    (c_longer_by_one : Callee P w K mg base 5 "longer_by_one" ["beginnings", "jobs"] (sp_longer_by_one c)) (c_as_one : Callee P w K mg base 3 "as_one" ["beginnings"] (sp_as_one c)) :
    FnOk P w K mg base CX0 6 f fd ["machines", "jobs"] (sp_best_order c) := by
  refine F.ok sc_best_order (fun vs H Q E h => ?_) (fun cdv A outer s H vs Q E hr h => ?_)
  · obtain ⟨lm, lj, h, rfl, _⟩ := h
    rfl
  · obtain ⟨lm, lj, h, rfl, hms, hjs, v, k⟩ := h
    have nd := sc_best_order.nd
    have hJ := v.jobs_few
    have hN : Si44.total (lens h) ≤ 8 := v.steps
    obtain ⟨z, hz1, hz2, hz3⟩ := best_is v
    refine ⟨_, (pss_cons (ps_set (i := 2) nd rfl (Or.inl rfl) (pe_lst (pa_cons (pe_mk c_Beginning (hr.mono (by decide)) (pa_cons (pe_fn c_new_timetable (hr.mono (by decide)) (pa_cons (pv 0) (pa_cons (pv 1) pa_nil))) (pa_cons (pe_lst pa_nil) (pa_cons pe_int (pa_cons pe_int (pa_cons pe_int pa_nil)))))) pa_nil)))
    (pss_cons (ps_for PassesOwn.never rfl (pi_range1 (by rfl) T.b_range (pa_cons (pe_fn c_steps_together (hr.mono (by decide)) (pa_cons (pv 1) pa_nil)) pa_nil)) (pg_name (i := 3) nd rfl (Or.inl rfl)) (pss_one (ps_set (i := 2) nd rfl (Or.inl rfl) (pe_fn c_longer_by_one (hr.mono (by decide)) (pa_cons (pv 2) (pa_cons (pv 1) pa_nil))))))
    (pss_one (ps_ret (pe_fn c_as_one (hr.mono (by decide)) (pa_cons (pv 2) pa_nil)))))), ?_⟩
    refine ⟨_, rfl, _, rfl, lm, lj, h, rfl, hms, hjs, v, fun H1 ta L tt fL nta => ?_⟩
    have s1 : Same H H1 := tt.choose_spec.choose_spec.choose_spec.choose_spec.choose_spec.choose_spec.choose_spec.2.2.2.2.2.2.2.1
    refine ⟨Nat.zero_le _, fun lo nlo => ?_⟩
    have s2 := Same.upd (o := .lst []) nlo
    intro x dx hx hdx hne
    refine ⟨x, dx, [.ref ta, .ref lo, vn 0, vn 0, vn 1], rfl, rfl, upd_same, rfl, ?_⟩
    have s3 := made (C := c.cBeginning) (fs := bf ta lo 0 0 1) hx hdx
    refine ⟨(by show 1 ≤ sizeLine; decide), fun lb nlb => ?_⟩
    have s4 := Same.upd (o := .lst [V.ref x]) nlb
    obtain ⟨H4, hH4⟩ : ∃ H4, H4 = upd (upd (upd (upd (upd H1 lo (.lst [])) dx (.own x)) x (.ins c.cBeginning dx [])) x (.ins c.cBeginning dx (bf ta lo 0 0 1))) lb (.lst [V.ref x]) := ⟨_, rfl⟩
    have b0 : BgAt c H H4 h ⟨[], 1⟩ x := by
      rw [hH4]
      refine ⟨dx, ta, lo, L, ?_, tt.keep ((s2.trans s3).trans s4), ((s3.trans s4) _ _ upd_same)⟩
      rw [spent_nil v, ended_nil v]
      exact s4 _ _ upd_same
    have sA : Same H H4 := by rw [hH4]; exact ((s1.trans s2).trans s3).trans s4
    have e4 : H4 lb = some (.lst [V.ref x]) := by rw [hH4]; exact upd_same
    refine (show _ from ?_ : tSeq _ _ _ _ (upd (upd (upd (upd (upd H1 lo (.lst [])) dx (.own x)) x (.ins c.cBeginning dx [])) x (.ins c.cBeginning dx (bf ta lo 0 0 1))) lb (.lst [V.ref x])))
    rw [← hH4]
    refine ⟨_, rfl, lj, h.jobs, rfl, hjs.keep sA, by omega, fun H5 s5 => ⟨_, rfl, ?_, ?_, for_range (lo := 0) (n := Si44.total (lens h)) (fun i σ H' => ∃ (v3 : Option V) (lb' : Addr) (as : List Addr) (bs : List Bg), σ = [some (.ref lm), some (.ref lj), some (.ref lb'), v3] ∧ Same H H' ∧ H' lb' = some (.lst (as.map V.ref)) ∧ Rows (BgAt c H H' h) bs as ∧ Begs h z i (Si44.total (lens h) - i) bs ∧ bs.length ≤ h.jobs.length ^ i)
      ?_ ?_ ?_⟩⟩
    · unfold lens at hN; omega
    · unfold lens at hN; omega
    · refine ⟨none, lb, [x], [⟨[], 1⟩], rfl, sA.trans s5, s5 _ _ e4, Rows.nil.snoc (b0.keep s5), Begs.start hz2, by simp⟩
    · rintro i σ H6 hi ⟨v3, lb', as, bs, rfl, s6, hlb, rows, B, few⟩
      obtain ⟨p1, p2⟩ := pow_few hJ hN hi few
      have p3 : bs.length ≤ 16777216 := by
        have a : h.jobs.length ^ i ≤ 8 ^ i := Nat.pow_le_pow_left hJ _
        have b : 8 ^ i ≤ 8 ^ 8 := Nat.pow_le_pow_right (by decide) (by omega)
        have c : 8 ^ 8 = 16777216 := by decide
        omega
      refine ⟨_, rfl, _, rfl, lb', lj, as, H, h, bs, i, rfl, hlb, rows, hjs, s6, v, B.len, by omega, p1, p3, fun H7 lb2 as2 bs2 gs s7 hlb2 rows2 G2 hlen one => ?_⟩
      refine ⟨_, lb2, as2, bs2, rfl, s6.trans s7, hlb2, rows2, ?_, ?_⟩
      · have e : Si44.total (lens h) - i = (Si44.total (lens h) - (i + 1)) + 1 := by omega
        rw [e] at B
        exact Begs.merge v hz3 (B.next v) G2 hlen one
      · have q1 := G2.few.1
        have q2 := nx_few h bs
        omega
    · rintro σ H6 ⟨v3, lb', as, bs, rfl, s6, hlb, rows, B, few⟩
      rw [Nat.sub_self] at B
      refine ⟨_, rfl, lb', as, H, H6, h, bs, Si44.total (lens h), rfl, hlb, Same.refl _, rows, ?_, B.len, ?_, fun H7 p b s7 o hb => ?_⟩
      · obtain ⟨b, hb, _⟩ := B.best
        exact fun q => by rw [q] at hb; cases hb
      · have a : h.jobs.length ^ Si44.total (lens h) ≤ 8 ^ Si44.total (lens h) := Nat.pow_le_pow_left hJ _
        have b : 8 ^ Si44.total (lens h) ≤ 8 ^ 8 := Nat.pow_le_pow_right (by decide) hN
        have c : 8 ^ 8 = 16777216 := by decide
        rw [sizeLine_eq]
        omega
      · rw [grow_all s7] at hb
        obtain ⟨d1, d2⟩ := B.done hz3 o
        exact k H7 p b z (s6.trans s7) hb hz1 d1 d2 hz2 hz3
theorem hm_step {L M c : Nat} (k : Nat) : M * bin (L + k) k * (L + k + 1) / (k + 1) = M * bin (L + (k + 1)) (k + 1) := by
  have e := bin_step (L + k) k
  rw [Nat.mul_assoc, Nat.mul_comm (bin (L + k) k), e, ← Nat.mul_assoc, Nat.mul_div_cancel _ (by omega)]
  rfl
theorem bin_zero (n : Nat) : bin n 0 = 1 := by cases n <;> rfl
theorem hm_append (a b : List Nat) : ∀ L M : Nat, hmany L M (a ++ b) = hmany (L + Si44.total a) (hmany L M a) b := by
  induction a with
  | nil => intro L M; rfl
  | cons x a ih =>
    intro L M
    show hmany (L + x) (M * bin (L + x) x) (a ++ b) = _
    rw [ih, total_cons, Nat.add_assoc]
    rfl
def sp_how_many_orders (c : Cs) : Sp := fun vs H Q _ => ∃ (lj : Addr) (h : Si44.House), vs = [.ref lj] ∧ JobsAt c H h.jobs lj ∧ Sound h ∧ Q (vn (hmany 0 1 (lens h))) H
theorem ok_how_many_orders {f : Addr} {fd : FuncData} (F : Fun K "how_many_orders" "how_many_orders" s_how_many_orders f fd) (T : Txt K mg c) : FnOk P w K mg base CX0 1 f fd ["jobs"] (sp_how_many_orders c) := by
  refine F.ok sc_how_many_orders (fun vs H Q E h => ?_) (fun cdv A outer s H vs Q E hr h => ?_)
  · obtain ⟨lj, h, rfl, _⟩ := h
    rfl
  · obtain ⟨lj, h, rfl, ⟨jas, hlj, rj⟩, v, k⟩ := h
    have nd := sc_how_many_orders.nd
    have hN : Si44.total (lens h) ≤ 8 := v.steps
    refine ⟨_, (pss_cons (ps_set (i := 1) nd rfl (Or.inl rfl) pe_int)
    (pss_cons (ps_set (i := 2) nd rfl (Or.inl rfl) pe_int)
    (pss_cons (ps_for PassesOwn.never rfl (pi_list (pv 0)) (pg_name (i := 3) nd rfl (Or.inl rfl)) (pss_one (ps_for PassesOwn.never rfl (pi_range2 (by rfl) T.b_range (pa_cons pe_int (pa_cons (pe_op o_add (pe_callB cr_len (by rfl) T.b_len bt_len (pa_cons (pe_fld (pv 3) rfl) pa_nil)) pe_int) pa_nil))) (pg_name (i := 4) nd rfl (Or.inl rfl)) (pss_cons (ps_set (i := 2) nd rfl (Or.inl rfl) (pe_op o_add (pv 2) pe_int))
        (pss_one (ps_set (i := 1) nd rfl (Or.inl rfl) (pe_op op_fdiv (pe_op o_mul (pv 1) (pv 2)) (pv 4))))))))
    (pss_one (ps_ret (pv 1)))))), ?_⟩
    refine ⟨_, rfl, lj, rfl, ⟨_, SqL.of hlj⟩, for_list (K := K) (a := lj) (xs := jas.map V.ref) (fun i σ H' => ∃ (v3 v4 : Option V), σ = [some (.ref lj), some (vn (hmany 0 1 ((lens h).take i))), some (vn (Si44.total ((lens h).take i))), v3, v4] ∧ H' = H)
      ⟨none, none, rfl, rfl⟩ (fun i σ H' _ ⟨_, _, _, e⟩ => by rw [e]; exact SqL.of hlj) ?_ ?_⟩
    · rintro i y σ H' hy ⟨v3, v4, rfl, rfl⟩
      obtain ⟨pj, hpj, rfl⟩ := map_at hy
      obtain ⟨b, hb, dj, ls, sas, j1, j2, j3, j4⟩ := rj.at_ hpj
      have hl : (lens h)[i]? = some b.steps.length := by unfold lens; rw [List.getElem?_map, hb]; rfl
      have hle : Si44.total ((lens h).take i) + b.steps.length ≤ 8 := by
        have e : Si44.total (lens h) = Si44.total ((lens h).take i) + (b.steps.length + Si44.total ((lens h).drop (i + 1))) := by
          conv => lhs; rw [← List.take_append_drop i (lens h), drop_at hl, total_append, total_cons]
        omega
      have ej : ((((sas.map V.ref).length : Nat) : Int) + 1 - 1).toNat = b.steps.length := by rw [List.length_map, j3.1]; omega
      refine ⟨_, rfl, pj, _, dj, _, _, rfl, j1, T.cl_Job, T.n_Job_steps, lk_jf4, ls, _, rfl, .inl (SqL.of j2), _, _, rfl, rfl, 1, _, rfl, ⟨by decide, by decide, by rw [List.length_map, j3.1]; omega, by rw [List.length_map, j3.1]; omega⟩, ?_⟩
      rw [ej]
      refine for_range (lo := 1) (n := b.steps.length) (fun k σ H2 => ∃ (v4 : Option V), σ = [some (.ref lj), some (vn (hmany 0 1 ((lens h).take i) * bin (Si44.total ((lens h).take i) + k) k)), some (vn (Si44.total ((lens h).take i) + k)), some (.ref pj), v4] ∧ H2 = H')
        ?_ ?_ ?_
      · refine ⟨v4, ?_, rfl⟩
        rw [bin_zero, Nat.mul_one, Nat.add_zero]
        rfl
      · rintro k' σ H'' hk' ⟨v4, rfl, rfl⟩
        refine ⟨_, rfl, _, _, rfl, rfl, ?_⟩
        dsimp only
        refine ⟨_, rfl, _, rfl, _, _, rfl, rfl, .inr ⟨by omega, by omega⟩, _, rfl, _, _, rfl, rfl, ⟨by omega, by omega⟩, ?_⟩
        dsimp only
        refine ⟨some (V.int (1 + ((k' : Nat) : Int))), ?_, rfl⟩
        have e1 : ((hmany 0 1 ((lens h).take i) * bin (Si44.total ((lens h).take i) + k') k' : Nat) : Int) * (((Si44.total ((lens h).take i) + k' : Nat) : Int) + 1) / (1 + ((k' : Nat) : Int)) = ((hmany 0 1 ((lens h).take i) * bin (Si44.total ((lens h).take i) + (k' + 1)) (k' + 1) : Nat) : Int) := by
          rw [← hm_step (c := 0) k']
          push_cast
          congr 1
          omega
        rw [e1]
        rfl
      · rintro σ H'' ⟨v4, rfl, rfl⟩
        refine ⟨some (.ref pj), v4, ?_, rfl⟩
        rw [take_at hl, hm_append, total_append, Nat.zero_add]
        rfl
    · rintro σ H' ⟨v3, v4, rfl, rfl⟩
      have e : (lens h).take (jas.map V.ref).length = lens h := by
        rw [List.length_map, rj.1]
        exact List.take_of_length_le (by unfold lens; rw [List.length_map]; exact Nat.le_refl _)
      rw [e]
      exact ⟨_, rfl, k⟩
end
end Sj
end
section
set_option Elab.async false
set_option linter.all false
set_option maxRecDepth 100000
set_option maxHeartbeats 2000000
namespace Sj
open PySem PySem.Spec PyProof.Rows L2
def IsLast (ns : List Nat) (x k : Nat) : Prop := ns[k]? = some x ∧ ∀ k', ns[k']? = some x → k' ≤ k
section
variable {P : Program} {w : World} {K : PySem.W.Frag} {mg : Str → Option Value} {base : Heap} {c : Cs}
def sp_last_place : Sp := fun vs H Q _ => ∃ (l : Addr) (ns : List Nat) (x : Nat), vs = [.ref l, vn x] ∧ H l = some (.lst (ns.map vn)) ∧ x ∈ ns ∧ ns.length ≤ 1000 ∧ ∀ (H' : Hp) (k : Nat), Same H H' → IsLast ns x k → Q (vn k) H'
theorem ok_last_place {f : Addr} {fd : FuncData} (F : Fun K "last_place" "last_place" s_last_place f fd) (T : Txt K mg c) : FnOk P w K mg base CX0 1 f fd ["numbers", "number"] sp_last_place := by
  refine F.ok sc_last_place (fun vs H Q E h => ?_) (fun cdv A outer s H vs Q E hr h => ?_)
  · obtain ⟨l, ns, x, rfl, _⟩ := h
    rfl
  · obtain ⟨l, ns, x, rfl, hl, hx, hz, k⟩ := h
    have nd := sc_last_place.nd
    refine ⟨_, (pss_one (ps_ret (pe_callB (cr_max rfl) (by rfl) T.b_max bt_max (pa_cons (pe_lc (g := (gTup K 2 (gCons (gName 2) (gCons (gName 3) gNil)))) (tt := (tTest (tOp rEq (tVar 3) (tVar 1)))) (te := (tVar 2)) rfl nd (pi_enum (by rfl) T.b_enumerate (pa_cons (pv 0) pa_nil)) (own := [("place", 2), ("one", 3)]) (blk_of (by kernel_rfl)) (fun _ _ _ _ _ => pg_tup rfl (pgs_cons (pg_name (i := 2) nd rfl (Or.inl rfl)) (pgs_cons (pg_name (i := 3) nd rfl (Or.inl rfl)) pgs_nil))) (fun _ _ _ _ _ => (pts_one (pt_cmpR op_eq (pv 3) (pv 1) (nomark _)))) (fun _ _ _ _ _ => (pv 2))) pa_nil)))), ?_⟩
    refine ⟨_, rfl, l, _, rfl, SqL.of hl, fun D hD => cmf_enum hD (SqL.of hl) (by rw [List.length_map]; exact le_line hz) (fun i => decide (ns.getD i 0 = x)) (fun i => vn i) (fun i y T' H' hy hT hs N Nb yes no => ?_) fun H' q s1 => ?_⟩
    · obtain ⟨n, hn, rfl⟩ := map_at hy
      rw [getD_of hn] at yes no
      refine ⟨T', _, rfl, SqT.of hT, rfl, _, _, rfl, _, _, rfl, rfl, rfl, ?_⟩
      refine ⟨_, rfl, _, rfl, rfl, _, rfl, ite2 (fun q => ?_) (fun q => ?_)⟩
      · have z : n = x := by have q := of_decide_eq_true q; injection q with q; omega
        exact ⟨_, rfl, yes (decide_eq_true z)⟩
      · exact no (decide_eq_false fun z => q (decide_eq_true (by rw [z])))
    · rw [List.length_map] at q
      have ez : (((List.range ns.length).filter fun i => decide (ns.getD i 0 = x)).map fun i => vn i) = (((List.range ns.length).filter fun i => decide (ns.getD i 0 = x)).map fun (n : Nat) => (n : Int)).map V.int := by
        rw [List.map_map]
        rfl
      rw [ez] at q
      have mem : ∀ i, i ∈ ((List.range ns.length).filter fun i => decide (ns.getD i 0 = x)) ↔ ns[i]? = some x := by
        intro i
        rw [List.mem_filter, List.mem_range]
        constructor
        · rintro ⟨h1, h2⟩
          obtain ⟨n, hn⟩ := at_lt h1
          have h2 := of_decide_eq_true h2
          rw [getD_of hn] at h2
          rw [hn, h2]
        · intro h1
          exact ⟨lt_of_at h1, decide_eq_true (getD_of h1)⟩
      refine ⟨D, _, rfl, SqL.of q, ?_, fun m hm hmax => ?_⟩
      · obtain ⟨i, hi⟩ := List.getElem?_of_mem hx
        rw [List.length_map]
        exact List.length_pos_of_mem ((mem i).mpr hi)
      · obtain ⟨i, hi, rfl⟩ := List.mem_map.mp hm
        refine k H' i s1 ⟨(mem i).mp hi, fun k' hk' => ?_⟩
        have := hmax ((k' : Nat) : Int) (List.mem_map.mpr ⟨k', (mem k').mpr hk', rfl⟩)
        omega
def sp_place_of_last_step (c : Cs) : Sp := fun vs H Q _ => ∃ (pl : Addr) (as : List Addr) (xs : List (Nat × Si44.Done)) (x : Nat), vs = [.ref pl, vn x] ∧ H pl = some (.lst (as.map V.ref)) ∧ Rows (PlacedAt c H) xs as ∧ x ∈ xs.map (fun y => y.2.job) ∧ xs.length ≤ 1000 ∧ ∀ (H' : Hp) (k : Nat), Same H H' → IsLast (xs.map fun y => y.2.job) x k → Q (vn k) H'
theorem ok_place_of_last_step {f : Addr} {fd : FuncData} (F : Fun K "place_of_last_step" "place_of_last_step" s_place_of_last_step f fd) (T : Txt K mg c) (c_last_place : Callee P w K mg base 1 "last_place" ["numbers", "number"] sp_last_place) :
    FnOk P w K mg base CX0 2 f fd ["placed", "number"] (sp_place_of_last_step c) := by
  refine F.ok sc_place_of_last_step (fun vs H Q E h => ?_) (fun cdv A outer s H vs Q E hr h => ?_)
  · obtain ⟨pl, as, xs, x, rfl, _⟩ := h
    rfl
  · obtain ⟨pl, as, xs, x, rfl, hpl, rows, hx, hz, k⟩ := h
    have nd := sc_place_of_last_step.nd
    refine ⟨_, (pss_one (ps_ret (pe_fn c_last_place (hr.mono (by decide)) (pa_cons (pe_lc (g := (gName 2)) (tt := tYes) (te := (tFld K (tVar 2) "job")) rfl nd (pi_list (pv 0)) (own := [("step", 2)]) (blk_of (by kernel_rfl)) (fun _ _ _ _ _ => pg_name (i := 2) nd rfl (Or.inl rfl)) (fun _ _ _ _ _ => pts_nil) (fun _ _ _ _ _ => (pe_fld (pv 2) rfl))) (pa_cons (pv 1) pa_nil))))), ?_⟩
    refine ⟨_, rfl, pl, rfl, ⟨_, SqL.of hpl⟩, fun D hD => cm_vals hD (SqL.of hpl) (by rw [List.length_map, rows.1]; exact le_line hz) ((xs.map fun y => y.2.job).map vn) (by rw [List.length_map, List.length_map, List.length_map, rows.1]) (fun i y z H' N hy hz' hs hN => ?_) fun H1 q s1 => ?_⟩
    · obtain ⟨p, hp, rfl⟩ := map_at hy
      obtain ⟨d, hd, dp, hdp⟩ := rows.at_ hp
      rw [List.map_map, List.getElem?_map, hd] at hz'
      cases hz'
      exact ⟨rfl, _, rfl, p, _, dp, _, _, rfl, hs _ _ hdp, T.cl_Placed, T.n_Placed_job, lk_pf1, hN⟩
    · exact ⟨_, rfl, D, _, x, rfl, q, hx, by rw [List.length_map]; exact hz, fun H2 k' s2 il => k H2 k' (s1.trans s2) il⟩
def sp_place_before (c : Cs) : Sp := fun vs H Q _ => ∃ (pl : Addr) (as : List Addr) (xs : List (Nat × Si44.Done)) (i : Nat) (d : Nat × Si44.Done), vs = [.ref pl, vn i] ∧ H pl = some (.lst (as.map V.ref)) ∧ Rows (PlacedAt c H) xs as ∧ xs[i]? = some d ∧ d.2.machine ∈ (xs.take i).map (fun y => y.2.machine) ∧ xs.length ≤ 1000 ∧ ∀ (H' : Hp) (k : Nat), Same H H' → IsLast ((xs.take i).map fun y => y.2.machine) d.2.machine k → Q (vn k) H'
theorem Rows.take {α : Type} {R : α → Addr → Prop} {xs : List α} {as : List Addr} (h : Rows R xs as) (i : Nat) : Rows R (xs.take i) (as.take i) := by
  refine ⟨by rw [List.length_take, List.length_take, h.1], fun k x e => ?_⟩
  rw [List.getElem?_take] at e ⊢
  by_cases q : k < i
  · rw [if_pos q] at e ⊢
    exact h.2 k x e
  · rw [if_neg q] at e
    cases e
theorem ok_place_before {f : Addr} {fd : FuncData} (F : Fun K "place_before_on_machine" "place_before_on_machine" s_place_before_on_machine f fd) (T : Txt K mg c) (c_last_place : Callee P w K mg base 1 "last_place" ["numbers", "number"] sp_last_place) :
    FnOk P w K mg base CX0 2 f fd ["placed", "place"] (sp_place_before c) := by
  refine F.ok sc_place_before_on_machine (fun vs H Q E h => ?_) (fun cdv A outer s H vs Q E hr h => ?_)
  · obtain ⟨pl, as, xs, i, d, rfl, _⟩ := h
    rfl
  · obtain ⟨pl, as, xs, i, d, rfl, hpl, rows, hd, hx, hz, k⟩ := h
    have nd := sc_place_before_on_machine.nd
    obtain ⟨pd, hpd, ddx, hdd⟩ := rows.2 i d hd
    refine ⟨_, (pss_one (ps_ret (pe_fn c_last_place (hr.mono (by decide)) (pa_cons (pe_lc (g := (gName 2)) (tt := tYes) (te := (tFld K (tVar 2) "machine")) rfl nd (pi_list (pe_slice sl_list (pv 0) po_none (po_some (pv 1)))) (own := [("step", 2)]) (blk_of (by kernel_rfl)) (fun _ _ _ _ _ => pg_name (i := 2) nd rfl (Or.inl rfl)) (fun _ _ _ _ _ => pts_nil) (fun _ _ _ _ _ => (pe_fld (pv 2) rfl))) (pa_cons (pe_fld (pe_ix ix_list (pv 0) (pv 1) (fun _ _ => rfl)) rfl) pa_nil))))), ?_⟩
    refine ⟨_, rfl, _, rfl, _, rfl, pl, _, rfl, SqL.of hpl, fun ls nls => ?_⟩
    rw [cut_to, ← List.map_take]
    have s0 := Same.upd (o := .lst ((as.take i).map V.ref)) nls
    have rt := rows.take i
    refine ⟨ls, rfl, ⟨_, SqL.of upd_same⟩, fun D hD => cm_vals hD (SqL.of upd_same) (by rw [List.length_map, rt.1, List.length_take]; exact le_line (show min i xs.length ≤ 1000 by omega)) (((xs.take i).map fun y => y.2.machine).map vn) (by rw [List.length_map, List.length_map, List.length_map, rt.1]) (fun k' y z H' N hy hz' hs hN => ?_) fun H1 q s1 => ?_⟩
    · obtain ⟨p, hp, rfl⟩ := map_at hy
      obtain ⟨d', hd', dp, hdp⟩ := rt.at_ hp
      rw [List.map_map, List.getElem?_map, hd'] at hz'
      cases hz'
      exact ⟨rfl, _, rfl, p, _, dp, _, _, rfl, hs _ _ (s0 _ _ hdp), T.cl_Placed, T.n_Placed_machine, lk_pf3, hN⟩
    · refine ⟨_, rfl, _, rfl, pl, _, _, _, rfl, rfl, SqL.of (s1 _ _ (s0 _ _ hpl)), atI_nat (ref_at hpd), pd, _, ddx, _, _, rfl, s1 _ _ (s0 _ _ hdd), T.cl_Placed, T.n_Placed_machine, lk_pf3, ?_⟩
      exact ⟨D, _, d.2.machine, rfl, q, hx, by rw [List.length_map, List.length_take]; omega, fun H2 k' s2 il => k H2 k' ((s0.trans s1).trans s2) il⟩
theorem last_is {l : List Si44.Done} {i k : Nat} {g : Si44.Done → Nat} {x : Nat} (hi : i ≤ l.length) (h : IsLast ((l.take i).map g) x k) : Si44.placeBefore l i (fun y => g y == x) = some k := by
  obtain ⟨h1, h2⟩ := h
  rw [List.getElem?_map] at h1
  have hk : k < i := by
    cases q : (l.take i)[k]? with
    | none => rw [q] at h1; cases h1
    | some d =>
      have := lt_of_at q
      rw [List.length_take] at this
      omega
  rw [List.getElem?_take, if_pos hk] at h1
  cases q : l[k]? with
  | none => rw [q] at h1; cases h1
  | some d =>
    rw [q] at h1
    have h1 : g d = x := Option.some.inj h1
    obtain ⟨k', hk'⟩ := pb_some (f := fun y => g y == x) hi hk q (by simp [h1])
    obtain ⟨a, ⟨d', b1, b2⟩, c⟩ := pb_last hi hk'
    have e1 := c k d hk q (by simp [h1])
    have e2 := h2 k' (by rw [List.getElem?_map, List.getElem?_take, if_pos a, b1]; show some (g d') = _; rw [show g d' = x by simpa using b2])
    rw [hk']
    congr 1
    omega
theorem withR_jobs (h : Si44.House) (l : List Si44.Done) (g : Si44.Done → Nat) : (withR h l).map (fun y => g y.2) = l.map g := by
  apply List.ext_getElem?
  intro i
  rw [List.getElem?_map, List.getElem?_map, withR_get]
  cases l[i]? <;> rfl
theorem job_mem {l : List Si44.Done} {j : Nat} (h : cnt l j ≠ 0) : j ∈ l.map (fun y => y.job) := by
  rw [cnt_jobs] at h
  exact Classical.byContradiction fun z => h (List.count_eq_zero.mpr z)
def sp_cause_of (c : Cs) : Sp := fun vs H Q _ => ∃ (lj pl : Addr) (i : Nat) (h : Si44.House) (l : List Si44.Done) (d : Si44.Done), vs = [.ref lj, .ref pl, vn i] ∧ JobsAt c H h.jobs lj ∧ DonesAt c H h l pl ∧ Made h l ∧ l.length ≤ 1000 ∧ l[i]? = some d ∧ ∀ H', Same H H' → Q (vn (causeN h l i)) H'
theorem ok_cause_of {f : Addr} {fd : FuncData} (F : Fun K "cause_of" "cause_of" s_cause_of f fd) (T : Txt K mg c) (c_place_of_last_step : Callee P w K mg base 2 "place_of_last_step" ["placed", "number"] (sp_place_of_last_step c)) :
    FnOk P w K mg base CX0 3 f fd ["jobs", "placed", "place"] (sp_cause_of c) := by
  refine F.ok sc_cause_of (fun vs H Q E h => ?_) (fun cdv A outer s H vs Q E hr h => ?_)
  · obtain ⟨lj, pl, i, h, l, d, rfl, _⟩ := h
    rfl
  · obtain ⟨lj, pl, i, h, l, d, rfl, ⟨jas, hlj, rj⟩, ⟨as, hpl, rows⟩, M, hz, hd, k⟩ := h
    have nd := sc_cause_of.nd
    have hi := lt_of_at hd
    obtain ⟨b, st, m, hb, hst, hm, ed⟩ := M i d hd
    have hsp := made_step M hd
    have hdr : (withR h l)[i]? = some (rdy h (l.take i) d, d) := by rw [withR_get, hd]; rfl
    obtain ⟨pd, hpd, ddx, hdd⟩ := rows.2 i _ hdr
    obtain ⟨pj, hpj, dj, ls, sas, j1, j2, j3, j4⟩ := rj.2 d.job b hb
    have ec := cause_of (h := h) hd hb
    refine ⟨_, (pss_cons (ps_set (i := 3) nd rfl (Or.inl rfl) (pe_ix ix_list (pv 1) (pv 2) (fun _ _ => rfl)))
    (pss_cons (ps_if (pt_cmpR o_lt (pe_fld (pv 3) rfl) (pe_fld (pv 3) rfl) (nomark _)) (pss_one (ps_ret (pe_const T.c_CAUSE_REST))) pss_nil)
    (pss_cons (ps_if (pt_cmpR op_eq (pe_fld (pv 3) rfl) pe_int (nomark _)) (pss_one (ps_ret (pe_ifExp (pt_cmpR op_eq (pe_fld (pv 3) rfl) (pe_fld (pe_ix ix_list (pv 0) (pe_fld (pv 3) rfl) (fun _ _ => rfl)) rfl) (nomark _)) (pe_const T.c_CAUSE_FROM) (pe_const T.c_CAUSE_MACHINE)))) pss_nil)
    (pss_cons (ps_set (i := 4) nd rfl (Or.inl rfl) (pe_ix ix_list (pv 1) (pe_fn c_place_of_last_step (hr.mono (by decide)) (pa_cons (pe_slice sl_list (pv 1) po_none (po_some (pv 2))) (pa_cons (pe_fld (pv 3) rfl) pa_nil))) (fun _ _ => rfl)))
    (pss_one (ps_ret (pe_ifExp (pt_cmpR op_eq (pe_fld (pv 3) rfl) (pe_fld (pv 4) rfl) (nomark _)) (pe_const T.c_CAUSE_OWN) (pe_const T.c_CAUSE_MACHINE)))))))), ?_⟩
    refine ⟨_, rfl, _, rfl, pl, _, _, _, rfl, rfl, SqL.of hpl, atI_nat (ref_at hpd), ?_⟩
    refine ⟨_, rfl, pd, _, ddx, _, _, rfl, hdd, T.cl_Placed, T.n_Placed_ready, lk_pfr, _, rfl, pd, _, ddx, _, _, rfl, hdd, T.cl_Placed, T.n_Placed_begin, lk_pf4, _, _, rfl, rfl, _, rfl, ite2 (fun q => ?_) (fun q => ?_)⟩
    · have q : rdy h (l.take i) d < d.start := by
        have q : ((rdy h (l.take i) d : Nat) : Int) < ((d.start : Nat) : Int) := of_decide_eq_true q
        omega
      have e : causeN h l i = 3 := by unfold causeN; rw [ec, if_pos q]; rfl
      have := k H (Same.refl _)
      rw [e] at this
      exact this
    have q1 : ¬ rdy h (l.take i) d < d.start := fun z => q (decide_eq_true (show ((rdy h (l.take i) d : Nat) : Int) < ((d.start : Nat) : Int) by omega))
    rw [if_neg q1] at ec
    refine ⟨_, rfl, pd, _, ddx, _, _, rfl, hdd, T.cl_Placed, T.n_Placed_which, lk_pf2, rfl, _, rfl, ite2 (fun q2 => ?_) (fun q2 => ?_)⟩
    · have q2 : d.step = 0 := by
        have q2 : V.int ((d.step : Nat) : Int) = V.int 0 := of_decide_eq_true q2
        injection q2 with q2
        omega
      have er : Si44.readyAt (l.take i) d.job b = b.from_ := ready_zero b (by rw [← hsp]; exact q2)
      rw [er] at ec
      refine ⟨_, rfl, pd, _, ddx, _, _, rfl, hdd, T.cl_Placed, T.n_Placed_begin, lk_pf4, _, rfl, _, rfl, pd, _, ddx, _, _, rfl, hdd, T.cl_Placed, T.n_Placed_job, lk_pf1, lj, _, _, _, rfl, rfl, SqL.of hlj, atI_nat (ref_at hpj), pj, _, dj, _, _, rfl, j1, T.cl_Job, T.n_Job_start, lk_jf1, rfl, _, rfl, ?_⟩
      have k0 := k H (Same.refl _)
      unfold causeN at k0
      rw [ec] at k0
      refine ite2 (fun q3 => ?_) (fun q3 => ?_)
      · have z : b.from_ = d.start := by
          have q3 : V.int ((d.start : Nat) : Int) = V.int ((b.from_ : Nat) : Int) := of_decide_eq_true q3
          injection q3 with q3
          omega
        rw [if_pos z, if_pos q2] at k0
        exact k0
      · have z : ¬ b.from_ = d.start := fun z => q3 (decide_eq_true (show V.int ((d.start : Nat) : Int) = V.int ((b.from_ : Nat) : Int) by rw [z]))
        rw [if_neg z] at k0
        exact k0
    · have q2 : d.step ≠ 0 := fun z => q2 (decide_eq_true (by rw [z]; rfl))
      have hcn : cnt (l.take i) d.job ≠ 0 := by rw [← hsp]; exact q2
      obtain ⟨k0, d0, p0, k0i, hd0, _, er⟩ := own_place (Nat.le_of_lt hi) hcn b
      refine ⟨_, rfl, _, rfl, _, rfl, _, rfl, pl, _, rfl, SqL.of hpl, fun lt nlt => ?_⟩
      rw [cut_to, ← List.map_take]
      have s0 := Same.upd (o := .lst ((as.take i).map V.ref)) nlt
      refine ⟨_, rfl, pd, _, ddx, _, _, rfl, s0 _ _ hdd, T.cl_Placed, T.n_Placed_job, lk_pf1, lt, as.take i, (withR h l).take i, d.job, rfl, upd_same, (rows.take i).imp (fun _ _ => PlacedAt.keep s0), ?_, by rw [List.length_take, withR_len]; omega, fun H1 k1 s1 il => ?_⟩
      · rw [← withR_take, withR_jobs h (l.take i) (fun y => y.job)]
        exact job_mem hcn
      rw [← withR_take, withR_jobs h (l.take i) (fun y => y.job)] at il
      have p1 := last_is (g := fun y => y.job) (Nat.le_of_lt hi) il
      rw [p0] at p1
      have e1 : k0 = k1 := Option.some.inj p1
      subst e1
      have hd0r : (withR h l)[k0]? = some (rdy h (l.take k0) d0, d0) := by rw [withR_get, hd0]; rfl
      obtain ⟨p0', hp0', dd0, hdd0⟩ := rows.2 k0 _ hd0r
      have sA := s0.trans s1
      refine ⟨pl, _, _, _, rfl, rfl, SqL.of (sA _ _ hpl), atI_nat (ref_at hp0'), ?_⟩
      refine ⟨_, rfl, pd, _, ddx, _, _, rfl, sA _ _ hdd, T.cl_Placed, T.n_Placed_begin, lk_pf4, _, rfl, p0', _, dd0, _, _, rfl, sA _ _ hdd0, T.cl_Placed, T.n_Placed_stop, lk_pf5, rfl, _, rfl, ?_⟩
      have k2 := k H1 sA
      unfold causeN at k2
      rw [ec, er] at k2
      refine ite2 (fun q3 => ?_) (fun q3 => ?_)
      · have z : d0.halt_ = d.start := by
          have q3 : V.int ((d.start : Nat) : Int) = V.int ((d0.halt_ : Nat) : Int) := of_decide_eq_true q3
          injection q3 with q3
          omega
        rw [if_pos z, if_neg q2] at k2
        exact k2
      · have z : ¬ d0.halt_ = d.start := fun z => q3 (decide_eq_true (show V.int ((d.start : Nat) : Int) = V.int ((d0.halt_ : Nat) : Int) by rw [z]))
        rw [if_neg z] at k2
        exact k2
def LinkAt (l : List Si44.Done) (H : Hp) (x : Nat × Si44.Cause) (a : Addr) : Prop := ∃ d, l[x.1]? = some d ∧ H a = some (.tup [vn d.job, vn d.step, vn (Si44.causeOut x.2)])
def placeIn (σ : L2.St) : Nat := match σ[4]? with
  | some (some (V.int z)) => z.toNat
  | _ => 0
def sp_chain (c : Cs) : Sp := fun vs H Q _ => ∃ (lj pl : Addr) (j : Nat) (h : Si44.House) (l : List Si44.Done), vs = [.ref lj, .ref pl, vn j] ∧ JobsAt c H h.jobs lj ∧ DonesAt c H h l pl ∧ Made h l ∧ l.length ≤ 1000 ∧ cnt l j ≠ 0 ∧
  ∀ (H' : Hp) (ll : Addr) (as : List Addr), Same H H' → H' ll = some (.lst (as.map V.ref)) → Rows (LinkAt l H') (Si44.why h l j) as → (Si44.why h l j).length ≤ 1001 → Q (.ref ll) H'
theorem ok_chain {f : Addr} {fd : FuncData} (F : Fun K "chain" "chain" s_chain f fd) (T : Txt K mg c) (c_place_of_last_step : Callee P w K mg base 2 "place_of_last_step" ["placed", "number"] (sp_place_of_last_step c))
    (c_cause_of : Callee P w K mg base 3 "cause_of" ["jobs", "placed", "place"] (sp_cause_of c)) (c_place_before_on_machine : Callee P w K mg base 2 "place_before_on_machine" ["placed", "place"] (sp_place_before c)) :
    FnOk P w K mg base CX0 4 f fd ["jobs", "placed", "number"] (sp_chain c) := by
  refine F.ok sc_chain (fun vs H Q E h => ?_) (fun cdv A outer s H vs Q E hr h => ?_)
  · obtain ⟨lj, pl, j, h, l, rfl, _⟩ := h
    rfl
  · obtain ⟨lj, pl, j, h, l, rfl, hjs, ⟨as, hpl, rows⟩, M, hz, hcn, k⟩ := h
    have nd := sc_chain.nd
    refine ⟨_, (pss_cons (ps_set (i := 3) nd rfl (Or.inl rfl) (pe_lst pa_nil))
    (pss_cons (ps_set (i := 4) nd rfl (Or.inl rfl) (pe_fn c_place_of_last_step (hr.mono (by decide)) (pa_cons (pv 1) (pa_cons (pv 2) pa_nil))))
    (pss_one (ps_while PassesOwn.never (pt_val pe_bl) (pss_cons (ps_set (i := 5) nd rfl (Or.inl rfl) (pe_ix ix_list (pv 1) (pv 4) (fun _ _ => rfl)))
      (pss_cons (ps_set (i := 6) nd rfl (Or.inl rfl) (pe_fn c_cause_of (hr.mono (by decide)) (pa_cons (pv 0) (pa_cons (pv 1) (pa_cons (pv 4) pa_nil)))))
      (pss_cons (ps_expr (pe_bm PySem.F.plainAttrs_list PySem.F.slot_list_append PySem.F.type_list_append mt_append (pv 3) (pa_cons (pe_tup (pa_cons (pe_fld (pv 5) rfl) (pa_cons (pe_fld (pv 5) rfl) (pa_cons (pv 6) pa_nil)))) pa_nil)))
      (pss_one (ps_if (pt_cmpR op_eq (pv 6) (pe_const T.c_CAUSE_OWN) (nomark _)) (pss_one (ps_set (i := 4) nd rfl (Or.inl rfl) (pe_fn c_place_of_last_step (hr.mono (by decide)) (pa_cons (pe_slice sl_list (pv 1) po_none (po_some (pv 4))) (pa_cons (pe_fld (pv 5) rfl) pa_nil))))) (pss_one (ps_if (pt_cmpR op_eq (pv 6) (pe_const T.c_CAUSE_MACHINE) (nomark _)) (pss_one (ps_set (i := 4) nd rfl (Or.inl rfl) (pe_fn c_place_before_on_machine (hr.mono (by decide)) (pa_cons (pv 1) (pa_cons (pv 4) pa_nil))))) (pss_one (ps_ret (pv 3)))))))))))))), ?_⟩
    refine ⟨Nat.zero_le _, fun ll nll => ?_⟩
    have s0 := Same.upd (o := .lst []) nll
    refine ⟨_, rfl, _, rfl, pl, as, withR h l, j, rfl, s0 _ _ hpl, rows.imp (fun _ _ => PlacedAt.keep s0), ?_, by rw [withR_len]; exact hz, fun H1 k1 s1 il => ?_⟩
    · rw [withR_jobs h l (fun y => y.job)]
      exact job_mem hcn
    rw [withR_jobs h l (fun y => y.job)] at il
    have p1 := last_is (l := l) (i := l.length) (g := fun y => y.job) (Nat.le_refl _) (by rw [List.take_length]; exact il)
    obtain ⟨k1l, ⟨d1, hd1, _⟩, _⟩ := pb_last (Nat.le_refl _) p1
    have ew : Si44.why h l j = Si44.whyFrom h l l.length k1 := by unfold Si44.why; rw [p1]
    have hl1 : H1 ll = some (.lst ([] : List V)) := s1 _ _ upd_same
    refine while_by (fun σ H' => ∃ (i fu : Nat) (acc : List (Nat × Si44.Cause)) (bs : List Addr) (v5 v6 : Option V), σ = [some (.ref lj), some (.ref pl), some (vn j), some (.ref ll), some (vn i), v5, v6] ∧ Same H H' ∧ H' ll = some (.lst (bs.map V.ref)) ∧ Rows (LinkAt l H') acc bs ∧ i < l.length ∧ i < fu ∧ acc.length + fu ≤ l.length ∧ acc ++ Si44.whyFrom h l fu i = Si44.why h l j)
      (fun σ _ => placeIn σ) ⟨k1, l.length, [], [], none, none, rfl, s0.trans s1, hl1, Rows.nil, k1l, k1l, by show 0 + l.length ≤ _; omega, by rw [ew]; rfl⟩ ?_ ?_
    · rintro σ H' ⟨i, fu, acc, bs, v5, v6, rfl, sH, hll, rl, hi, hfu, hacc, eall⟩
      obtain ⟨fu, rfl⟩ : ∃ n, fu = n + 1 := ⟨fu - 1, by omega⟩
      obtain ⟨d, hd⟩ := at_lt hi
      have hdr : (withR h l)[i]? = some (rdy h (l.take i) d, d) := by rw [withR_get, hd]; rfl
      obtain ⟨pd, hpd, ddx, hdd⟩ := rows.2 i _ hdr
      obtain ⟨ca, hca, own, mac, stop⟩ := why_step (f := fu) M hd hfu
      have ecn : causeN h l i = Si44.causeOut ca := by unfold causeN; rw [hca]
      refine ⟨true, rfl, ?_⟩
      refine iteT ?_
      refine ⟨_, rfl, _, rfl, pl, _, _, _, rfl, rfl, SqL.of (sH _ _ hpl), atI_nat (ref_at hpd), ?_⟩
      refine ⟨_, rfl, _, rfl, _, rfl, lj, pl, i, h, l, d, rfl, hjs.keep sH, ⟨as, sH _ _ hpl, rows.imp (fun _ _ => PlacedAt.keep sH)⟩, M, hz, hd, fun H2 s2 => ?_⟩
      rw [ecn]
      have hll2 := s2 _ _ hll
      refine ⟨_, rfl, .inl ⟨rfl, _, SqL.of hll2⟩, _, rfl, pd, _, ddx, _, _, rfl, s2 _ _ (sH _ _ hdd), T.cl_Placed, T.n_Placed_job, lk_pf1, _, rfl, pd, _, ddx, _, _, rfl, s2 _ _ (sH _ _ hdd), T.cl_Placed, T.n_Placed_which, lk_pf2, _, rfl, (by show 3 ≤ sizeLine; decide), fun t nt => ?_⟩
      have s3 := Same.upd (o := .tup [vn d.job, vn d.step, vn (Si44.causeOut ca)]) nt
      have hbl : bs.length = acc.length := rl.1
      refine ⟨ll, _, _, rfl, rfl, s3 _ _ hll2, by rw [List.length_map, hbl, sizeLine_eq]; omega, ?_⟩
      generalize hH3 : upd (upd H2 t (.tup [vn d.job, vn d.step, vn (Si44.causeOut ca)])) ll (.lst (bs.map V.ref ++ [V.ref t])) = H3
      have nH : H ll = none := nll
      have s4 : Same H H3 := by rw [← hH3]; exact ((sH.trans s2).trans s3).upd_r nH
      have hll3 : H3 ll = some (.lst ((bs ++ [t]).map V.ref)) := by rw [← hH3, upd_same, List.map_append]; rfl
      have keep3 : ∀ (a : Addr) ys, upd H2 t (.tup [vn d.job, vn d.step, vn (Si44.causeOut ca)]) a = some (.tup ys) → H3 a = some (.tup ys) := fun a ys e => by
        rw [← hH3, upd_ne (ne_of e (s3 _ _ hll2) (by intro z; cases z))]; exact e
      have rl3 : Rows (LinkAt l H3) (acc ++ [(i, ca)]) (bs ++ [t]) := Rows.snoc (rl.imp fun x a ⟨d', e1, e2⟩ => ⟨d', e1, keep3 a _ (s3 _ _ (s2 _ _ e2))⟩) ⟨d, hd, keep3 t _ upd_same⟩
      have len3 : (acc ++ [(i, ca)]).length + fu ≤ l.length := by rw [List.length_append]; show acc.length + 1 + fu ≤ _; omega
      have hjs3 := hjs.keep s4
      have rows3 : Rows (PlacedAt c H3) (withR h l) as := rows.imp (fun _ _ => PlacedAt.keep s4)
      refine ⟨_, rfl, rfl, _, rfl, ite2 (fun q => ?_) (fun q => ?_)⟩
      · have q := of_decide_eq_true q
        have eca : ca = .own := by
          injection q with q
          cases ca with
          | own => rfl
          | machine => exact absurd q (by decide)
          | from_ => exact absurd q (by decide)
          | rest => exact absurd q (by decide)
        obtain ⟨k2, hk2, k2i, ewf⟩ := own eca
        refine ⟨_, rfl, _, rfl, _, rfl, pl, _, rfl, SqL.of (s4 _ _ hpl), fun lt nlt => ?_⟩
        rw [cut_to, ← List.map_take]
        have s5 := Same.upd (o := .lst ((as.take i).map V.ref)) nlt
        have nlt2 : lt ≠ ll := fun z => by rw [z, hll3] at nlt; cases nlt
        obtain ⟨_, ⟨d2, hd2, ej⟩, _⟩ := pb_last (Nat.le_of_lt hi) hk2
        refine ⟨_, rfl, pd, _, ddx, _, _, rfl, s5 _ _ (s4 _ _ hdd), T.cl_Placed, T.n_Placed_job, lk_pf1, lt, as.take i, (withR h l).take i, d.job, rfl, upd_same, (rows3.take i).imp (fun _ _ => PlacedAt.keep s5), ?_, by rw [List.length_take, withR_len]; omega, fun H4 k3 s6 il2 => ?_⟩
        · rw [← withR_take, withR_jobs h (l.take i) (fun y => y.job)]
          refine List.mem_map.mpr ⟨d2, List.mem_of_getElem? (i := k2) (by rw [List.getElem?_take, if_pos k2i]; exact hd2), by simpa using ej⟩
        · rw [← withR_take, withR_jobs h (l.take i) (fun y => y.job)] at il2
          have p3 := last_is (g := fun y => y.job) (Nat.le_of_lt hi) il2
          rw [hk2] at p3
          have e3 : k2 = k3 := Option.some.inj p3
          subst e3
          have s7 := s5.trans s6
          refine ⟨⟨k2, fu, acc ++ [(i, ca)], bs ++ [t], _, _, rfl, s4.trans s7, s7 _ _ hll3, rl3.imp (fun x a ⟨d', e1, e2⟩ => ⟨d', e1, s7 _ _ e2⟩), by omega, by omega, len3, ?_⟩, ?_⟩
          · rw [← eall, ewf, List.append_assoc]
            rfl
          · show ((k2 : Nat) : Int).toNat < ((i : Nat) : Int).toNat
            omega
      · have nown : ca ≠ .own := fun z => q (decide_eq_true (by rw [z]; rfl))
        refine ⟨_, rfl, rfl, _, rfl, ite2 (fun q2 => ?_) (fun q2 => ?_)⟩
        · have q2 := of_decide_eq_true q2
          have eca : ca = .machine := by
            injection q2 with q2
            cases ca with
            | own => exact absurd q2 (by decide)
            | machine => rfl
            | from_ => exact absurd q2 (by decide)
            | rest => exact absurd q2 (by decide)
          obtain ⟨k2, hk2, k2i, ewf⟩ := mac eca
          obtain ⟨_, ⟨d2, hd2, ej⟩, _⟩ := pb_last (Nat.le_of_lt hi) hk2
          refine ⟨_, rfl, _, rfl, pl, as, withR h l, i, _, rfl, s4 _ _ hpl, rows3, hdr, ?_, by rw [withR_len]; exact hz, fun H4 k3 s6 il2 => ?_⟩
          · rw [← withR_take, withR_jobs h (l.take i) (fun y => y.machine)]
            refine List.mem_map.mpr ⟨d2, List.mem_of_getElem? (i := k2) (by rw [List.getElem?_take, if_pos k2i]; exact hd2), by simpa using ej⟩
          · rw [← withR_take, withR_jobs h (l.take i) (fun y => y.machine)] at il2
            have p3 := last_is (g := fun y => y.machine) (Nat.le_of_lt hi) il2
            rw [hk2] at p3
            have e3 : k2 = k3 := Option.some.inj p3
            subst e3
            refine ⟨⟨k2, fu, acc ++ [(i, ca)], bs ++ [t], _, _, rfl, s4.trans s6, s6 _ _ hll3, rl3.imp (fun x a ⟨d', e1, e2⟩ => ⟨d', e1, s6 _ _ e2⟩), by omega, by omega, len3, ?_⟩, ?_⟩
            · rw [← eall, ewf, List.append_assoc]
              rfl
            · show ((k2 : Nat) : Int).toNat < ((i : Nat) : Int).toNat
              omega
        · have nmac : ca ≠ .machine := fun z => q2 (decide_eq_true (by rw [z]; rfl))
          have ewf := stop (by
            cases ca with
            | own => exact absurd rfl nown
            | machine => exact absurd rfl nmac
            | from_ => exact .inl rfl
            | rest => exact .inr rfl)
          have eW : acc ++ [(i, ca)] = Si44.why h l j := by rw [← eall, ewf]
          rw [eW] at rl3 len3
          exact ⟨_, rfl, k H3 ll (bs ++ [t]) s4 hll3 rl3 (by omega)⟩
    · rintro σ H' Q1 Q2 hQ ⟨b, e, h1⟩
      exact ⟨b, e, hQ _ _ h1⟩
end
end Sj
end
section
set_option Elab.async false
set_option linter.all false
set_option maxRecDepth 100000
set_option maxHeartbeats 2000000
namespace Sj
open PySem PySem.Spec PyProof.Rows L2
theorem Rows.set {α : Type} {R : α → Addr → Prop} {xs : List α} {as : List Addr} {x : α} {a : Addr} (h : Rows R xs as) (k : Nat) (r : R x a) : Rows R (xs.set k x) (as.set k a) := by
  refine ⟨by rw [List.length_set, List.length_set, h.1], fun i y e => ?_⟩
  rw [List.getElem?_set] at e ⊢
  rw [h.1]
  by_cases q : k = i
  · rw [if_pos q] at e ⊢
    by_cases z : k < xs.length
    · rw [if_pos z] at e ⊢
      have e : x = y := Option.some.inj e
      subst e
      exact ⟨a, rfl, r⟩
    · rw [if_neg z] at e
      cases e
  · rw [if_neg q] at e ⊢
    exact h.2 i y e
theorem set_ref (l : List Addr) (j : Nat) (x : Addr) : (l.map V.ref).set j (V.ref x) = (l.set j x).map V.ref := by rw [List.map_set]
section
variable {P : Program} {w : World} {K : PySem.W.Frag} {mg : Str → Option Value} {base : Heap} {c : Cs}
def sp_with_longer_step (c : Cs) : Sp := fun vs H Q _ => ∃ (lj : Addr) (h : Si44.House) (j k d : Nat) (b : Si44.Job) (s : Si44.Step), vs = [.ref lj, vn j, vn k, vn d] ∧ JobsAt c H h.jobs lj ∧ h.jobs[j]? = some b ∧ b.steps[k]? = some s ∧ ∀ (H' : Hp) (l' : Addr), Same H H' → JobsAt c H' (Si44.longer h j k d).jobs l' → Q (.ref l') H'
theorem ok_with_longer_step {f : Addr} {fd : FuncData} (F : Fun K "with_longer_step" "with_longer_step" s_with_longer_step f fd) (T : Txt K mg c) (c_Step : KCallee P w K mg base 1 "Step" c.cStep ["self", "machine", "kind", "length"] (spRec c.cStep ["machine", "kind", "length"]))
    (c_Job : KCallee P w K mg base 1 "Job" c.cJob ["self", "start", "due", "weight", "steps"] (spRec c.cJob ["start", "due", "weight", "steps"])) : FnOk P w K mg base CX0 3 f fd ["jobs", "number", "which", "longer"] (sp_with_longer_step c) := by
  refine F.ok sc_with_longer_step (fun vs H Q E h => ?_) (fun cdv A outer s H vs Q E hr h => ?_)
  · obtain ⟨lj, h, j, k, d, b, s, rfl, _⟩ := h
    rfl
  · obtain ⟨lj, h, j, k, d, b, st, rfl, ⟨jas, hlj, rj⟩, hb, hs, kont⟩ := h
    have nd := sc_with_longer_step.nd
    obtain ⟨pj, hpj, dj, ls, sas, j1, j2, j3, j4⟩ := rj.2 j b hb
    obtain ⟨ps, hps, ds, p1⟩ := j3.2 k st hs
    refine ⟨_, (pss_cons (ps_set (i := 4) nd rfl (Or.inl rfl) (pe_ix ix_list (pv 0) (pv 1) (fun _ _ => rfl)))
    (pss_cons (ps_set (i := 5) nd rfl (Or.inl rfl) (pe_ix ix_list (pe_fld (pv 4) rfl) (pv 2) (fun _ _ => rfl)))
    (pss_cons (ps_set (i := 6) nd rfl (Or.inl rfl) (pe_callTy call_list_of (by rfl) T.b_list bt_list (pa_cons (pe_fld (pv 4) rfl) pa_nil)))
    (pss_cons (ps_asg (pe_mk c_Step (hr.mono (by decide)) (pa_cons (pe_fld (pv 5) rfl) (pa_cons (pe_fld (pv 5) rfl) (pa_cons (pe_op o_add (pe_fld (pv 5) rfl) (pv 3)) pa_nil)))) (pg_sub (pv 6) (pv 2) set_list))
    (pss_cons (ps_set (i := 7) nd rfl (Or.inl rfl) (pe_callTy call_list_of (by rfl) T.b_list bt_list (pa_cons (pv 0) pa_nil)))
    (pss_cons (ps_asg (pe_mk c_Job (hr.mono (by decide)) (pa_cons (pe_fld (pv 4) rfl) (pa_cons (pe_fld (pv 4) rfl) (pa_cons (pe_fld (pv 4) rfl) (pa_cons (pv 6) pa_nil))))) (pg_sub (pv 7) (pv 1) set_list))
    (pss_one (ps_ret (pv 7))))))))), ?_⟩
    refine ⟨_, rfl, _, rfl, lj, _, _, _, rfl, rfl, SqL.of hlj, atI_nat (ref_at hpj), ?_⟩
    refine ⟨_, rfl, pj, _, dj, _, _, rfl, j1, T.cl_Job, T.n_Job_steps, lk_jf4, _, rfl, ls, _, _, _, rfl, rfl, SqL.of j2, atI_nat (ref_at hps), ?_⟩
    refine ⟨_, rfl, pj, _, dj, _, _, rfl, j1, T.cl_Job, T.n_Job_steps, lk_jf4, ls, _, rfl, .inl (SqL.of j2), fun l2 n2 => ?_⟩
    have s1 := Same.upd (o := .lst (sas.map V.ref)) n2
    refine ⟨_, rfl, ps, _, ds, _, _, rfl, s1 _ _ p1, T.cl_Step, T.n_Step_machine, lk_sf1, _, rfl, ps, _, ds, _, _, rfl, s1 _ _ p1, T.cl_Step, T.n_Step_kind, lk_sf2, _, rfl, ps, _, ds, _, _, rfl, s1 _ _ p1, T.cl_Step, T.n_Step_length, lk_sf3, _, rfl, _, _, rfl, rfl, ?_⟩
    dsimp only
    rw [show ((st.long : Nat) : Int) + ((d : Nat) : Int) = ((st.long + d : Nat) : Int) from (Int.natCast_add _ _).symm]
    intro x dx hx hdx hne
    refine ⟨x, dx, [vn st.machine, vn st.kind, vn (st.long + d)], rfl, rfl, upd_same, rfl, ?_⟩
    have s2 := made (C := c.cStep) (fs := sf { st with long := st.long + d }) hx hdx
    have q2 : upd H l2 (.lst (sas.map V.ref)) l2 = some (.lst (sas.map V.ref)) := upd_same
    refine ⟨_, rfl, _, rfl, l2, _, _, k, rfl, rfl, s2 _ _ q2, ix_nat (by rw [List.length_map, j3.1]; exact lt_of_at hs), ?_⟩
    rw [set_ref]
    have nH : H l2 = none := n2
    generalize hH3 : upd (upd (upd (upd (upd H l2 (.lst (sas.map V.ref))) dx (.own x)) x (.ins c.cStep dx [])) x (.ins c.cStep dx (List.zip ["machine", "kind", "length"] [vn st.machine, vn st.kind, vn (st.long + d)]))) l2 (.lst ((sas.set k x).map V.ref)) = H3
    have s3 : Same H H3 := by rw [← hH3]; exact (s1.trans s2).upd_r nH
    have e2 : H3 l2 = some (.lst ((sas.set k x).map V.ref)) := by rw [← hH3]; exact upd_same
    have xl : x ≠ l2 := fun z => by rw [z, q2] at hx; cases hx
    have ex : StepAt c H3 { st with long := st.long + d } x := ⟨dx, by rw [← hH3, upd_ne xl]; exact upd_same⟩
    refine ⟨_, rfl, lj, _, rfl, .inl (SqL.of (s3 _ _ hlj)), fun l5 n5 => ?_⟩
    have s5 := Same.upd (o := .lst (jas.map V.ref)) n5
    refine ⟨_, rfl, pj, _, dj, _, _, rfl, s5 _ _ (s3 _ _ j1), T.cl_Job, T.n_Job_start, lk_jf1, _, rfl, pj, _, dj, _, _, rfl, s5 _ _ (s3 _ _ j1), T.cl_Job, T.n_Job_due, lk_jf2, _, rfl, pj, _, dj, _, _, rfl, s5 _ _ (s3 _ _ j1), T.cl_Job, T.n_Job_weight, lk_jf3, _, rfl, ?_⟩
    intro y dy hy hdy hne2
    refine ⟨y, dy, [vn b.from_, vn b.due, vn b.weight, .ref l2], rfl, rfl, upd_same, rfl, ?_⟩
    have s6 := made (C := c.cJob) (fs := jf { b with steps := b.steps.set k { st with long := st.long + d } } l2) hy hdy
    have q5 : upd H3 l5 (.lst (jas.map V.ref)) l5 = some (.lst (jas.map V.ref)) := upd_same
    refine ⟨_, rfl, _, rfl, l5, _, _, j, rfl, rfl, s6 _ _ q5, ix_nat (by rw [List.length_map, rj.1]; exact lt_of_at hb), ?_⟩
    rw [set_ref]
    have nH3 : H3 l5 = none := n5
    have yl : y ≠ l5 := fun z => by rw [z, q5] at hy; cases hy
    generalize hH6 : upd (upd (upd (upd (upd H3 l5 (.lst (jas.map V.ref))) dy (.own y)) y (.ins c.cJob dy [])) y (.ins c.cJob dy (List.zip ["start", "due", "weight", "steps"] [vn b.from_, vn b.due, vn b.weight, .ref l2]))) l5 (.lst ((jas.set j y).map V.ref)) = H6
    have s7 : Same H3 H6 := by rw [← hH6]; exact (s5.trans s6).upd_r nH3
    have e5 : H6 l5 = some (.lst ((jas.set j y).map V.ref)) := by rw [← hH6]; exact upd_same
    have ey : H6 y = some (.ins c.cJob dy (jf { b with steps := b.steps.set k { st with long := st.long + d } } l2)) := by rw [← hH6, upd_ne yl]; exact upd_same
    refine ⟨_, rfl, kont H6 l5 (s3.trans s7) ⟨jas.set j y, e5, ?_⟩⟩
    rw [longer_jobs hb hs]
    refine (rj.imp fun _ _ => JobAt.keep (s3.trans s7)).set j ⟨dy, l2, sas.set k x, ey, s7 _ _ e2, ?_, by show (b.steps.set k _).length ≤ 12; rw [List.length_set]; exact j4⟩
    exact (j3.imp fun _ _ => StepAt.keep (s3.trans s7)).set k (ex.keep s7)
def longIn (σ : L2.St) : Nat := match σ[6]? with
  | some (some (V.int z)) => z.toNat
  | _ => 0
def sp_most_longer (c : Cs) : Sp := fun vs H Q _ => ∃ (lm lj lo : Addr) (h : Si44.House) (j k : Nat) (o : List Nat) (b : Si44.Job) (s : Si44.Step), vs = [.ref lm, .ref lj, vn j, vn k, .ref lo] ∧ MachsAt c H h.machines lm ∧ JobsAt c H h.jobs lj ∧ Sound h ∧ h.jobs[j]? = some b ∧ b.steps[k]? = some s ∧ H lo = some (.lst (o.map vn)) ∧ o.length ≤ 1000 ∧ IsOrd h o ∧
  ∀ (H' : Hp) (d : Nat), Same H H' → Si44.slack h o j k = some d → Q (vn d) H'
theorem ok_most_longer {f : Addr} {fd : FuncData} (F : Fun K "most_longer" "most_longer" s_most_longer f fd) (T : Txt K mg c) (c_order_cost : Callee P w K mg base 5 "order_cost" ["machines", "jobs", "order"] (sp_order_cost c))
    (c_with_longer_step : Callee P w K mg base 3 "with_longer_step" ["jobs", "number", "which", "longer"] (sp_with_longer_step c)) : FnOk P w K mg base CX0 6 f fd ["machines", "jobs", "number", "which", "order"] (sp_most_longer c) := by
  refine F.ok sc_most_longer (fun vs H Q E h => ?_) (fun cdv A outer s H vs Q E hr h => ?_)
  · obtain ⟨lm, lj, lo, h, j, k, o, b, s, rfl, _⟩ := h
    rfl
  · obtain ⟨lm, lj, lo, h, j, k, o, b, st, rfl, hm, hj, v, hb, hs, hlo, hol, ho, kont⟩ := h
    have nd := sc_most_longer.nd
    obtain ⟨ds, hds⟩ := times_some ho
    have ecost : ∀ d', ∃ m, Si44.times (Si44.longer h j k d') o = some m ∧ costL h o j k d' = Si44.cost (Si44.longer h j k d') m := fun d' => by
      obtain ⟨m, hm'⟩ := times_some ((longer_ord h j k d' o).mpr ho)
      exact ⟨m, hm', by unfold costL; rw [hm']; exact (longer_cost h j k d' m).symm⟩
    have e0 : Si44.cost h ds = costL h o j k 0 := by unfold costL; rw [longer_zero, hds]
    refine ⟨_, (pss_cons (ps_set (i := 5) nd rfl (Or.inl rfl) (pe_fn c_order_cost (hr.mono (by decide)) (pa_cons (pv 0) (pa_cons (pv 1) (pa_cons (pv 4) pa_nil)))))
    (pss_cons (ps_set (i := 6) nd rfl (Or.inl rfl) (pe_const T.c_MOST_LONGER))
    (pss_cons (ps_while PassesOwn.never (pt_cmpR o_gt (pe_fn c_order_cost (hr.mono (by decide)) (pa_cons (pv 0) (pa_cons (pe_fn c_with_longer_step (hr.mono (by decide)) (pa_cons (pv 1) (pa_cons (pv 2) (pa_cons (pv 3) (pa_cons (pv 6) pa_nil))))) (pa_cons (pv 4) pa_nil)))) (pv 5) (nomark _)) (pss_one (ps_set (i := 6) nd rfl (Or.inl rfl) (pe_op o_sub (pv 6) pe_int))))
    (pss_one (ps_ret (pv 6)))))), ?_⟩
    refine ⟨_, rfl, _, rfl, _, rfl, lm, lj, lo, h, o, ds, rfl, hm, hj, v, hlo, hol, hds, fun H1 s1 => ?_⟩
    rw [e0]
    refine while_by (fun σ H' => ∃ (d : Nat), σ = [some (.ref lm), some (.ref lj), some (vn j), some (vn k), some (.ref lo), some (vn (costL h o j k 0)), some (vn d)] ∧ d ≤ 100 ∧ Same H H' ∧ ∀ d', d < d' → d' ≤ 100 → costL h o j k 0 < costL h o j k d')
      (fun σ _ => longIn σ) ⟨100, rfl, by omega, s1, fun d' h1 h2 => by omega⟩ ?_ ?_
    · rintro σ H' ⟨d, rfl, hd, sH, hf⟩
      refine ⟨_, rfl, _, rfl, _, rfl, _, rfl, _, rfl, lj, h, j, k, d, b, st, rfl, hj.keep sH, hb, hs, fun H2 l' s2 hj2 => ?_⟩
      obtain ⟨m, hm2, ec⟩ := ecost d
      refine ⟨_, rfl, lm, l', lo, Si44.longer h j k d, o, m, rfl, hm.keep (sH.trans s2), hj2, longer_sound v j k d, s2 _ _ (sH _ _ hlo), hol, hm2, fun H3 s3 => ?_⟩
      rw [← ec]
      refine ⟨_, rfl, _, _, rfl, rfl, _, rfl, ite2 (fun q => ?_) (fun q => ?_)⟩
      · have q := of_decide_eq_true q
        have q : costL h o j k 0 < costL h o j k d := by omega
        have d0 : d ≠ 0 := fun z => by rw [z] at q; omega
        refine ⟨_, rfl, _, _, rfl, rfl, ⟨d - 1, ?_, by omega, (sH.trans s2).trans s3, fun d' h1 h2 => ?_⟩, ?_⟩
        · dsimp only
          rw [show ((d : Nat) : Int) - 1 = ((d - 1 : Nat) : Int) by omega]
          rfl
        · by_cases e : d' = d
          · rw [e]; exact q
          · exact hf d' (by omega) h2
        · show (((d : Nat) : Int) - 1).toNat < ((d : Nat) : Int).toNat
          omega
      · have q : ¬ costL h o j k 0 < costL h o j k d := fun z => q (decide_eq_true (by omega))
        exact ⟨_, rfl, kont H3 d ((sH.trans s2).trans s3) (slack_is ho hd (by omega) hf)⟩
    · rintro σ H' Q1 Q2 hQ ⟨v0, h0, v1, h1, v2, h2, v3, h3, v4, h4, a1, a2, a3, a4, a5, a6, a7, e1, e2, e3, e4, kk⟩
      refine ⟨v0, h0, v1, h1, v2, h2, v3, h3, v4, h4, a1, a2, a3, a4, a5, a6, a7, e1, e2, e3, e4, fun H2 l' s2 hj2 => ?_⟩
      obtain ⟨v5, h5, b1, b2, b3, b4, b5, b6, f1, f2, f3, f4, f5, f6, f7, kk2⟩ := kk H2 l' s2 hj2
      refine ⟨v5, h5, b1, b2, b3, b4, b5, b6, f1, f2, f3, f4, f5, f6, f7, fun H3 s3 => ?_⟩
      obtain ⟨v6, h6, i', j', g1, g2, bb, g3, g4⟩ := kk2 H3 s3
      exact ⟨v6, h6, i', j', g1, g2, bb, g3, hQ _ _ g4⟩
end
end Sj
end
section
set_option Elab.async false
set_option linter.all false
set_option maxRecDepth 100000
set_option maxHeartbeats 2000000
namespace Sj
open PySem PySem.Spec PyProof.Rows L2
section
variable {P : Program} {w : World} {K : PySem.W.Frag} {mg : Str → Option Value} {base : Heap} {c : Cs}
theorem map_ints (l : List Nat) : (Si44.ints l).map V.int = l.map vn := by
  unfold Si44.ints
  rw [List.map_map]
  rfl
def sp_best (c : Cs) : Sp := fun vs H Q _ => ∃ (p : Addr) (h : Si44.House) (G : Hp) (W : List Addr), vs = [.ref p] ∧ HouseAt c G H p h W ∧ AfterCall c p h .best emp G H W Q
theorem ok_best {f : Addr} {fd : FuncData} (F : Fun K "best" "House.best" s_House_best f fd) (T : Txt K mg c) (c_best_order : Callee P w K mg base 6 "best_order" ["machines", "jobs"] (sp_best_order c)) :
    FnOk P w K mg base CX0 7 f fd ["self"] (sp_best c) := by
  refine F.ok sc_House_best (fun vs H Q E h => ?_) (fun cdv A outer s H vs Q E hr h => ?_)
  · obtain ⟨p, h, G, W, rfl, _⟩ := h
    rfl
  · obtain ⟨p, h, G, W, rfl, hH, k⟩ := h
    have nd := sc_House_best.nd
    obtain ⟨dx, lm, lj, hp, hM, hJ, vh⟩ := hH.parts
    refine ⟨_, (pss_cons (ps_set (i := 1) nd rfl (Or.inl rfl) (pe_fn c_best_order (hr.mono (by decide)) (pa_cons (pe_fld (pv 0) rfl) (pa_cons (pe_fld (pv 0) rfl) pa_nil))))
    (pss_one (ps_ret (pe_op op_cat (pe_lst (pa_cons (pe_fld (pv 1) rfl) (pa_cons (pe_fld (pv 1) rfl) pa_nil))) (pe_fld (pv 1) rfl))))), ?_⟩
    refine ⟨_, rfl, p, _, dx, _, _, rfl, hp, T.cl_House, T.n_House_machines, lk_hf1, _, rfl, p, _, dx, _, _, rfl, hp, T.cl_House, T.n_House_jobs, lk_hf2, lm, lj, h, rfl, hM, hJ, vh.sound, fun H1 pb b z s1 hb hz ez ew _ _ => ?_⟩
    obtain ⟨db, ta, lo, L, b1, b2, b3⟩ := hb
    have es : Si44.step h .best = (h, ⟨(z.1 : Int), Si44.ints (z.2.1 :: z.2.2)⟩) := by
      show (h, match Si44.best h with | none => Si44.ok (-6) | some x => _) = _
      rw [hz]
    refine ⟨_, rfl, pb, _, db, _, _, rfl, b1, T.cl_Beginning, T.n_Beginning_spent, lk_bf3, _, rfl, pb, _, db, _, _, rfl, b1, T.cl_Beginning, T.n_Beginning_ended, lk_bf4, (by show 2 ≤ sizeLine; decide), fun l0 n0 => ?_⟩
    have s2 := Same.upd (o := .lst [vn (spentOf h b.l), vn (endedOf h b.l)]) n0
    refine ⟨_, rfl, pb, _, db, _, _, rfl, s2 _ _ b1, T.cl_Beginning, T.n_Beginning_order, lk_bf2, l0, lo, _, _, rfl, rfl, upd_same, s2 _ _ b3, ?_, fun la nla => ?_⟩
    · have e1 : (jobsOf b.l) = z.2.2 := by rw [← ez]
      have hlen : z.2.2.length ≤ 1000 := by
        have hz' := best_is vh.sound
        obtain ⟨z', hz1, hz2, _⟩ := hz'
        rw [hz] at hz1
        have hz1 : z = z' := Option.some.inj hz1
        subst hz1
        have := trip_lens h (Si44.total (lens h)) [] z hz2
        have h8 : Si44.total (lens h) ≤ 8 := vh.steps
        omega
      rw [List.length_map, e1, sizeLine_eq]
      show 2 + _ ≤ _
      omega
    · refine k G _ W la ?_ (Fram.same ((s1.trans s2).trans (Same.upd nla))) ?_ (s1.free (s2.free nla))
      · rw [es]
        exact hH.keep ((s1.trans s2).trans (Same.upd nla))
      · rw [es, upd_same]
        show some (HO.lst (vn (spentOf h b.l) :: vn (endedOf h b.l) :: (jobsOf b.l).map vn)) = some (HO.lst (vn z.1 :: (Si44.ints (z.2.1 :: z.2.2)).map V.int))
        rw [map_ints, ← ez]
        rfl
def sp_count_orders (c : Cs) : Sp := fun vs H Q _ => ∃ (p : Addr) (h : Si44.House) (G : Hp) (W : List Addr), vs = [.ref p] ∧ HouseAt c G H p h W ∧ AfterCall c p h .ways emp G H W Q
theorem ok_count_orders {f : Addr} {fd : FuncData} (F : Fun K "count_orders" "House.count_orders" s_House_count_orders f fd) (T : Txt K mg c) (c_how_many_orders : Callee P w K mg base 1 "how_many_orders" ["jobs"] (sp_how_many_orders c))
    (c_best_order : Callee P w K mg base 6 "best_order" ["machines", "jobs"] (sp_best_order c)) : FnOk P w K mg base CX0 7 f fd ["self"] (sp_count_orders c) := by
  refine F.ok sc_House_count_orders (fun vs H Q E h => ?_) (fun cdv A outer s H vs Q E hr h => ?_)
  · obtain ⟨p, h, G, W, rfl, _⟩ := h
    rfl
  · obtain ⟨p, h, G, W, rfl, hH, k⟩ := h
    obtain ⟨dx, lm, lj, hp, hM, hJ, vh⟩ := hH.parts
    refine ⟨_, (pss_one (ps_ret (pe_lst (pa_cons (pe_fn c_how_many_orders (hr.mono (by decide)) (pa_cons (pe_fld (pv 0) rfl) pa_nil)) (pa_cons (pe_fld (pe_fn c_best_order (hr.mono (by decide)) (pa_cons (pe_fld (pv 0) rfl) (pa_cons (pe_fld (pv 0) rfl) pa_nil))) rfl) pa_nil))))), ?_⟩
    refine ⟨_, rfl, p, _, dx, _, _, rfl, hp, T.cl_House, T.n_House_jobs, lk_hf2, lj, h, rfl, hJ, vh.sound, ?_⟩
    refine ⟨_, rfl, p, _, dx, _, _, rfl, hp, T.cl_House, T.n_House_machines, lk_hf1, _, rfl, p, _, dx, _, _, rfl, hp, T.cl_House, T.n_House_jobs, lk_hf2, lm, lj, h, rfl, hM, hJ, vh.sound, fun H1 pb b z s1 hb hz ez ew hz2 hz3 => ?_⟩
    obtain ⟨db, ta, lo, L, b1, b2, b3⟩ := hb
    have es : Si44.step h .ways = (h, ⟨((hmany 0 1 (lens h) : Nat) : Int), Si44.ints [b.ways]⟩) := by
      have e1 : (Si44.step h .ways).1 = h := rfl
      have e2 := ways_is vh.sound hz2 hz3
      rw [ew, hmany_is vh.sound]
      exact Prod.ext e1 e2
    refine ⟨pb, _, db, _, _, rfl, b1, T.cl_Beginning, T.n_Beginning_ways, lk_bf5, (by show 2 ≤ sizeLine; decide), fun la nla => ?_⟩
    refine k G _ W la ?_ (Fram.same (s1.trans (Same.upd nla))) ?_ (s1.free nla)
    · rw [es]
      exact hH.keep (s1.trans (Same.upd nla))
    · rw [es, upd_same]
      rfl
theorem told_len (l : List Si44.Done) : ∀ w : List (Nat × Si44.Cause), (w.flatMap (told3 l)).length ≤ 3 * w.length
  | [] => Nat.le_refl _
  | x :: w => by
    rw [List.flatMap_cons, List.length_append, List.length_cons]
    have := told_len l w
    have : (told3 l x).length ≤ 3 := by unfold told3; cases l[x.1]? <;> simp
    omega
def sp_why (c : Cs) : Sp := fun vs H Q _ => ∃ (p lo : Addr) (h : Si44.House) (G : Hp) (W : List Addr) (j : Nat) (o : List Nat), vs = [.ref p, vn j, .ref lo] ∧ HouseAt c G H p h W ∧ H lo = some (.lst (o.map vn)) ∧ o.length ≤ 20 ∧ AfterCall c p h (.why j o) emp G H W Q
theorem ok_why {f : Addr} {fd : FuncData} (F : Fun K "why" "House.why" s_House_why f fd) (T : Txt K mg c) (c_is_order : Callee P w K mg base 2 "is_order" ["jobs", "order"] (sp_is_order c))
    (c_put_in_time : Callee P w K mg base 4 "put_in_time" ["machines", "jobs", "order"] (sp_put_in_time c)) (c_chain : Callee P w K mg base 4 "chain" ["jobs", "placed", "number"] (sp_chain c)) (c_late : Callee P w K mg base 1 "late" ["job", "end"] (sp_late c))
    (c_job_ends : Callee P w K mg base 1 "job_ends" ["jobs", "placed"] (sp_job_ends c)) : FnOk P w K mg base CX0 5 f fd ["self", "number", "order"] (sp_why c) := by
  refine F.ok sc_House_why (fun vs H Q E h => ?_) (fun cdv A outer s H vs Q E hr h => ?_)
  · obtain ⟨p, lo, h, G, W, j, o, rfl, _⟩ := h
    rfl
  · obtain ⟨p, lo, h, G, W, j, o, rfl, hH, hlo, ho, k⟩ := h
    have nd := sc_House_why.nd
    obtain ⟨dx, lm, lj, hp, hM, hJ, vh⟩ := hH.parts
    have v := vh.sound
    have hfew := vh.jobs_few
    have es : Si44.step h (.why j o) = (h, match Si44.times h o with
      | none => Si44.ok (-6)
      | some l => match h.jobs[j]? with
        | none => Si44.ok (-2)
        | some b => ⟨(Si44.lateOf l j b : Int), Si44.ints ((Si44.why h l j).length :: (Si44.why h l j).flatMap (told3 l))⟩) := by
      show (h, _) = (h, _)
      congr 1
    refine ⟨_, (pss_cons (ps_if (pt_not (pt_val (pe_fn c_is_order (hr.mono (by decide)) (pa_cons (pe_fld (pv 0) rfl) (pa_cons (pv 2) pa_nil))))) (pss_one (ps_ret (pe_lst (pa_cons (pe_const T.c_NO_ORDER) pa_nil)))) pss_nil)
    (pss_cons (ps_if (pt_cmpR o_ge (pv 1) (pe_callB cr_len (by rfl) T.b_len bt_len (pa_cons (pe_fld (pv 0) rfl) pa_nil)) (nomark _)) (pss_one (ps_ret (pe_lst (pa_cons (pe_const T.c_NOT_THERE) pa_nil)))) pss_nil)
    (pss_cons (ps_set (i := 3) nd rfl (Or.inl rfl) (pe_fn c_put_in_time (hr.mono (by decide)) (pa_cons (pe_fld (pv 0) rfl) (pa_cons (pe_fld (pv 0) rfl) (pa_cons (pv 2) pa_nil)))))
    (pss_cons (ps_set (i := 4) nd rfl (Or.inl rfl) (pe_fn c_chain (hr.mono (by decide)) (pa_cons (pe_fld (pv 0) rfl) (pa_cons (pv 3) (pa_cons (pv 1) pa_nil)))))
    (pss_cons (ps_set (i := 5) nd rfl (Or.inl rfl) (pe_lst (pa_cons (pe_fn c_late (hr.mono (by decide)) (pa_cons (pe_ix ix_list (pe_fld (pv 0) rfl) (pv 1) (fun _ _ => rfl)) (pa_cons (pe_ix ix_list (pe_fn c_job_ends (hr.mono (by decide)) (pa_cons (pe_fld (pv 0) rfl) (pa_cons (pv 3) pa_nil))) (pv 1) (fun _ _ => rfl)) pa_nil))) (pa_cons (pe_callB cr_len (by rfl) T.b_len bt_len (pa_cons (pv 4) pa_nil)) pa_nil))))
    (pss_cons (ps_for PassesOwn.never rfl (pi_list (pv 4)) (pg_tup rfl (pgs_cons (pg_name (i := 6) nd rfl (Or.inl rfl)) (pgs_cons (pg_name (i := 7) nd rfl (Or.inl rfl)) (pgs_cons (pg_name (i := 8) nd rfl (Or.inl rfl)) pgs_nil)))) (pss_one (ps_expr (pe_bm PySem.F.plainAttrs_list PySem.F.slot_list_extend PySem.F.type_list_extend mt_extend (pv 5) (pa_cons (pe_lst (pa_cons (pv 6) (pa_cons (pv 7) (pa_cons (pv 8) pa_nil)))) pa_nil)))))
    (pss_one (ps_ret (pv 5))))))))), ?_⟩
    refine ⟨_, rfl, p, _, dx, _, _, rfl, hp, T.cl_House, T.n_House_jobs, lk_hf2, _, rfl, lj, lo, h, o, rfl, hJ, by omega, hlo, fun H1 s1 => ⟨_, rfl, ite2 (fun q => ?_) (fun q => ?_)⟩⟩
    · have q : ¬ IsOrd h o := fun z => by rw [decide_eq_true z] at q; cases q
      have e : Si44.times h o = none := by
        cases z : Si44.times h o with
        | none => rfl
        | some l => exact absurd ((times_isSome h o).mp (by rw [z]; rfl)) q
      rw [e] at es
      exact refuse hH s1 k es
    have q : IsOrd h o := by
      by_cases z : IsOrd h o
      · exact z
      · rw [decide_eq_false z] at q; exact absurd rfl q
    obtain ⟨ds, hds⟩ := times_some q
    rw [hds] at es
    obtain ⟨jas, hlj, rj⟩ := id hJ
    refine ⟨_, rfl, _, rfl, p, _, dx, _, _, rfl, s1 _ _ hp, T.cl_House, T.n_House_jobs, lk_hf2, lj, _, rfl, .inl (SqL.of (s1 _ _ hlj)), _, _, rfl, rfl, _, rfl, ite2 (fun q2 => ?_) (fun q2 => ?_)⟩
    · have q2 := of_decide_eq_true q2
      rw [List.length_map, rj.1] at q2
      have e : h.jobs[j]? = none := List.getElem?_eq_none (by omega)
      rw [e] at es
      exact refuse hH s1 k es
    have q2 : j < h.jobs.length := by
      rcases Nat.lt_or_ge j h.jobs.length with z | z
      · exact z
      · refine absurd (decide_eq_true ?_) q2
        rw [List.length_map, rj.1]
        omega
    obtain ⟨b, hb⟩ := at_lt q2
    rw [hb] at es
    have hdl : ds.length ≤ 8 := by
      have h1 : (ds.map (·.job)).length = o.length := by rw [times_jobs hds]
      rw [List.length_map] at h1
      have h2 : Si44.total (lens h) ≤ 8 := vh.steps
      rw [h1, q.1]
      exact h2
    have hcn := times_cnt v hds hb
    refine ⟨_, rfl, p, _, dx, _, _, rfl, s1 _ _ hp, T.cl_House, T.n_House_machines, lk_hf1, _, rfl, p, _, dx, _, _, rfl, s1 _ _ hp, T.cl_House, T.n_House_jobs, lk_hf2, _, rfl, lm, lj, lo, h, o, ds, rfl, hM.keep s1, hJ.keep s1, v, s1 _ _ hlo, by omega, times_put hds, fun H2 pl s2 hpl npl => ?_⟩
    have s12 := s1.trans s2
    refine ⟨_, rfl, p, _, dx, _, _, rfl, s12 _ _ hp, T.cl_House, T.n_House_jobs, lk_hf2, _, rfl, _, rfl, lj, pl, j, h, ds, rfl, hJ.keep s12, hpl, times_made v hds, by omega, hcn.2, fun H3 ll las s3 hll rl hwl => ?_⟩
    have s13 := s12.trans s3
    obtain ⟨pj, hpj, hjb⟩ := rj.2 j b hb
    refine ⟨_, rfl, p, _, dx, _, _, rfl, s13 _ _ hp, T.cl_House, T.n_House_jobs, lk_hf2, _, rfl, lj, _, _, _, rfl, rfl, SqL.of (s13 _ _ hlj), atI_nat (ref_at hpj), ?_⟩
    refine ⟨_, rfl, p, _, dx, _, _, rfl, s13 _ _ hp, T.cl_House, T.n_House_jobs, lk_hf2, _, rfl, lj, pl, h, ds, rfl, hJ.keep s13, by omega, hpl.keep s3, times_in v hds, fun H4 le s4 hle => ?_⟩
    have s14 := s13.trans s4
    have hst : (stops h ds)[j]? = some (stopOf ds j) := by unfold stops; rw [range_get, if_pos q2]
    refine ⟨_, rfl, le, _, _, _, rfl, rfl, SqL.of hle, atI_nat (vn_at hst), pj, b, stopOf ds j, rfl, hjb.keep s14, ?_⟩
    rw [stop_end hcn.2 b]
    refine ⟨_, rfl, ll, _, rfl, .inl (SqL.of (s4 _ _ hll)), (by show 2 ≤ sizeLine; decide), fun la hla => ?_⟩
    have s5 := Same.upd (o := .lst [vn (Si44.endOf ds j b - b.due), V.int (((las.map V.ref).length : Nat) : Int)]) hla
    refine ⟨_, rfl, ll, rfl, ⟨_, SqL.of (s5 _ _ (s4 _ _ hll))⟩, for_list (K := K) (a := ll) (xs := las.map V.ref) (fun i σ H' => ∃ v6 v7 v8 : Option V, σ = [some (.ref p), some (vn j), some (.ref lo), some (.ref pl), some (.ref ll), some (.ref la), v6, v7, v8] ∧ Same H4 H' ∧ H' la = some (.lst ((((Si44.lateOf ds j b : Nat)) :: (Si44.why h ds j).length :: ((Si44.why h ds j).take i).flatMap (told3 ds)).map vn)))
      ⟨none, none, none, rfl, s5, ?_⟩ (fun i σ H' _ ⟨_, _, _, _, s6, _⟩ => SqL.of (s6 _ _ (s4 _ _ hll))) ?_ ?_⟩
    · rw [upd_same, List.length_map, rl.1]
      rfl
    · rintro i y σ H' hy ⟨v6, v7, v8, rfl, s6, hla'⟩
      obtain ⟨a, ha, rfl⟩ := map_at hy
      obtain ⟨x, hx, d, hd, hta⟩ := rl.at_ ha
      have hta := s6 _ _ (s4 _ _ hta)
      refine ⟨a, _, rfl, SqT.of hta, rfl, _, _, rfl, _, _, rfl, _, _, rfl, rfl, ?_⟩
      refine ⟨_, rfl, .inl ⟨rfl, _, SqL.of hla'⟩, _, rfl, _, rfl, _, rfl, (by show 3 ≤ sizeLine; decide), fun lx hlx => ?_⟩
      have nx : la ≠ lx := ne_of_none hla' hlx
      refine ⟨la, lx, _, _, rfl, rfl, (by rw [upd_ne nx]; exact hla'), upd_same, ?_, _, _, _, rfl, ?_, ?_⟩
      · have h1 := told_len ds ((Si44.why h ds j).take i)
        rw [List.length_take] at h1
        rw [List.length_map, List.length_cons, List.length_cons, sizeLine_eq]
        show _ + 3 ≤ _
        omega
      · have h0 : H4 la = none := hla
        exact (s6.trans (Same.upd hlx)).upd_r h0
      · rw [upd_same, take_at hx, List.flatMap_append, ← List.cons_append, ← List.cons_append, List.map_append]
        have e : told3 ds x = [d.job, d.step, Si44.causeOut x.2] := by unfold told3; rw [hd]
        rw [List.flatMap_cons, e]
        rfl
    · rintro σ H' ⟨v6, v7, v8, rfl, s6, hla'⟩
      rw [List.length_map, rl.1, List.take_length] at hla'
      refine ⟨_, rfl, k G H' W la ?_ (Fram.same (s14.trans s6)) ?_ (s14.free hla)⟩
      · rw [es]
        exact hH.keep (s14.trans s6)
      · rw [es, hla']
        show some (HO.lst (vn (Si44.lateOf ds j b) :: ((Si44.why h ds j).length :: (Si44.why h ds j).flatMap (told3 ds)).map vn)) = some (HO.lst (vn (Si44.lateOf ds j b) :: (Si44.ints ((Si44.why h ds j).length :: (Si44.why h ds j).flatMap (told3 ds))).map V.int))
        rw [map_ints]
def sp_slack (c : Cs) : Sp := fun vs H Q _ => ∃ (p lo : Addr) (h : Si44.House) (G : Hp) (W : List Addr) (j i : Nat) (o : List Nat), vs = [.ref p, vn j, vn i, .ref lo] ∧ HouseAt c G H p h W ∧ H lo = some (.lst (o.map vn)) ∧ o.length ≤ 20 ∧ AfterCall c p h (.slack j i o) emp G H W Q
theorem ok_slack {f : Addr} {fd : FuncData} (F : Fun K "slack" "House.slack" s_House_slack f fd) (T : Txt K mg c) (c_is_order : Callee P w K mg base 2 "is_order" ["jobs", "order"] (sp_is_order c))
    (c_most_longer : Callee P w K mg base 6 "most_longer" ["machines", "jobs", "number", "which", "order"] (sp_most_longer c)) : FnOk P w K mg base CX0 7 f fd ["self", "number", "which", "order"] (sp_slack c) := by
  refine F.ok sc_House_slack (fun vs H Q E h => ?_) (fun cdv A outer s H vs Q E hr h => ?_)
  · obtain ⟨p, lo, h, G, W, j, i, o, rfl, _⟩ := h
    rfl
  · obtain ⟨p, lo, h, G, W, j, i, o, rfl, hH, hlo, ho, k⟩ := h
    obtain ⟨dx, lm, lj, hp, hM, hJ, vh⟩ := hH.parts
    have v := vh.sound
    have hfew := vh.jobs_few
    obtain ⟨jas, hlj, rj⟩ := id hJ
    have es : Si44.step h (.slack j i o) = (h, match (h.jobs[j]?).bind fun b => b.steps[i]? with
      | none => Si44.ok (-2)
      | some _ => match Si44.slack h o j i with
        | none => Si44.ok (-6)
        | some d => Si44.ok (d : Int)) := rfl
    refine ⟨_, (pss_cons (ps_if (pw_or (pt_cmpR o_ge (pv 1) (pe_callB cr_len (by rfl) T.b_len bt_len (pa_cons (pe_fld (pv 0) rfl) pa_nil)) (nomark _)) (pw_or1 (pt_cmpR o_ge (pv 2) (pe_callB cr_len (by rfl) T.b_len bt_len (pa_cons (pe_fld (pe_ix ix_list (pe_fld (pv 0) rfl) (pv 1) (fun _ _ => rfl)) rfl) pa_nil)) (nomark _)))).pt (pss_one (ps_ret (pe_lst (pa_cons (pe_const T.c_NOT_THERE) pa_nil)))) pss_nil)
    (pss_cons (ps_if (pt_not (pt_val (pe_fn c_is_order (hr.mono (by decide)) (pa_cons (pe_fld (pv 0) rfl) (pa_cons (pv 3) pa_nil))))) (pss_one (ps_ret (pe_lst (pa_cons (pe_const T.c_NO_ORDER) pa_nil)))) pss_nil)
    (pss_one (ps_ret (pe_lst (pa_cons (pe_fn c_most_longer (hr.mono (by decide)) (pa_cons (pe_fld (pv 0) rfl) (pa_cons (pe_fld (pv 0) rfl) (pa_cons (pv 1) (pa_cons (pv 2) (pa_cons (pv 3) pa_nil)))))) pa_nil)))))), ?_⟩
    refine ⟨_, rfl, _, rfl, p, _, dx, _, _, rfl, hp, T.cl_House, T.n_House_jobs, lk_hf2, lj, _, rfl, .inl (SqL.of hlj), _, _, rfl, rfl, _, rfl, ite2 (fun q => ?_) (fun q => ?_)⟩
    · have q := of_decide_eq_true q
      rw [List.length_map, rj.1] at q
      have e : h.jobs[j]? = none := List.getElem?_eq_none (by omega)
      rw [e] at es
      exact iteT (refuse hH (Same.refl _) k es)
    have q : j < h.jobs.length := by
      rcases Nat.lt_or_ge j h.jobs.length with z | z
      · exact z
      · refine absurd (decide_eq_true ?_) q
        rw [List.length_map, rj.1]
        omega
    obtain ⟨b, hb⟩ := at_lt q
    rw [hb, Option.bind_some] at es
    obtain ⟨pj, hpj, dj, ls, sas, j1, j2, j3, j4⟩ := rj.2 j b hb
    refine ⟨_, rfl, _, rfl, p, _, dx, _, _, rfl, hp, T.cl_House, T.n_House_jobs, lk_hf2, _, rfl, lj, _, _, _, rfl, rfl, SqL.of hlj, atI_nat (ref_at hpj), pj, _, dj, _, _, rfl, j1, T.cl_Job, T.n_Job_steps, lk_jf4, ls, _, rfl, .inl (SqL.of j2), _, _, rfl, rfl, _, rfl, ite2 (fun q2 => ?_) (fun q2 => ?_)⟩
    · have q2 := of_decide_eq_true q2
      rw [List.length_map, j3.1] at q2
      have e : b.steps[i]? = none := List.getElem?_eq_none (by omega)
      rw [e] at es
      exact refuse hH (Same.refl _) k es
    have q2 : i < b.steps.length := by
      rcases Nat.lt_or_ge i b.steps.length with z | z
      · exact z
      · refine absurd (decide_eq_true ?_) q2
        rw [List.length_map, j3.1]
        omega
    obtain ⟨st, hst⟩ := at_lt q2
    rw [hst] at es
    refine ⟨_, rfl, p, _, dx, _, _, rfl, hp, T.cl_House, T.n_House_jobs, lk_hf2, _, rfl, lj, lo, h, o, rfl, hJ, by omega, hlo, fun H1 s1 => ⟨_, rfl, ite2 (fun q3 => ?_) (fun q3 => ?_)⟩⟩
    · have q3 : ¬ IsOrd h o := fun z => by rw [decide_eq_true z] at q3; cases q3
      rw [slack_none q3] at es
      exact refuse hH s1 k es
    have q3 : IsOrd h o := by
      by_cases z : IsOrd h o
      · exact z
      · rw [decide_eq_false z] at q3; exact absurd rfl q3
    refine ⟨_, rfl, p, _, dx, _, _, rfl, s1 _ _ hp, T.cl_House, T.n_House_machines, lk_hf1, _, rfl, p, _, dx, _, _, rfl, s1 _ _ hp, T.cl_House, T.n_House_jobs, lk_hf2, _, rfl, _, rfl, _, rfl, lm, lj, lo, h, j, i, o, b, st, rfl, hM.keep s1, hJ.keep s1, v, hb, hst, s1 _ _ hlo, by omega, q3, fun H2 d s2 hd => ?_⟩
    rw [hd] at es
    exact refuse hH (s1.trans s2) k es
end
end Sj
end
section
set_option Elab.async false
set_option linter.all false
set_option maxRecDepth 100000
set_option maxHeartbeats 2000000
namespace Sj
open PySem PySem.Spec PyProof.Rows L2
def sp_answer_to (c : Cs) : Sp := fun vs H Q _ => ∃ (p l : Addr) (h : Si44.House) (G : Hp) (W : List Addr) (cp : Int) (ns : List Int) (q : Si44.Call), vs = [.ref p, .int cp, .ref l] ∧ HouseAt c G H p h W ∧ H l = some (.lst (ns.map V.int)) ∧ (∀ z ∈ cp :: ns, 0 ≤ z ∧ z < 2 ^ 32) ∧ Si44Neutral.callOf (cp :: ns) = some q ∧ AfterCall c p h q emp G H W Q
def sp_answers (K : PySem.W.Frag) : Sp := fun vs H Q _ => ∃ (a : Addr) (l : List Int), vs = [.ref a] ∧ SqL K H a (l.map V.int) ∧ l.length ≤ 3000 ∧ PySi44.answers_asked l = true ∧ ∀ (H' : Hp) (p : Addr), H' p = some (.lst ((PySi44.answers l).map V.int)) → Q (.ref p) H'
def leftAt (n : Nat) (σ : L2.St) : Nat := match σ[3]? with
  | some (some (V.int z)) => n - z.toNat
  | _ => 0
theorem cut_eq {l pre mid post : List Int} (e : l = pre ++ (mid ++ post)) : cutV (l.map V.int) (some ((pre.length : Nat) : Int)) (some (((pre.length + mid.length : Nat)) : Int)) = mid.map V.int := by
  subst e
  unfold cutV
  rw [HT.sIx_nat, HT.sIx_nat, List.length_map, List.length_append, List.length_append]
  rw [Nat.min_eq_left (by omega), Nat.min_eq_left (by omega), List.map_append, List.map_append]
  have e1 : (pre.map V.int).length = pre.length := List.length_map _
  rw [← e1, List.drop_left]
  have e2 : (pre.map V.int).length + mid.length - (pre.map V.int).length = (mid.map V.int).length := by rw [List.length_map, List.length_map]; omega
  rw [e2, List.take_left]
theorem drop_of {α : Type} {l pre t : List α} {n : Nat} (e : l = pre ++ t) (hn : pre.length = n) : l.drop n = t := by
  subst hn
  rw [e]
  exact List.drop_left
theorem told_cons (a : List Int) (r : List (List Int)) : PyFlat.told (a :: r) = (a.length : Int) :: (a ++ PyFlat.told r) := by
  unfold PyFlat.told
  rw [List.flatMap_cons]
  rfl
theorem HouseAt.other {c : Cs} {G H : Hp} {p g : Addr} {h : Si44.House} {W : List Addr} {xs ys : List V} (x : HouseAt c G H p h W) (hg : H g = some (.lst xs)) (gW : g ∉ W) (gG : G g = none) : HouseAt c G (upd H g (.lst ys)) p h W := by
  obtain ⟨dx, lm, lj, eW, ne, hp, sG, gN, ⟨mas, hm, rm⟩, ⟨jas, hj, rj⟩, v⟩ := x
  subst eW
  have n : ∀ b ∈ [p, lm, lj], b ≠ g := fun b hb z => gW (by rw [← z]; exact hb)
  refine ⟨dx, lm, lj, rfl, ne, ?_, sG.upd_r gG, gN, ⟨mas, ?_, rm⟩, ⟨jas, ?_, rj⟩, v⟩
  · rw [upd_ne (n p (by simp))]; exact hp
  · rw [upd_ne (n lm (by simp))]; exact hm
  · rw [upd_ne (n lj (by simp))]; exact hj
section
variable {P : Program} {w : World} {K : PySem.W.Frag} {mg : Str → Option Value} {base : Heap} {c : Cs}
theorem ok_answers {f : Addr} {fd : FuncData} (F : Fun K "answers" "answers" s_answers f fd) (T : Txt K mg c) (c_House : KCallee P w K mg base 1 "House" c.cHouse ["self"] (sp_house_init c))
    (c_answer_to : Callee P w K mg base 8 "answer_to" ["house", "call", "numbers"] (sp_answer_to c)) : FnOk P w K mg base CX0 9 f fd ["calls"] (sp_answers K) := by
  refine F.ok sc_answers (fun vs H Q E h => ?_) (fun cdv A outer s H vs Q E hr h => ?_)
  · obtain ⟨a, l, rfl, _⟩ := h
    rfl
  · obtain ⟨a, l, rfl, hsq, hlen, hask, k⟩ := h
    have nd := sc_answers.nd
    obtain ⟨cs0, hcs, hok, hshort, hfew⟩ : ∃ cs0, PyWide.calls l.length l = some cs0 ∧ (∀ c ∈ cs0, Si44Neutral.asked1 c = true) ∧ Si44Neutral.short Si44Neutral.start 999999 cs0 = true ∧ cs0.length ≤ 60 := by
      unfold PySi44.answers_asked PySi44.calls at hask
      cases e : PyWide.calls l.length l with
      | none => rw [e] at hask; cases hask
      | some cs =>
        rw [e] at hask
        unfold Si44Neutral.asked PyFlat.atMost at hask
        simp only [Bool.and_eq_true, List.all_eq_true, decide_eq_true_eq] at hask
        exact ⟨cs, rfl, hask.2.1, hask.2.2.2.2.2, hask.1⟩
    have hans : PySi44.answers l = PyFlat.told (PyFlat.played Si44Neutral.step Si44Neutral.start cs0) := by
      unfold PySi44.answers PySi44.calls
      rw [hcs]
    refine ⟨_, (pss_cons (ps_set (i := 1) nd rfl (Or.inl rfl) (pe_mk0 c_House (hr.mono (by decide))))
    (pss_cons (ps_set (i := 2) nd rfl (Or.inl rfl) (pe_lst pa_nil))
    (pss_cons (ps_set (i := 3) nd rfl (Or.inl rfl) pe_int)
    (pss_cons (ps_while PassesOwn.never (pt_cmpR o_lt (pv 3) (pe_callB cr_len (by rfl) T.b_len bt_len (pa_cons (pv 0) pa_nil)) (nomark _)) (pss_cons (ps_set (i := 4) nd rfl (Or.inl rfl) (pe_op o_add (pe_op o_add (pv 3) pe_int) (pe_ix ix_list (pv 0) (pe_op o_add (pv 3) pe_int) (fun _ _ => rfl))))
      (pss_cons (ps_set (i := 5) nd rfl (Or.inl rfl) (pe_fn c_answer_to (hr.mono (by decide)) (pa_cons (pv 1) (pa_cons (pe_ix ix_list (pv 0) (pv 3) (fun _ _ => rfl)) (pa_cons (pe_slice sl_list (pv 0) (po_some (pe_op o_add (pv 3) pe_int)) (po_some (pv 4))) pa_nil)))))
      (pss_cons (ps_expr (pe_bm PySem.F.plainAttrs_list PySem.F.slot_list_append PySem.F.type_list_append mt_append (pv 2) (pa_cons (pe_callB cr_len (by rfl) T.b_len bt_len (pa_cons (pv 5) pa_nil)) pa_nil)))
      (pss_cons (ps_expr (pe_bm PySem.F.plainAttrs_list PySem.F.slot_list_extend PySem.F.type_list_extend mt_extend (pv 2) (pa_cons (pv 5) pa_nil)))
      (pss_one (ps_set (i := 3) nd rfl (Or.inl rfl) (pe_op o_add (pv 4) pe_int))))))))
    (pss_one (ps_ret (pv 2))))))), ?_⟩
    intro x dx hx hdx hne
    refine ⟨x, dx, rfl, upd_same, fun H1 W hH1 fr1 own1 => ⟨rfl, ?_⟩⟩
    have s1 : Same H H1 := fun b o e => fr1 b o (by rw [upd_ne (ne_of_none e hx), upd_ne (ne_of_none e hdx)]; exact e) (ne_of_none e hx)
    have w1 : ∀ b ∈ W, H b = none := fun b hb => by
      rcases own1 b hb with z | z
      · rw [z]; exact hx
      · cases q : H b with
        | none => rfl
        | some o =>
          rw [upd_ne (ne_of_none q hx), upd_ne (ne_of_none q hdx), q] at z
          cases z
    refine ⟨Nat.zero_le _, fun g hg => ?_⟩
    have hg0 : H g = none := s1.free hg
    have gW : g ∉ W := fun z => by
      obtain ⟨dx', lm, lj, eW, ne, hp, sG, _, ⟨mas, hm, rm⟩, ⟨jas, hj, rj⟩, v⟩ := hH1
      rw [eW] at z
      rcases List.mem_cons.mp z with z | z
      · rw [z, hp] at hg; cases hg
      rcases List.mem_cons.mp z with z | z
      · rw [z, hm] at hg; cases hg
      · rw [List.mem_singleton.mp z, hj] at hg; cases hg
    refine while_by (fun σ H' => ∃ (i : Nat) (cs : List (List (List Int))) (h : Si44.House) (G : Hp) (W : List Addr) (gs : List Int) (n : Nat) (v4 v5 : Option V), σ = [some (.ref a), some (.ref x), some (.ref g), some (vn i), v4, v5] ∧ i ≤ l.length ∧ Left (l.drop i) cs h n ∧
        HouseAt c G H' x h W ∧ (∀ b ∈ W, H b = none) ∧ g ∉ W ∧ G g = none ∧ H' g = some (.lst (gs.map V.int)) ∧ Same H H' ∧ gs ++ PyFlat.told (PyFlat.played Si44Neutral.step h cs) = PySi44.answers l ∧ gs.length + n + cs.length ≤ 1000059)
      (fun σ _ => leftAt l.length σ)
      ⟨0, cs0, Si44.init, emp, W, [], 999999, none, none, rfl, Nat.zero_le _, ⟨⟨_, hcs⟩, hok, hshort⟩, hH1.keep (Same.upd hg), w1, gW, rfl, upd_same, s1.upd_r hg0, hans.symm, by show 0 + _ + _ ≤ _; omega⟩ ?_ ?_
    · rintro σ H' ⟨i, cs, h, G, W, gs, n, v4, v5, rfl, hi, L, hH, wH, gW, gG, hgs, sH, hall, hbound⟩
      have hsq' := sH.seq hsq
      refine ⟨_, rfl, _, rfl, a, _, rfl, .inl hsq', _, _, rfl, rfl, _, rfl, ite2 (fun q => ?_) (fun q => ?_)⟩
      · have q := of_decide_eq_true q
        rw [List.length_map] at q
        have hil : i < l.length := by omega
        obtain ⟨cp, hcp⟩ := at_lt hil
        rw [drop_at hcp] at L
        obtain ⟨ns, t, cr, cq, ecs, er, hq, hz, hn, L', hst⟩ := L.turn
        subst ecs
        have edrop : l.drop i = cp :: (ns.length : Int) :: (ns ++ 0 :: t) := by rw [drop_at hcp, er]
        have esp : l = (l.take i ++ [cp, (ns.length : Int)]) ++ (ns ++ (0 :: t)) := by
          rw [List.append_assoc]
          show l = l.take i ++ (cp :: (ns.length : Int) :: (ns ++ 0 :: t))
          rw [← edrop, List.take_append_drop]
        have epre : (l.take i ++ [cp, (ns.length : Int)]).length = i + 2 := by rw [List.length_append, List.length_take]; show min i l.length + 2 = _; omega
        have hat1 : l[i + 1]? = some (ns.length : Int) := by
          have : (l.drop i)[1]? = some (ns.length : Int) := by rw [edrop]; rfl
          rw [List.getElem?_drop] at this
          exact this
        have hbl : i + 2 + ns.length + 1 ≤ l.length := by
          have := congrArg List.length esp
          rw [List.length_append, epre, List.length_append, List.length_cons] at this
          omega
        have hint : ∀ {j : Nat} {z : Int}, l[j]? = some z → (l.map V.int)[j]? = some (V.int z) := fun {j z} e => by rw [List.getElem?_map, e]; rfl
        refine ⟨_, rfl, _, _, rfl, rfl, _, rfl, _, rfl, _, _, rfl, rfl, a, _, _, _, rfl, rfl, hsq', at_of (j := i + 1) (by push_cast; rfl) (hint hat1), _, _, rfl, rfl, ?_⟩
        dsimp only
        rw [show ((i : Nat) : Int) + 2 + (ns.length : Int) = ((i + 2 + ns.length : Nat) : Int) by push_cast; rfl]
        refine ⟨_, rfl, _, rfl, _, rfl, a, _, _, _, rfl, rfl, hsq', at_of (j := i) rfl (hint hcp), _, rfl, _, rfl, _, _, rfl, rfl, _, rfl, _, rfl, _, rfl, a, _, rfl, hsq', fun ls hls => ?_⟩
        have ecut : cutV (l.map V.int) (some (((i : Nat) : Int) + 2)) (some (((i + 2 + ns.length : Nat)) : Int)) = ns.map V.int := by
          have := cut_eq esp
          rw [epre] at this
          exact this
        rw [ecut]
        have s2 : Same H' (upd H' ls (.lst (ns.map V.int))) := Same.upd hls
        refine ⟨x, ls, h, G, W, cp, ns, cq, rfl, hH.keep s2, upd_same, hz, hq, fun G2 H2 W2 la hH2 fr2 hla nla => ?_⟩
        have ngl : g ≠ ls := ne_of_none hgs hls
        have hg2 : H2 g = some (.lst (gs.map V.int)) := fr2.keep _ _ (s2 _ _ hgs) gW
        have sH2 : Same H H2 := fun b o e => fr2.keep b o (s2 _ _ (sH _ _ e)) (fun z => by rw [wH b z] at e; cases e)
        have gW2 : g ∉ W2 := fun z => by
          rcases fr2.own g z with y | y
          · exact gW y
          · rw [s2 _ _ hgs] at y; cases y
        have wH2 : ∀ b ∈ W2, H b = none := fun b hb => by
          rcases fr2.own b hb with y | y
          · exact wH b y
          · exact (sH.trans s2).free y
        have hal : (ansL (Si44.step h cq).2).length = 1 + (Si44.step h cq).2.l.length := by unfold ansL; rw [List.length_cons]; omega
        rw [List.length_cons] at hbound
        refine ⟨_, rfl, .inl ⟨rfl, _, SqL.of hg2⟩, _, rfl, la, _, rfl, .inl (SqL.of hla), g, _, _, rfl, rfl, hg2, ?_, ?_⟩
        · rw [List.length_map, sizeLine_eq]
          omega
        obtain ⟨H3, e3⟩ : ∃ H3, H3 = upd H2 g (.lst ((gs ++ [((1 + (Si44.step h cq).2.l.length : Nat) : Int)]).map V.int)) := ⟨_, rfl⟩
        have e3' : upd H2 g (.lst (gs.map V.int ++ [V.int (((((ansL (Si44.step h cq).2).map V.int).length : Nat)) : Int)])) = H3 := by rw [e3, List.length_map, hal, List.map_append]; rfl
        rw [e3']
        have g3 : H3 g = some (.lst ((gs ++ [((1 + (Si44.step h cq).2.l.length : Nat) : Int)]).map V.int)) := by rw [e3]; exact upd_same
        have nlg : la ≠ g := fun z => by rw [z, s2 _ _ hgs] at nla; cases nla
        have la3 : H3 la = some (.lst ((ansL (Si44.step h cq).2).map V.int)) := by rw [e3, upd_ne nlg]; exact hla
        refine ⟨_, rfl, .inl ⟨rfl, _, SqL.of g3⟩, _, rfl, g, la, _, _, rfl, rfl, g3, la3, ?_, ?_⟩
        · rw [List.length_map, List.length_map, List.length_append, hal, sizeLine_eq]
          show gs.length + 1 + _ ≤ _
          omega
        have gG2 : G2 g = none := fr2.part g _ (s2 _ _ hgs) gG rfl
        refine ⟨_, rfl, _, _, rfl, rfl, ⟨i + 2 + ns.length + 1, cr, (Si44.step h cq).1, G2, W2, (gs ++ [((1 + (Si44.step h cq).2.l.length : Nat) : Int)]) ++ ansL (Si44.step h cq).2, n - (1 + (Si44.step h cq).2.l.length), _, _, rfl, hbl, ?_, ?_, wH2, gW2, gG2, ?_, ?_, ?_, ?_⟩, ?_⟩
        · have : l.drop (i + 2 + ns.length + 1) = t := by
            have e4 : l = (l.take i ++ [cp, (ns.length : Int)] ++ ns ++ [0]) ++ t := by
              rw [List.append_assoc (l.take i ++ [cp, (ns.length : Int)] ++ ns), List.append_assoc (l.take i ++ [cp, (ns.length : Int)])]
              exact esp
            have e5 : (l.take i ++ [cp, (ns.length : Int)] ++ ns ++ [0]).length = i + 2 + ns.length + 1 := by rw [List.length_append, List.length_append, epre]; rfl
            exact drop_of e4 e5
          rw [this]
          exact L'
        · rw [e3, upd_upd]
          exact hH2.other hg2 gW2 gG2
        · rw [upd_same, ← List.map_append]
        · rw [e3, upd_upd]
          exact sH2.upd_r hg0
        · rw [← hall]
          show _ = gs ++ PyFlat.told (PyFlat.played Si44Neutral.step h ([cp :: ns] :: cr))
          have e6 : PyFlat.played Si44Neutral.step h ([cp :: ns] :: cr) = ansL (Si44.step h cq).2 :: PyFlat.played Si44Neutral.step (Si44.step h cq).1 cr := by
            show (Si44Neutral.step h [cp :: ns]).2 :: PyFlat.played Si44Neutral.step (Si44Neutral.step h [cp :: ns]).1 cr = _
            rw [hst]
            rfl
          rw [e6, told_cons, hal, List.append_assoc, List.append_assoc]
          rfl
        · rw [List.length_append, List.length_append, hal]
          show gs.length + 1 + _ + _ + _ ≤ _
          omega
        · show l.length - (((i + 2 + ns.length : Nat) : Int) + 1).toNat < l.length - ((i : Nat) : Int).toNat
          omega
      · have q : ¬ ((i : Nat) : Int) < (((l.map V.int).length : Nat) : Int) := fun z => q (decide_eq_true z)
        rw [List.length_map] at q
        have hil : i = l.length := by omega
        subst hil
        rw [List.drop_length] at L
        obtain ⟨fl, hfl⟩ := L.parse
        have ecs := calls_nil hfl
        subst ecs
        have e : gs = PySi44.answers l := by rw [← hall]; exact (List.append_nil _).symm
        subst e
        exact ⟨_, rfl, k H' g hgs⟩
    · rintro σ H' Q1 Q2 hQ ⟨v, h1, v2, h2, p', ys, h3, h4, i', j', h5, h6, b, h7, h8⟩
      exact ⟨v, h1, v2, h2, p', ys, h3, h4, i', j', h5, h6, b, h7, hQ _ _ h8⟩
end
end Sj
end
section
set_option Elab.async false
set_option linter.all false
set_option maxRecDepth 100000
set_option maxHeartbeats 2000000
namespace Sj
open PySem PySem.Spec PyProof.Rows L2
theorem if_no {x y : V} {A B : Prop} (h : x ≠ y) (k : B) : if decide (x = y) = true then A else B := by
  rw [decide_eq_false h]
  exact iteF k
theorem if_yes {x : V} {A B : Prop} (k : A) : if decide (x = x) = true then A else B := by
  rw [decide_eq_true rfl]
  exact iteT k
theorem AfterCall.via {c : Cs} {p : Addr} {h : Si44.House} {q : Si44.Call} {G H H1 : Hp} {W : List Addr} {Q : VK} (k : AfterCall c p h q emp G H W Q) (s : Same H H1) : AfterCall c p h q (newOf H H1) G H1 W Q :=
  fun G' H' W' la x fr hla nla => k G' H' W' la x ⟨fun b o e n => fr.keep b o (s _ _ e) n, fun b hb => (fr.own b hb).imp id s.free, fun b o e g _ => fr.part b o (s _ _ e) g (newOf_old e)⟩ hla (s.free nla)
theorem up_vn (o : List Nat) : (up o).map V.int = o.map vn := by
  unfold up
  rw [List.map_map]
  rfl
theorem HouseAt.own {c : Cs} {G H : Hp} {p : Addr} {h : Si44.House} {W : List Addr} (x : HouseAt c G H p h W) : ∀ b ∈ W, ∃ o, H b = some o := fun b hb => by
  obtain ⟨dx, lm, lj, eW, ne, hp, sG, gN, ⟨mas, hm, rm⟩, ⟨jas, hj, rj⟩, v⟩ := x
  rw [eW] at hb
  rcases List.mem_cons.mp hb with z | z
  · exact ⟨_, by rw [z]; exact hp⟩
  rcases List.mem_cons.mp z with z | z
  · exact ⟨_, by rw [z]; exact hm⟩
  · exact ⟨_, by rw [List.mem_singleton.mp z]; exact hj⟩
theorem lk_hf0 {lm lj : Addr} {m : Str} (h1 : (m == ("machines" : Str)) = false) (h2 : (m == ("jobs" : Str)) = false) : (hf lm lj).lookup m = none := by
  unfold hf
  simp [List.lookup, h1, h2]
section
variable {P : Program} {w : World} {K : PySem.W.Frag} {mg : Str → Option Value} {base : Heap} {c : Cs}
theorem AfterCall.later {c : Cs} {p : Addr} {h : Si44.House} {q : Si44.Call} {G H H1 : Hp} {W : List Addr} {Q : VK} (k : AfterCall c p h q emp G H W Q) (s : Same H H1) : AfterCall c p h q emp G H1 W Q :=
  fun G' H' W' la x fr hla nla => k G' H' W' la x ⟨fun b o e n => fr.keep b o (s _ _ e) n, fun b hb => (fr.own b hb).imp id s.free, fun b o e g z => fr.part b o (s _ _ e) g z⟩ hla (s.free nla)
theorem cut1 (j : Nat) (o : List Nat) : cutV ((j :: o).map vn) (some 1) none = o.map vn := cut_from ((j :: o).map vn) 1
theorem cut2 (j i : Nat) (o : List Nat) : cutV ((j :: i :: o).map vn) (some 2) none = o.map vn := cut_from ((j :: i :: o).map vn) 2
theorem ok_answer_to {f : Addr} {fd : FuncData} (F : Fun K "answer_to" "answer_to" s_answer_to f fd) (T : Txt K mg c)
    (c_House_begin_anew : MCallee P w K mg base 1 c.cHouse "begin_anew" ["self"] (sp_begin_anew c))
    (c_House_add_machine : MCallee P w K mg base 3 c.cHouse "add_machine" ["self", "machine"] (sp_add_machine c))
    (c_House_add_job : MCallee P w K mg base 3 c.cHouse "add_job" ["self", "job"] (sp_add_job c))
    (c_House_drop_job : MCallee P w K mg base 1 c.cHouse "drop_job" ["self", "number"] (sp_drop_job c))
    (c_House_times_by : MCallee P w K mg base 5 c.cHouse "times_by" ["self", "order"] (sp_times_by c))
    (c_House_best : MCallee P w K mg base 7 c.cHouse "best" ["self"] (sp_best c))
    (c_House_count_orders : MCallee P w K mg base 7 c.cHouse "count_orders" ["self"] (sp_count_orders c))
    (c_House_why : MCallee P w K mg base 5 c.cHouse "why" ["self", "number", "order"] (sp_why c))
    (c_House_slack : MCallee P w K mg base 7 c.cHouse "slack" ["self", "number", "which", "order"] (sp_slack c))
    (c_told_machine : Callee P w K mg base 3 "told_machine" ["numbers"] (sp_told_machine c))
    (c_told_job : Callee P w K mg base 3 "told_job" ["numbers"] (sp_told_job c)) :
    FnOk P w K mg base CX0 8 f fd ["house", "call", "numbers"] (sp_answer_to c) := by
  refine F.ok sc_answer_to (fun vs H Q E h => ?_) (fun cdv A outer s H vs Q E hr h => ?_)
  · obtain ⟨p, l, h, G, W, cp, ns, q, rfl, _⟩ := h
    rfl
  · obtain ⟨p, l, h, G, W, cp, ns, q, rfl, hH, hl, hz, hq, k⟩ := h
    have nd := sc_answer_to.nd
    have hc := callOf_is hz hq
    clear hz hq
    obtain ⟨dx, lm, lj, hp, _, _, _⟩ := hH.parts
    refine ⟨_, (pss_cons (ps_if (pt_cmpR op_eq (pv 1) (pe_const T.c_CALL_BEGINS) (nomark _)) (pss_one (ps_ret (pe_mt0 T.cl_House c_House_begin_anew (hr.mono (by decide)) (pv 0)))) pss_nil)
    (pss_cons (ps_if (pt_cmpR op_eq (pv 1) (pe_const T.c_CALL_MACHINE) (nomark _)) (pss_one (ps_ret (pe_mt T.cl_House c_House_add_machine (hr.mono (by decide)) (pv 0) (pa_cons (pe_fn c_told_machine (hr.mono (by decide)) (pa_cons (pv 2) pa_nil)) pa_nil)))) pss_nil)
    (pss_cons (ps_if (pt_cmpR op_eq (pv 1) (pe_const T.c_CALL_JOB) (nomark _)) (pss_one (ps_ret (pe_mt T.cl_House c_House_add_job (hr.mono (by decide)) (pv 0) (pa_cons (pe_fn c_told_job (hr.mono (by decide)) (pa_cons (pv 2) pa_nil)) pa_nil)))) pss_nil)
    (pss_cons (ps_if (pt_cmpR op_eq (pv 1) (pe_const T.c_CALL_DROP) (nomark _)) (pss_one (ps_ret (pe_mt T.cl_House c_House_drop_job (hr.mono (by decide)) (pv 0) (pa_cons (pe_ix ix_list (pv 2) pe_int (fun _ _ => rfl)) pa_nil)))) pss_nil)
    (pss_cons (ps_if (pt_cmpR op_eq (pv 1) (pe_const T.c_CALL_TIMES) (nomark _)) (pss_one (ps_ret (pe_mt T.cl_House c_House_times_by (hr.mono (by decide)) (pv 0) (pa_cons (pv 2) pa_nil)))) pss_nil)
    (pss_cons (ps_if (pt_cmpR op_eq (pv 1) (pe_const T.c_CALL_BEST) (nomark _)) (pss_one (ps_ret (pe_mt0 T.cl_House c_House_best (hr.mono (by decide)) (pv 0)))) pss_nil)
    (pss_cons (ps_if (pt_cmpR op_eq (pv 1) (pe_const T.c_CALL_WAYS) (nomark _)) (pss_one (ps_ret (pe_mt0 T.cl_House c_House_count_orders (hr.mono (by decide)) (pv 0)))) pss_nil)
    (pss_cons (ps_if (pt_cmpR op_eq (pv 1) (pe_const T.c_CALL_WHY) (nomark _)) (pss_one (ps_ret (pe_mt T.cl_House c_House_why (hr.mono (by decide)) (pv 0) (pa_cons (pe_ix ix_list (pv 2) pe_int (fun _ _ => rfl)) (pa_cons (pe_slice sl_list (pv 2) (po_some pe_int) po_none) pa_nil))))) pss_nil)
    (pss_cons (ps_if (pt_cmpR op_eq (pv 1) (pe_const T.c_CALL_SLACK) (nomark _)) (pss_one (ps_ret (pe_mt T.cl_House c_House_slack (hr.mono (by decide)) (pv 0) (pa_cons (pe_ix ix_list (pv 2) pe_int (fun _ _ => rfl)) (pa_cons (pe_ix ix_list (pv 2) pe_int (fun _ _ => rfl)) (pa_cons (pe_slice sl_list (pv 2) (po_some pe_int) po_none) pa_nil)))))) pss_nil)
    (pss_one ps_never)))))))))), ?_⟩
    cases hc with
    | begins => exact ⟨_, rfl, rfl, _, rfl, if_yes ⟨_, rfl, p, dx, _, rfl, hp, lk_hf0 (by decide) (by decide), p, h, G, W, rfl, hH, k⟩⟩
    | machine m hm =>
      rw [up_vn] at hl
      exact ⟨_, rfl, rfl, _, rfl, if_no (by decide) ⟨_, rfl, rfl, _, rfl, if_yes ⟨_, rfl, p, dx, _, rfl, hp, lk_hf0 (by decide) (by decide), _, rfl, l, m, rfl, hl, hm, fun H1 a s1 hM => ⟨p, a, h, G, W, m, newOf H H1, rfl, hH.keep s1, newOf_sub, fun b hb => let ⟨o, e⟩ := hH.own b hb; newOf_old e, hM, k.via s1⟩⟩⟩⟩
    | job b hb =>
      rw [up_vn] at hl
      exact ⟨_, rfl, rfl, _, rfl, if_no (by decide) ⟨_, rfl, rfl, _, rfl, if_no (by decide) ⟨_, rfl, rfl, _, rfl, if_yes ⟨_, rfl, p, dx, _, rfl, hp, lk_hf0 (by decide) (by decide), _, rfl, l, b, rfl, hl, hb, fun H1 a s1 hJ => ⟨p, a, h, G, W, b, newOf H H1, rfl, hH.keep s1, newOf_sub, fun b hb => let ⟨o, e⟩ := hH.own b hb; newOf_old e, hJ, k.via s1⟩⟩⟩⟩⟩
    | drop j =>
      rw [up_vn] at hl
      exact ⟨_, rfl, rfl, _, rfl, if_no (by decide) ⟨_, rfl, rfl, _, rfl, if_no (by decide) ⟨_, rfl, rfl, _, rfl, if_no (by decide) ⟨_, rfl, rfl, _, rfl, if_yes ⟨_, rfl, p, dx, _, rfl, hp, lk_hf0 (by decide) (by decide), _, rfl, l, _, _, _, rfl, rfl, SqL.of hl, at_of (j := 0) (v := vn j) rfl rfl, p, h, G, W, j, rfl, hH, k⟩⟩⟩⟩⟩
    | times o ho =>
      rw [up_vn] at hl
      exact ⟨_, rfl, rfl, _, rfl, if_no (by decide) ⟨_, rfl, rfl, _, rfl, if_no (by decide) ⟨_, rfl, rfl, _, rfl, if_no (by decide) ⟨_, rfl, rfl, _, rfl, if_no (by decide) ⟨_, rfl, rfl, _, rfl, if_yes ⟨_, rfl, p, dx, _, rfl, hp, lk_hf0 (by decide) (by decide), _, rfl, p, l, h, G, W, o, rfl, hH, hl, ho, k⟩⟩⟩⟩⟩⟩
    | best => exact ⟨_, rfl, rfl, _, rfl, if_no (by decide) ⟨_, rfl, rfl, _, rfl, if_no (by decide) ⟨_, rfl, rfl, _, rfl, if_no (by decide) ⟨_, rfl, rfl, _, rfl, if_no (by decide) ⟨_, rfl, rfl, _, rfl, if_no (by decide) ⟨_, rfl, rfl, _, rfl, if_yes ⟨_, rfl, p, dx, _, rfl, hp, lk_hf0 (by decide) (by decide), p, h, G, W, rfl, hH, k⟩⟩⟩⟩⟩⟩⟩
    | ways => exact ⟨_, rfl, rfl, _, rfl, if_no (by decide) ⟨_, rfl, rfl, _, rfl, if_no (by decide) ⟨_, rfl, rfl, _, rfl, if_no (by decide) ⟨_, rfl, rfl, _, rfl, if_no (by decide) ⟨_, rfl, rfl, _, rfl, if_no (by decide) ⟨_, rfl, rfl, _, rfl, if_no (by decide) ⟨_, rfl, rfl, _, rfl, if_yes ⟨_, rfl, p, dx, _, rfl, hp, lk_hf0 (by decide) (by decide), p, h, G, W, rfl, hH, k⟩⟩⟩⟩⟩⟩⟩⟩
    | why j o ho =>
      rw [up_vn] at hl
      refine ⟨_, rfl, rfl, _, rfl, if_no (by decide) ⟨_, rfl, rfl, _, rfl, if_no (by decide) ⟨_, rfl, rfl, _, rfl, if_no (by decide) ⟨_, rfl, rfl, _, rfl, if_no (by decide) ⟨_, rfl, rfl, _, rfl, if_no (by decide) ⟨_, rfl, rfl, _, rfl, if_no (by decide) ⟨_, rfl, rfl, _, rfl, if_no (by decide) ⟨_, rfl, rfl, _, rfl, if_yes ⟨_, rfl, p, dx, _, rfl, hp, lk_hf0 (by decide) (by decide), _, rfl, l, _, _, _, rfl, rfl, SqL.of hl, at_of (j := 0) (v := vn j) rfl rfl, _, rfl, _, rfl, l, _, rfl, SqL.of hl, fun lo nlo => ?_⟩⟩⟩⟩⟩⟩⟩⟩⟩
      rw [cut1]
      have s1 := Same.upd (o := .lst (o.map vn)) nlo
      exact ⟨p, lo, h, G, W, j, o, rfl, hH.keep s1, upd_same, ho, k.later s1⟩
    | slack j i o ho =>
      rw [up_vn] at hl
      refine ⟨_, rfl, rfl, _, rfl, if_no (by decide) ⟨_, rfl, rfl, _, rfl, if_no (by decide) ⟨_, rfl, rfl, _, rfl, if_no (by decide) ⟨_, rfl, rfl, _, rfl, if_no (by decide) ⟨_, rfl, rfl, _, rfl, if_no (by decide) ⟨_, rfl, rfl, _, rfl, if_no (by decide) ⟨_, rfl, rfl, _, rfl, if_no (by decide) ⟨_, rfl, rfl, _, rfl, if_no (by decide) ⟨_, rfl, rfl, _, rfl, if_yes ⟨_, rfl, p, dx, _, rfl, hp, lk_hf0 (by decide) (by decide), _, rfl, l, _, _, _, rfl, rfl, SqL.of hl, at_of (j := 0) (v := vn j) rfl rfl, _, rfl, l, _, _, _, rfl, rfl, SqL.of hl, at_of (j := 1) (v := vn i) rfl rfl, _, rfl, _, rfl, l, _, rfl, SqL.of hl, fun lo nlo => ?_⟩⟩⟩⟩⟩⟩⟩⟩⟩⟩
      rw [cut2]
      have s1 := Same.upd (o := .lst (o.map vn)) nlo
      exact ⟨p, lo, h, G, W, j, i, o, rfl, hH.keep s1, upd_same, ho, k.later s1⟩
end
end Sj
end
section
set_option Elab.async false
set_option linter.all false
set_option maxRecDepth 100000
set_option maxHeartbeats 4000000
namespace Sj
open PySem PySem.Spec PyProof.Rows L2
theorem all_mk {P : Program} {w : World} {K : PySem.W.Frag} {h : Heap} {mg : Str → Option Value} {fa : Addr} (X : K.In h) (G : h.Ns mainGlobals mg) (hfa : mg "answers" = some (.ref fa))
    {C_Machine : Addr}
    {C_Step : Addr}
    {C_Job : Addr}
    {C_Placed : Addr}
    {C_Timetable : Addr}
    {C_Beginning : Addr}
    {C_House : Addr}
    {f_0 : Addr} {od_0 an_0 : Option Addr} {sl_0 : Array (Option Value)} {oc_0 kV_0 dc_0 pm_0 cv_0 ct_0 : Value}
    {f_1 : Addr} {od_1 an_1 : Option Addr} {sl_1 : Array (Option Value)} {oc_1 kV_1 dc_1 pm_1 cv_1 ct_1 : Value}
    {f_2 : Addr} {od_2 an_2 : Option Addr} {sl_2 : Array (Option Value)} {oc_2 kV_2 dc_2 pm_2 cv_2 ct_2 : Value}
    {f_3 : Addr} {od_3 an_3 : Option Addr} {sl_3 : Array (Option Value)} {oc_3 kV_3 dc_3 pm_3 cv_3 ct_3 : Value}
    {f_4 : Addr} {od_4 an_4 : Option Addr} {sl_4 : Array (Option Value)} {oc_4 kV_4 dc_4 pm_4 cv_4 ct_4 : Value}
    {f_5 : Addr} {od_5 an_5 : Option Addr} {sl_5 : Array (Option Value)} {oc_5 kV_5 dc_5 pm_5 cv_5 ct_5 : Value}
    {f_6 : Addr} {od_6 an_6 : Option Addr} {sl_6 : Array (Option Value)} {oc_6 kV_6 dc_6 pm_6 cv_6 ct_6 : Value}
    {f_7 : Addr} {od_7 an_7 : Option Addr} {sl_7 : Array (Option Value)} {oc_7 kV_7 dc_7 pm_7 cv_7 ct_7 : Value}
    {f_8 : Addr} {od_8 an_8 : Option Addr} {sl_8 : Array (Option Value)} {oc_8 kV_8 dc_8 pm_8 cv_8 ct_8 : Value}
    {f_9 : Addr} {od_9 an_9 : Option Addr} {sl_9 : Array (Option Value)} {oc_9 kV_9 dc_9 pm_9 cv_9 ct_9 : Value}
    {f_10 : Addr} {od_10 an_10 : Option Addr} {sl_10 : Array (Option Value)} {oc_10 kV_10 dc_10 pm_10 cv_10 ct_10 : Value}
    {f_11 : Addr} {od_11 an_11 : Option Addr} {sl_11 : Array (Option Value)} {oc_11 kV_11 dc_11 pm_11 cv_11 ct_11 : Value}
    {f_12 : Addr} {od_12 an_12 : Option Addr} {sl_12 : Array (Option Value)} {oc_12 kV_12 dc_12 pm_12 cv_12 ct_12 : Value}
    {f_13 : Addr} {od_13 an_13 : Option Addr} {sl_13 : Array (Option Value)} {oc_13 kV_13 dc_13 pm_13 cv_13 ct_13 : Value}
    {f_14 : Addr} {od_14 an_14 : Option Addr} {sl_14 : Array (Option Value)} {oc_14 kV_14 dc_14 pm_14 cv_14 ct_14 : Value}
    {f_15 : Addr} {od_15 an_15 : Option Addr} {sl_15 : Array (Option Value)} {oc_15 kV_15 dc_15 pm_15 cv_15 ct_15 : Value}
    {f_16 : Addr} {od_16 an_16 : Option Addr} {sl_16 : Array (Option Value)} {oc_16 kV_16 dc_16 pm_16 cv_16 ct_16 : Value}
    {f_17 : Addr} {od_17 an_17 : Option Addr} {sl_17 : Array (Option Value)} {oc_17 kV_17 dc_17 pm_17 cv_17 ct_17 : Value}
    {f_18 : Addr} {od_18 an_18 : Option Addr} {sl_18 : Array (Option Value)} {oc_18 kV_18 dc_18 pm_18 cv_18 ct_18 : Value}
    {f_19 : Addr} {od_19 an_19 : Option Addr} {sl_19 : Array (Option Value)} {oc_19 kV_19 dc_19 pm_19 cv_19 ct_19 : Value}
    {f_20 : Addr} {od_20 an_20 : Option Addr} {sl_20 : Array (Option Value)} {oc_20 kV_20 dc_20 pm_20 cv_20 ct_20 : Value}
    {f_21 : Addr} {od_21 an_21 : Option Addr} {sl_21 : Array (Option Value)} {oc_21 kV_21 dc_21 pm_21 cv_21 ct_21 : Value}
    {f_22 : Addr} {od_22 an_22 : Option Addr} {sl_22 : Array (Option Value)} {oc_22 kV_22 dc_22 pm_22 cv_22 ct_22 : Value}
    {f_23 : Addr} {od_23 an_23 : Option Addr} {sl_23 : Array (Option Value)} {oc_23 kV_23 dc_23 pm_23 cv_23 ct_23 : Value}
    {f_24 : Addr} {od_24 an_24 : Option Addr} {sl_24 : Array (Option Value)} {oc_24 kV_24 dc_24 pm_24 cv_24 ct_24 : Value}
    {f_25 : Addr} {od_25 an_25 : Option Addr} {sl_25 : Array (Option Value)} {oc_25 kV_25 dc_25 pm_25 cv_25 ct_25 : Value}
    {f_26 : Addr} {od_26 an_26 : Option Addr} {sl_26 : Array (Option Value)} {oc_26 kV_26 dc_26 pm_26 cv_26 ct_26 : Value}
    {f_27 : Addr} {od_27 an_27 : Option Addr} {sl_27 : Array (Option Value)} {oc_27 kV_27 dc_27 pm_27 cv_27 ct_27 : Value}
    {f_28 : Addr} {od_28 an_28 : Option Addr} {sl_28 : Array (Option Value)} {oc_28 kV_28 dc_28 pm_28 cv_28 ct_28 : Value}
    {f_29 : Addr} {od_29 an_29 : Option Addr} {sl_29 : Array (Option Value)} {oc_29 kV_29 dc_29 pm_29 cv_29 ct_29 : Value}
    {f_30 : Addr} {od_30 an_30 : Option Addr} {sl_30 : Array (Option Value)} {oc_30 kV_30 dc_30 pm_30 cv_30 ct_30 : Value}
    {f_31 : Addr} {od_31 an_31 : Option Addr} {sl_31 : Array (Option Value)} {oc_31 kV_31 dc_31 pm_31 cv_31 ct_31 : Value}
    {f_32 : Addr} {od_32 an_32 : Option Addr} {sl_32 : Array (Option Value)} {oc_32 kV_32 dc_32 pm_32 cv_32 ct_32 : Value}
    {f_33 : Addr} {od_33 an_33 : Option Addr} {sl_33 : Array (Option Value)} {oc_33 kV_33 dc_33 pm_33 cv_33 ct_33 : Value}
    {f_34 : Addr} {od_34 an_34 : Option Addr} {sl_34 : Array (Option Value)} {oc_34 kV_34 dc_34 pm_34 cv_34 ct_34 : Value}
    {f_35 : Addr} {od_35 an_35 : Option Addr} {sl_35 : Array (Option Value)} {oc_35 kV_35 dc_35 pm_35 cv_35 ct_35 : Value}
    {f_36 : Addr} {od_36 an_36 : Option Addr} {sl_36 : Array (Option Value)} {oc_36 kV_36 dc_36 pm_36 cv_36 ct_36 : Value}
    {f_37 : Addr} {od_37 an_37 : Option Addr} {sl_37 : Array (Option Value)} {oc_37 kV_37 dc_37 pm_37 cv_37 ct_37 : Value}
    {f_38 : Addr} {od_38 an_38 : Option Addr} {sl_38 : Array (Option Value)} {oc_38 kV_38 dc_38 pm_38 cv_38 ct_38 : Value}
    {f_39 : Addr} {od_39 an_39 : Option Addr} {sl_39 : Array (Option Value)} {oc_39 kV_39 dc_39 pm_39 cv_39 ct_39 : Value}
    {f_40 : Addr} {od_40 an_40 : Option Addr} {sl_40 : Array (Option Value)} {oc_40 kV_40 dc_40 pm_40 cv_40 ct_40 : Value}
    {f_41 : Addr} {od_41 an_41 : Option Addr} {sl_41 : Array (Option Value)} {oc_41 kV_41 dc_41 pm_41 cv_41 ct_41 : Value}
    {f_42 : Addr} {od_42 an_42 : Option Addr} {sl_42 : Array (Option Value)} {oc_42 kV_42 dc_42 pm_42 cv_42 ct_42 : Value}
    {f_43 : Addr} {od_43 an_43 : Option Addr} {sl_43 : Array (Option Value)} {oc_43 kV_43 dc_43 pm_43 cv_43 ct_43 : Value}
    {f_44 : Addr} {od_44 an_44 : Option Addr} {sl_44 : Array (Option Value)} {oc_44 kV_44 dc_44 pm_44 cv_44 ct_44 : Value}
    {f_45 : Addr} {od_45 an_45 : Option Addr} {sl_45 : Array (Option Value)} {oc_45 kV_45 dc_45 pm_45 cv_45 ct_45 : Value}
    {f_46 : Addr} {od_46 an_46 : Option Addr} {sl_46 : Array (Option Value)} {oc_46 kV_46 dc_46 pm_46 cv_46 ct_46 : Value}
    {f_47 : Addr} {od_47 an_47 : Option Addr} {sl_47 : Array (Option Value)} {oc_47 kV_47 dc_47 pm_47 cv_47 ct_47 : Value}
    {f_48 : Addr} {od_48 an_48 : Option Addr} {sl_48 : Array (Option Value)} {oc_48 kV_48 dc_48 pm_48 cv_48 ct_48 : Value}
    {f_49 : Addr} {od_49 an_49 : Option Addr} {sl_49 : Array (Option Value)} {oc_49 kV_49 dc_49 pm_49 cv_49 ct_49 : Value}
    {f_answers : Addr} {od_answers an_answers : Option Addr} {sl_answers : Array (Option Value)} {oc_answers kV_answers dc_answers pm_answers cv_answers ct_answers : Value}
    {t_MOST_MACHINES : Tok}
    {t_MOST_RESTS : Tok}
    {t_MOST_STEPS : Tok}
    {t_MOST_CHANGE : Tok}
    {t_MOST_WEIGHT : Tok}
    {t_MOST_KIND : Tok}
    {t_MOST_LENGTH : Tok}
    {t_LAST_TIME : Tok}
    {t_CAUSE_OWN : Tok}
    {t_CAUSE_MACHINE : Tok}
    {t_CAUSE_FROM : Tok}
    {t_CAUSE_REST : Tok}
    {t_MOST_LONGER : Tok}
    {t_CALL_BEGINS : Tok}
    {t_CALL_MACHINE : Tok}
    {t_CALL_JOB : Tok}
    {t_CALL_DROP : Tok}
    {t_CALL_TIMES : Tok}
    {t_CALL_BEST : Tok}
    {t_CALL_WAYS : Tok}
    {t_CALL_WHY : Tok}
    {t_CALL_SLACK : Tok}
    {t_OUT_OF_BOUNDS : Tok}
    {t_NOT_THERE : Tok}
    {t_NO_ROOM : Tok}
    {t_NO_ORDER : Tok}
    (a_Machine : W.nsIn K mainGlobals "Machine" = some (some (.ref C_Machine)))
    (pg_Machine : W.plainGet K C_Machine Str.empty = true)
    (hd_Machine : W.hasDictIn K C_Machine = true)
    (po_Machine : W.plainOver K C_Machine = true)
    (sa_Machine : W.findIn K (.ref C_Machine) "__setattr__" = some (some (.builtin "object.__setattr__")))
    (mk_Machine : W.makesIn K C_Machine = true)
    (kc_Machine : W.keepIn K (.ref C_Machine) = true)
    (n_Machine_change : W.findIn K (.ref C_Machine) "change" = some none)
    (n_Machine_rests : W.findIn K (.ref C_Machine) "rests" = some none)
    (a_Step : W.nsIn K mainGlobals "Step" = some (some (.ref C_Step)))
    (pg_Step : W.plainGet K C_Step Str.empty = true)
    (hd_Step : W.hasDictIn K C_Step = true)
    (po_Step : W.plainOver K C_Step = true)
    (sa_Step : W.findIn K (.ref C_Step) "__setattr__" = some (some (.builtin "object.__setattr__")))
    (mk_Step : W.makesIn K C_Step = true)
    (kc_Step : W.keepIn K (.ref C_Step) = true)
    (n_Step_machine : W.findIn K (.ref C_Step) "machine" = some none)
    (n_Step_kind : W.findIn K (.ref C_Step) "kind" = some none)
    (n_Step_length : W.findIn K (.ref C_Step) "length" = some none)
    (a_Job : W.nsIn K mainGlobals "Job" = some (some (.ref C_Job)))
    (pg_Job : W.plainGet K C_Job Str.empty = true)
    (hd_Job : W.hasDictIn K C_Job = true)
    (po_Job : W.plainOver K C_Job = true)
    (sa_Job : W.findIn K (.ref C_Job) "__setattr__" = some (some (.builtin "object.__setattr__")))
    (mk_Job : W.makesIn K C_Job = true)
    (kc_Job : W.keepIn K (.ref C_Job) = true)
    (n_Job_start : W.findIn K (.ref C_Job) "start" = some none)
    (n_Job_due : W.findIn K (.ref C_Job) "due" = some none)
    (n_Job_weight : W.findIn K (.ref C_Job) "weight" = some none)
    (n_Job_steps : W.findIn K (.ref C_Job) "steps" = some none)
    (a_Placed : W.nsIn K mainGlobals "Placed" = some (some (.ref C_Placed)))
    (pg_Placed : W.plainGet K C_Placed Str.empty = true)
    (hd_Placed : W.hasDictIn K C_Placed = true)
    (po_Placed : W.plainOver K C_Placed = true)
    (sa_Placed : W.findIn K (.ref C_Placed) "__setattr__" = some (some (.builtin "object.__setattr__")))
    (mk_Placed : W.makesIn K C_Placed = true)
    (kc_Placed : W.keepIn K (.ref C_Placed) = true)
    (n_Placed_job : W.findIn K (.ref C_Placed) "job" = some none)
    (n_Placed_which : W.findIn K (.ref C_Placed) "which" = some none)
    (n_Placed_machine : W.findIn K (.ref C_Placed) "machine" = some none)
    (n_Placed_ready : W.findIn K (.ref C_Placed) "ready" = some none)
    (n_Placed_begin : W.findIn K (.ref C_Placed) "begin" = some none)
    (n_Placed_stop : W.findIn K (.ref C_Placed) "stop" = some none)
    (a_Timetable : W.nsIn K mainGlobals "Timetable" = some (some (.ref C_Timetable)))
    (pg_Timetable : W.plainGet K C_Timetable Str.empty = true)
    (hd_Timetable : W.hasDictIn K C_Timetable = true)
    (po_Timetable : W.plainOver K C_Timetable = true)
    (sa_Timetable : W.findIn K (.ref C_Timetable) "__setattr__" = some (some (.builtin "object.__setattr__")))
    (mk_Timetable : W.makesIn K C_Timetable = true)
    (kc_Timetable : W.keepIn K (.ref C_Timetable) = true)
    (n_Timetable_machines : W.findIn K (.ref C_Timetable) "machines" = some none)
    (n_Timetable_jobs : W.findIn K (.ref C_Timetable) "jobs" = some none)
    (n_Timetable_upcoming : W.findIn K (.ref C_Timetable) "upcoming" = some none)
    (n_Timetable_job_stops : W.findIn K (.ref C_Timetable) "job_stops" = some none)
    (n_Timetable_machine_stops : W.findIn K (.ref C_Timetable) "machine_stops" = some none)
    (n_Timetable_kinds : W.findIn K (.ref C_Timetable) "kinds" = some none)
    (a_Beginning : W.nsIn K mainGlobals "Beginning" = some (some (.ref C_Beginning)))
    (pg_Beginning : W.plainGet K C_Beginning Str.empty = true)
    (hd_Beginning : W.hasDictIn K C_Beginning = true)
    (po_Beginning : W.plainOver K C_Beginning = true)
    (sa_Beginning : W.findIn K (.ref C_Beginning) "__setattr__" = some (some (.builtin "object.__setattr__")))
    (mk_Beginning : W.makesIn K C_Beginning = true)
    (kc_Beginning : W.keepIn K (.ref C_Beginning) = true)
    (n_Beginning_timetable : W.findIn K (.ref C_Beginning) "timetable" = some none)
    (n_Beginning_order : W.findIn K (.ref C_Beginning) "order" = some none)
    (n_Beginning_spent : W.findIn K (.ref C_Beginning) "spent" = some none)
    (n_Beginning_ended : W.findIn K (.ref C_Beginning) "ended" = some none)
    (n_Beginning_ways : W.findIn K (.ref C_Beginning) "ways" = some none)
    (a_House : W.nsIn K mainGlobals "House" = some (some (.ref C_House)))
    (pg_House : W.plainGet K C_House Str.empty = true)
    (hd_House : W.hasDictIn K C_House = true)
    (po_House : W.plainOver K C_House = true)
    (sa_House : W.findIn K (.ref C_House) "__setattr__" = some (some (.builtin "object.__setattr__")))
    (mk_House : W.makesIn K C_House = true)
    (kc_House : W.keepIn K (.ref C_House) = true)
    (n_House_machines : W.findIn K (.ref C_House) "machines" = some none)
    (n_House_jobs : W.findIn K (.ref C_House) "jobs" = some none)
    (a_0 : W.nsIn K mainGlobals "rests_fit" = some (some (.ref f_0)))
    (l_0 : K.lookup f_0 = some ⟨oc_0, od_0, .func (W.fnOf "rests_fit" "rests_fit" (defArgs s_rests_fit) (defBody s_rests_fit) (defScope s_rests_fit) .none kV_0 dc_0 pm_0 an_0 cv_0 ct_0), sl_0⟩)
    (d_0 : W.codeIn K cv_0 "rests_fit" = true)
    (k_0 : W.keepIn K (.ref f_0) = true)
    (a_1 : W.nsIn K mainGlobals "machine_fits" = some (some (.ref f_1)))
    (l_1 : K.lookup f_1 = some ⟨oc_1, od_1, .func (W.fnOf "machine_fits" "machine_fits" (defArgs s_machine_fits) (defBody s_machine_fits) (defScope s_machine_fits) .none kV_1 dc_1 pm_1 an_1 cv_1 ct_1), sl_1⟩)
    (d_1 : W.codeIn K cv_1 "machine_fits" = true)
    (k_1 : W.keepIn K (.ref f_1) = true)
    (a_2 : W.nsIn K mainGlobals "step_fits" = some (some (.ref f_2)))
    (l_2 : K.lookup f_2 = some ⟨oc_2, od_2, .func (W.fnOf "step_fits" "step_fits" (defArgs s_step_fits) (defBody s_step_fits) (defScope s_step_fits) .none kV_2 dc_2 pm_2 an_2 cv_2 ct_2), sl_2⟩)
    (d_2 : W.codeIn K cv_2 "step_fits" = true)
    (k_2 : W.keepIn K (.ref f_2) = true)
    (a_3 : W.nsIn K mainGlobals "job_fits" = some (some (.ref f_3)))
    (l_3 : K.lookup f_3 = some ⟨oc_3, od_3, .func (W.fnOf "job_fits" "job_fits" (defArgs s_job_fits) (defBody s_job_fits) (defScope s_job_fits) .none kV_3 dc_3 pm_3 an_3 cv_3 ct_3), sl_3⟩)
    (d_3 : W.codeIn K cv_3 "job_fits" = true)
    (k_3 : W.keepIn K (.ref f_3) = true)
    (a_4 : W.nsIn K mainGlobals "steps_together" = some (some (.ref f_4)))
    (l_4 : K.lookup f_4 = some ⟨oc_4, od_4, .func (W.fnOf "steps_together" "steps_together" (defArgs s_steps_together) (defBody s_steps_together) (defScope s_steps_together) .none kV_4 dc_4 pm_4 an_4 cv_4 ct_4), sl_4⟩)
    (d_4 : W.codeIn K cv_4 "steps_together" = true)
    (k_4 : W.keepIn K (.ref f_4) = true)
    (a_5 : W.nsIn K mainGlobals "is_order" = some (some (.ref f_5)))
    (l_5 : K.lookup f_5 = some ⟨oc_5, od_5, .func (W.fnOf "is_order" "is_order" (defArgs s_is_order) (defBody s_is_order) (defScope s_is_order) .none kV_5 dc_5 pm_5 an_5 cv_5 ct_5), sl_5⟩)
    (d_5 : W.codeIn K cv_5 "is_order" = true)
    (k_5 : W.keepIn K (.ref f_5) = true)
    (a_6 : W.nsIn K mainGlobals "last_place" = some (some (.ref f_6)))
    (l_6 : K.lookup f_6 = some ⟨oc_6, od_6, .func (W.fnOf "last_place" "last_place" (defArgs s_last_place) (defBody s_last_place) (defScope s_last_place) .none kV_6 dc_6 pm_6 an_6 cv_6 ct_6), sl_6⟩)
    (d_6 : W.codeIn K cv_6 "last_place" = true)
    (k_6 : W.keepIn K (.ref f_6) = true)
    (a_7 : W.nsIn K mainGlobals "place_of_last_step" = some (some (.ref f_7)))
    (l_7 : K.lookup f_7 = some ⟨oc_7, od_7, .func (W.fnOf "place_of_last_step" "place_of_last_step" (defArgs s_place_of_last_step) (defBody s_place_of_last_step) (defScope s_place_of_last_step) .none kV_7 dc_7 pm_7 an_7 cv_7 ct_7), sl_7⟩)
    (d_7 : W.codeIn K cv_7 "place_of_last_step" = true)
    (k_7 : W.keepIn K (.ref f_7) = true)
    (a_8 : W.nsIn K mainGlobals "place_before_on_machine" = some (some (.ref f_8)))
    (l_8 : K.lookup f_8 = some ⟨oc_8, od_8, .func (W.fnOf "place_before_on_machine" "place_before_on_machine" (defArgs s_place_before_on_machine) (defBody s_place_before_on_machine) (defScope s_place_before_on_machine) .none kV_8 dc_8 pm_8 an_8 cv_8 ct_8), sl_8⟩)
    (d_8 : W.codeIn K cv_8 "place_before_on_machine" = true)
    (k_8 : W.keepIn K (.ref f_8) = true)
    (a_9 : W.nsIn K mainGlobals "cause_of" = some (some (.ref f_9)))
    (l_9 : K.lookup f_9 = some ⟨oc_9, od_9, .func (W.fnOf "cause_of" "cause_of" (defArgs s_cause_of) (defBody s_cause_of) (defScope s_cause_of) .none kV_9 dc_9 pm_9 an_9 cv_9 ct_9), sl_9⟩)
    (d_9 : W.codeIn K cv_9 "cause_of" = true)
    (k_9 : W.keepIn K (.ref f_9) = true)
    (a_10 : W.nsIn K mainGlobals "chain" = some (some (.ref f_10)))
    (l_10 : K.lookup f_10 = some ⟨oc_10, od_10, .func (W.fnOf "chain" "chain" (defArgs s_chain) (defBody s_chain) (defScope s_chain) .none kV_10 dc_10 pm_10 an_10 cv_10 ct_10), sl_10⟩)
    (d_10 : W.codeIn K cv_10 "chain" = true)
    (k_10 : W.keepIn K (.ref f_10) = true)
    (a_11 : W.findIn K (.ref C_Machine) "__init__" = some (some (.ref f_11)))
    (i_11 : W.isFn K (.ref f_11) = true)
    (l_11 : K.lookup f_11 = some ⟨oc_11, od_11, .func (W.fnOf "__init__" "Machine.__init__" (defArgs s_Machine_init) (defBody s_Machine_init) (defScope s_Machine_init) .none kV_11 dc_11 pm_11 an_11 cv_11 ct_11), sl_11⟩)
    (d_11 : W.codeIn K cv_11 "Machine.__init__" = true)
    (k_11 : W.keepIn K (.ref f_11) = true)
    (a_12 : W.findIn K (.ref C_Step) "__init__" = some (some (.ref f_12)))
    (i_12 : W.isFn K (.ref f_12) = true)
    (l_12 : K.lookup f_12 = some ⟨oc_12, od_12, .func (W.fnOf "__init__" "Step.__init__" (defArgs s_Step_init) (defBody s_Step_init) (defScope s_Step_init) .none kV_12 dc_12 pm_12 an_12 cv_12 ct_12), sl_12⟩)
    (d_12 : W.codeIn K cv_12 "Step.__init__" = true)
    (k_12 : W.keepIn K (.ref f_12) = true)
    (a_13 : W.findIn K (.ref C_Job) "__init__" = some (some (.ref f_13)))
    (i_13 : W.isFn K (.ref f_13) = true)
    (l_13 : K.lookup f_13 = some ⟨oc_13, od_13, .func (W.fnOf "__init__" "Job.__init__" (defArgs s_Job_init) (defBody s_Job_init) (defScope s_Job_init) .none kV_13 dc_13 pm_13 an_13 cv_13 ct_13), sl_13⟩)
    (d_13 : W.codeIn K cv_13 "Job.__init__" = true)
    (k_13 : W.keepIn K (.ref f_13) = true)
    (a_14 : W.findIn K (.ref C_Placed) "__init__" = some (some (.ref f_14)))
    (i_14 : W.isFn K (.ref f_14) = true)
    (l_14 : K.lookup f_14 = some ⟨oc_14, od_14, .func (W.fnOf "__init__" "Placed.__init__" (defArgs s_Placed_init) (defBody s_Placed_init) (defScope s_Placed_init) .none kV_14 dc_14 pm_14 an_14 cv_14 ct_14), sl_14⟩)
    (d_14 : W.codeIn K cv_14 "Placed.__init__" = true)
    (k_14 : W.keepIn K (.ref f_14) = true)
    (a_15 : W.findIn K (.ref C_Timetable) "__init__" = some (some (.ref f_15)))
    (i_15 : W.isFn K (.ref f_15) = true)
    (l_15 : K.lookup f_15 = some ⟨oc_15, od_15, .func (W.fnOf "__init__" "Timetable.__init__" (defArgs s_Timetable_init) (defBody s_Timetable_init) (defScope s_Timetable_init) .none kV_15 dc_15 pm_15 an_15 cv_15 ct_15), sl_15⟩)
    (d_15 : W.codeIn K cv_15 "Timetable.__init__" = true)
    (k_15 : W.keepIn K (.ref f_15) = true)
    (a_16 : W.findIn K (.ref C_Timetable) "put" = some (some (.ref f_16)))
    (i_16 : W.isFn K (.ref f_16) = true)
    (l_16 : K.lookup f_16 = some ⟨oc_16, od_16, .func (W.fnOf "put" "Timetable.put" (defArgs s_Timetable_put) (defBody s_Timetable_put) (defScope s_Timetable_put) .none kV_16 dc_16 pm_16 an_16 cv_16 ct_16), sl_16⟩)
    (d_16 : W.codeIn K cv_16 "Timetable.put" = true)
    (k_16 : W.keepIn K (.ref f_16) = true)
    (a_17 : W.findIn K (.ref C_Timetable) "has_more" = some (some (.ref f_17)))
    (i_17 : W.isFn K (.ref f_17) = true)
    (l_17 : K.lookup f_17 = some ⟨oc_17, od_17, .func (W.fnOf "has_more" "Timetable.has_more" (defArgs s_Timetable_has_more) (defBody s_Timetable_has_more) (defScope s_Timetable_has_more) .none kV_17 dc_17 pm_17 an_17 cv_17 ct_17), sl_17⟩)
    (d_17 : W.codeIn K cv_17 "Timetable.has_more" = true)
    (k_17 : W.keepIn K (.ref f_17) = true)
    (a_18 : W.findIn K (.ref C_Timetable) "ahead" = some (some (.ref f_18)))
    (i_18 : W.isFn K (.ref f_18) = true)
    (l_18 : K.lookup f_18 = some ⟨oc_18, od_18, .func (W.fnOf "ahead" "Timetable.ahead" (defArgs s_Timetable_ahead) (defBody s_Timetable_ahead) (defScope s_Timetable_ahead) .none kV_18 dc_18 pm_18 an_18 cv_18 ct_18), sl_18⟩)
    (d_18 : W.codeIn K cv_18 "Timetable.ahead" = true)
    (k_18 : W.keepIn K (.ref f_18) = true)
    (a_19 : W.findIn K (.ref C_Timetable) "copied" = some (some (.ref f_19)))
    (i_19 : W.isFn K (.ref f_19) = true)
    (l_19 : K.lookup f_19 = some ⟨oc_19, od_19, .func (W.fnOf "copied" "Timetable.copied" (defArgs s_Timetable_copied) (defBody s_Timetable_copied) (defScope s_Timetable_copied) .none kV_19 dc_19 pm_19 an_19 cv_19 ct_19), sl_19⟩)
    (d_19 : W.codeIn K cv_19 "Timetable.copied" = true)
    (k_19 : W.keepIn K (.ref f_19) = true)
    (a_20 : W.nsIn K mainGlobals "new_timetable" = some (some (.ref f_20)))
    (l_20 : K.lookup f_20 = some ⟨oc_20, od_20, .func (W.fnOf "new_timetable" "new_timetable" (defArgs s_new_timetable) (defBody s_new_timetable) (defScope s_new_timetable) .none kV_20 dc_20 pm_20 an_20 cv_20 ct_20), sl_20⟩)
    (d_20 : W.codeIn K cv_20 "new_timetable" = true)
    (k_20 : W.keepIn K (.ref f_20) = true)
    (a_21 : W.nsIn K mainGlobals "first_time" = some (some (.ref f_21)))
    (l_21 : K.lookup f_21 = some ⟨oc_21, od_21, .func (W.fnOf "first_time" "first_time" (defArgs s_first_time) (defBody s_first_time) (defScope s_first_time) .none kV_21 dc_21 pm_21 an_21 cv_21 ct_21), sl_21⟩)
    (d_21 : W.codeIn K cv_21 "first_time" = true)
    (k_21 : W.keepIn K (.ref f_21) = true)
    (a_22 : W.nsIn K mainGlobals "put_in_time" = some (some (.ref f_22)))
    (l_22 : K.lookup f_22 = some ⟨oc_22, od_22, .func (W.fnOf "put_in_time" "put_in_time" (defArgs s_put_in_time) (defBody s_put_in_time) (defScope s_put_in_time) .none kV_22 dc_22 pm_22 an_22 cv_22 ct_22), sl_22⟩)
    (d_22 : W.codeIn K cv_22 "put_in_time" = true)
    (k_22 : W.keepIn K (.ref f_22) = true)
    (a_23 : W.nsIn K mainGlobals "job_ends" = some (some (.ref f_23)))
    (l_23 : K.lookup f_23 = some ⟨oc_23, od_23, .func (W.fnOf "job_ends" "job_ends" (defArgs s_job_ends) (defBody s_job_ends) (defScope s_job_ends) .none kV_23 dc_23 pm_23 an_23 cv_23 ct_23), sl_23⟩)
    (d_23 : W.codeIn K cv_23 "job_ends" = true)
    (k_23 : W.keepIn K (.ref f_23) = true)
    (a_24 : W.nsIn K mainGlobals "late" = some (some (.ref f_24)))
    (l_24 : K.lookup f_24 = some ⟨oc_24, od_24, .func (W.fnOf "late" "late" (defArgs s_late) (defBody s_late) (defScope s_late) .none kV_24 dc_24 pm_24 an_24 cv_24 ct_24), sl_24⟩)
    (d_24 : W.codeIn K cv_24 "late" = true)
    (k_24 : W.keepIn K (.ref f_24) = true)
    (a_25 : W.nsIn K mainGlobals "job_cost" = some (some (.ref f_25)))
    (l_25 : K.lookup f_25 = some ⟨oc_25, od_25, .func (W.fnOf "job_cost" "job_cost" (defArgs s_job_cost) (defBody s_job_cost) (defScope s_job_cost) .none kV_25 dc_25 pm_25 an_25 cv_25 ct_25), sl_25⟩)
    (d_25 : W.codeIn K cv_25 "job_cost" = true)
    (k_25 : W.keepIn K (.ref f_25) = true)
    (a_26 : W.nsIn K mainGlobals "cost" = some (some (.ref f_26)))
    (l_26 : K.lookup f_26 = some ⟨oc_26, od_26, .func (W.fnOf "cost" "cost" (defArgs s_cost) (defBody s_cost) (defScope s_cost) .none kV_26 dc_26 pm_26 an_26 cv_26 ct_26), sl_26⟩)
    (d_26 : W.codeIn K cv_26 "cost" = true)
    (k_26 : W.keepIn K (.ref f_26) = true)
    (a_27 : W.nsIn K mainGlobals "order_cost" = some (some (.ref f_27)))
    (l_27 : K.lookup f_27 = some ⟨oc_27, od_27, .func (W.fnOf "order_cost" "order_cost" (defArgs s_order_cost) (defBody s_order_cost) (defScope s_order_cost) .none kV_27 dc_27 pm_27 an_27 cv_27 ct_27), sl_27⟩)
    (d_27 : W.codeIn K cv_27 "order_cost" = true)
    (k_27 : W.keepIn K (.ref f_27) = true)
    (a_28 : W.nsIn K mainGlobals "with_longer_step" = some (some (.ref f_28)))
    (l_28 : K.lookup f_28 = some ⟨oc_28, od_28, .func (W.fnOf "with_longer_step" "with_longer_step" (defArgs s_with_longer_step) (defBody s_with_longer_step) (defScope s_with_longer_step) .none kV_28 dc_28 pm_28 an_28 cv_28 ct_28), sl_28⟩)
    (d_28 : W.codeIn K cv_28 "with_longer_step" = true)
    (k_28 : W.keepIn K (.ref f_28) = true)
    (a_29 : W.nsIn K mainGlobals "most_longer" = some (some (.ref f_29)))
    (l_29 : K.lookup f_29 = some ⟨oc_29, od_29, .func (W.fnOf "most_longer" "most_longer" (defArgs s_most_longer) (defBody s_most_longer) (defScope s_most_longer) .none kV_29 dc_29 pm_29 an_29 cv_29 ct_29), sl_29⟩)
    (d_29 : W.codeIn K cv_29 "most_longer" = true)
    (k_29 : W.keepIn K (.ref f_29) = true)
    (a_30 : W.findIn K (.ref C_Beginning) "__init__" = some (some (.ref f_30)))
    (i_30 : W.isFn K (.ref f_30) = true)
    (l_30 : K.lookup f_30 = some ⟨oc_30, od_30, .func (W.fnOf "__init__" "Beginning.__init__" (defArgs s_Beginning_init) (defBody s_Beginning_init) (defScope s_Beginning_init) .none kV_30 dc_30 pm_30 an_30 cv_30 ct_30), sl_30⟩)
    (d_30 : W.codeIn K cv_30 "Beginning.__init__" = true)
    (k_30 : W.keepIn K (.ref f_30) = true)
    (a_31 : W.nsIn K mainGlobals "rank" = some (some (.ref f_31)))
    (l_31 : K.lookup f_31 = some ⟨oc_31, od_31, .func (W.fnOf "rank" "rank" (defArgs s_rank) (defBody s_rank) (defScope s_rank) .none kV_31 dc_31 pm_31 an_31 cv_31 ct_31), sl_31⟩)
    (d_31 : W.codeIn K cv_31 "rank" = true)
    (k_31 : W.keepIn K (.ref f_31) = true)
    (a_32 : W.nsIn K mainGlobals "with_next" = some (some (.ref f_32)))
    (l_32 : K.lookup f_32 = some ⟨oc_32, od_32, .func (W.fnOf "with_next" "with_next" (defArgs s_with_next) (defBody s_with_next) (defScope s_with_next) .none kV_32 dc_32 pm_32 an_32 cv_32 ct_32), sl_32⟩)
    (d_32 : W.codeIn K cv_32 "with_next" = true)
    (k_32 : W.keepIn K (.ref f_32) = true)
    (a_33 : W.nsIn K mainGlobals "as_one" = some (some (.ref f_33)))
    (l_33 : K.lookup f_33 = some ⟨oc_33, od_33, .func (W.fnOf "as_one" "as_one" (defArgs s_as_one) (defBody s_as_one) (defScope s_as_one) .none kV_33 dc_33 pm_33 an_33 cv_33 ct_33), sl_33⟩)
    (d_33 : W.codeIn K cv_33 "as_one" = true)
    (k_33 : W.keepIn K (.ref f_33) = true)
    (a_34 : W.nsIn K mainGlobals "longer_by_one" = some (some (.ref f_34)))
    (l_34 : K.lookup f_34 = some ⟨oc_34, od_34, .func (W.fnOf "longer_by_one" "longer_by_one" (defArgs s_longer_by_one) (defBody s_longer_by_one) (defScope s_longer_by_one) .none kV_34 dc_34 pm_34 an_34 cv_34 ct_34), sl_34⟩)
    (d_34 : W.codeIn K cv_34 "longer_by_one" = true)
    (k_34 : W.keepIn K (.ref f_34) = true)
    (a_35 : W.nsIn K mainGlobals "best_order" = some (some (.ref f_35)))
    (l_35 : K.lookup f_35 = some ⟨oc_35, od_35, .func (W.fnOf "best_order" "best_order" (defArgs s_best_order) (defBody s_best_order) (defScope s_best_order) .none kV_35 dc_35 pm_35 an_35 cv_35 ct_35), sl_35⟩)
    (d_35 : W.codeIn K cv_35 "best_order" = true)
    (k_35 : W.keepIn K (.ref f_35) = true)
    (a_36 : W.nsIn K mainGlobals "how_many_orders" = some (some (.ref f_36)))
    (l_36 : K.lookup f_36 = some ⟨oc_36, od_36, .func (W.fnOf "how_many_orders" "how_many_orders" (defArgs s_how_many_orders) (defBody s_how_many_orders) (defScope s_how_many_orders) .none kV_36 dc_36 pm_36 an_36 cv_36 ct_36), sl_36⟩)
    (d_36 : W.codeIn K cv_36 "how_many_orders" = true)
    (k_36 : W.keepIn K (.ref f_36) = true)
    (a_37 : W.findIn K (.ref C_House) "__init__" = some (some (.ref f_37)))
    (i_37 : W.isFn K (.ref f_37) = true)
    (l_37 : K.lookup f_37 = some ⟨oc_37, od_37, .func (W.fnOf "__init__" "House.__init__" (defArgs s_House_init) (defBody s_House_init) (defScope s_House_init) .none kV_37 dc_37 pm_37 an_37 cv_37 ct_37), sl_37⟩)
    (d_37 : W.codeIn K cv_37 "House.__init__" = true)
    (k_37 : W.keepIn K (.ref f_37) = true)
    (a_38 : W.findIn K (.ref C_House) "begin_anew" = some (some (.ref f_38)))
    (i_38 : W.isFn K (.ref f_38) = true)
    (l_38 : K.lookup f_38 = some ⟨oc_38, od_38, .func (W.fnOf "begin_anew" "House.begin_anew" (defArgs s_House_begin_anew) (defBody s_House_begin_anew) (defScope s_House_begin_anew) .none kV_38 dc_38 pm_38 an_38 cv_38 ct_38), sl_38⟩)
    (d_38 : W.codeIn K cv_38 "House.begin_anew" = true)
    (k_38 : W.keepIn K (.ref f_38) = true)
    (a_39 : W.findIn K (.ref C_House) "add_machine" = some (some (.ref f_39)))
    (i_39 : W.isFn K (.ref f_39) = true)
    (l_39 : K.lookup f_39 = some ⟨oc_39, od_39, .func (W.fnOf "add_machine" "House.add_machine" (defArgs s_House_add_machine) (defBody s_House_add_machine) (defScope s_House_add_machine) .none kV_39 dc_39 pm_39 an_39 cv_39 ct_39), sl_39⟩)
    (d_39 : W.codeIn K cv_39 "House.add_machine" = true)
    (k_39 : W.keepIn K (.ref f_39) = true)
    (a_40 : W.findIn K (.ref C_House) "add_job" = some (some (.ref f_40)))
    (i_40 : W.isFn K (.ref f_40) = true)
    (l_40 : K.lookup f_40 = some ⟨oc_40, od_40, .func (W.fnOf "add_job" "House.add_job" (defArgs s_House_add_job) (defBody s_House_add_job) (defScope s_House_add_job) .none kV_40 dc_40 pm_40 an_40 cv_40 ct_40), sl_40⟩)
    (d_40 : W.codeIn K cv_40 "House.add_job" = true)
    (k_40 : W.keepIn K (.ref f_40) = true)
    (a_41 : W.findIn K (.ref C_House) "drop_job" = some (some (.ref f_41)))
    (i_41 : W.isFn K (.ref f_41) = true)
    (l_41 : K.lookup f_41 = some ⟨oc_41, od_41, .func (W.fnOf "drop_job" "House.drop_job" (defArgs s_House_drop_job) (defBody s_House_drop_job) (defScope s_House_drop_job) .none kV_41 dc_41 pm_41 an_41 cv_41 ct_41), sl_41⟩)
    (d_41 : W.codeIn K cv_41 "House.drop_job" = true)
    (k_41 : W.keepIn K (.ref f_41) = true)
    (a_42 : W.findIn K (.ref C_House) "times_by" = some (some (.ref f_42)))
    (i_42 : W.isFn K (.ref f_42) = true)
    (l_42 : K.lookup f_42 = some ⟨oc_42, od_42, .func (W.fnOf "times_by" "House.times_by" (defArgs s_House_times_by) (defBody s_House_times_by) (defScope s_House_times_by) .none kV_42 dc_42 pm_42 an_42 cv_42 ct_42), sl_42⟩)
    (d_42 : W.codeIn K cv_42 "House.times_by" = true)
    (k_42 : W.keepIn K (.ref f_42) = true)
    (a_43 : W.findIn K (.ref C_House) "best" = some (some (.ref f_43)))
    (i_43 : W.isFn K (.ref f_43) = true)
    (l_43 : K.lookup f_43 = some ⟨oc_43, od_43, .func (W.fnOf "best" "House.best" (defArgs s_House_best) (defBody s_House_best) (defScope s_House_best) .none kV_43 dc_43 pm_43 an_43 cv_43 ct_43), sl_43⟩)
    (d_43 : W.codeIn K cv_43 "House.best" = true)
    (k_43 : W.keepIn K (.ref f_43) = true)
    (a_44 : W.findIn K (.ref C_House) "count_orders" = some (some (.ref f_44)))
    (i_44 : W.isFn K (.ref f_44) = true)
    (l_44 : K.lookup f_44 = some ⟨oc_44, od_44, .func (W.fnOf "count_orders" "House.count_orders" (defArgs s_House_count_orders) (defBody s_House_count_orders) (defScope s_House_count_orders) .none kV_44 dc_44 pm_44 an_44 cv_44 ct_44), sl_44⟩)
    (d_44 : W.codeIn K cv_44 "House.count_orders" = true)
    (k_44 : W.keepIn K (.ref f_44) = true)
    (a_45 : W.findIn K (.ref C_House) "why" = some (some (.ref f_45)))
    (i_45 : W.isFn K (.ref f_45) = true)
    (l_45 : K.lookup f_45 = some ⟨oc_45, od_45, .func (W.fnOf "why" "House.why" (defArgs s_House_why) (defBody s_House_why) (defScope s_House_why) .none kV_45 dc_45 pm_45 an_45 cv_45 ct_45), sl_45⟩)
    (d_45 : W.codeIn K cv_45 "House.why" = true)
    (k_45 : W.keepIn K (.ref f_45) = true)
    (a_46 : W.findIn K (.ref C_House) "slack" = some (some (.ref f_46)))
    (i_46 : W.isFn K (.ref f_46) = true)
    (l_46 : K.lookup f_46 = some ⟨oc_46, od_46, .func (W.fnOf "slack" "House.slack" (defArgs s_House_slack) (defBody s_House_slack) (defScope s_House_slack) .none kV_46 dc_46 pm_46 an_46 cv_46 ct_46), sl_46⟩)
    (d_46 : W.codeIn K cv_46 "House.slack" = true)
    (k_46 : W.keepIn K (.ref f_46) = true)
    (a_47 : W.nsIn K mainGlobals "told_machine" = some (some (.ref f_47)))
    (l_47 : K.lookup f_47 = some ⟨oc_47, od_47, .func (W.fnOf "told_machine" "told_machine" (defArgs s_told_machine) (defBody s_told_machine) (defScope s_told_machine) .none kV_47 dc_47 pm_47 an_47 cv_47 ct_47), sl_47⟩)
    (d_47 : W.codeIn K cv_47 "told_machine" = true)
    (k_47 : W.keepIn K (.ref f_47) = true)
    (a_48 : W.nsIn K mainGlobals "told_job" = some (some (.ref f_48)))
    (l_48 : K.lookup f_48 = some ⟨oc_48, od_48, .func (W.fnOf "told_job" "told_job" (defArgs s_told_job) (defBody s_told_job) (defScope s_told_job) .none kV_48 dc_48 pm_48 an_48 cv_48 ct_48), sl_48⟩)
    (d_48 : W.codeIn K cv_48 "told_job" = true)
    (k_48 : W.keepIn K (.ref f_48) = true)
    (a_49 : W.nsIn K mainGlobals "answer_to" = some (some (.ref f_49)))
    (l_49 : K.lookup f_49 = some ⟨oc_49, od_49, .func (W.fnOf "answer_to" "answer_to" (defArgs s_answer_to) (defBody s_answer_to) (defScope s_answer_to) .none kV_49 dc_49 pm_49 an_49 cv_49 ct_49), sl_49⟩)
    (d_49 : W.codeIn K cv_49 "answer_to" = true)
    (k_49 : W.keepIn K (.ref f_49) = true)
    (a_answers : W.nsIn K mainGlobals "answers" = some (some (.ref f_answers)))
    (l_answers : K.lookup f_answers = some ⟨oc_answers, od_answers, .func (W.fnOf "answers" "answers" (defArgs s_answers) (defBody s_answers) (defScope s_answers) .none kV_answers dc_answers pm_answers an_answers cv_answers ct_answers), sl_answers⟩)
    (d_answers : W.codeIn K cv_answers "answers" = true)
    (k_answers : W.keepIn K (.ref f_answers) = true)
    (v_MOST_MACHINES : W.nsIn K mainGlobals "MOST_MACHINES" = some (some (.int (4) t_MOST_MACHINES)))
    (v_MOST_RESTS : W.nsIn K mainGlobals "MOST_RESTS" = some (some (.int (4) t_MOST_RESTS)))
    (v_MOST_STEPS : W.nsIn K mainGlobals "MOST_STEPS" = some (some (.int (8) t_MOST_STEPS)))
    (v_MOST_CHANGE : W.nsIn K mainGlobals "MOST_CHANGE" = some (some (.int (1000) t_MOST_CHANGE)))
    (v_MOST_WEIGHT : W.nsIn K mainGlobals "MOST_WEIGHT" = some (some (.int (1000) t_MOST_WEIGHT)))
    (v_MOST_KIND : W.nsIn K mainGlobals "MOST_KIND" = some (some (.int (9) t_MOST_KIND)))
    (v_MOST_LENGTH : W.nsIn K mainGlobals "MOST_LENGTH" = some (some (.int (1000) t_MOST_LENGTH)))
    (v_LAST_TIME : W.nsIn K mainGlobals "LAST_TIME" = some (some (.int (10000) t_LAST_TIME)))
    (v_CAUSE_OWN : W.nsIn K mainGlobals "CAUSE_OWN" = some (some (.int (0) t_CAUSE_OWN)))
    (v_CAUSE_MACHINE : W.nsIn K mainGlobals "CAUSE_MACHINE" = some (some (.int (1) t_CAUSE_MACHINE)))
    (v_CAUSE_FROM : W.nsIn K mainGlobals "CAUSE_FROM" = some (some (.int (2) t_CAUSE_FROM)))
    (v_CAUSE_REST : W.nsIn K mainGlobals "CAUSE_REST" = some (some (.int (3) t_CAUSE_REST)))
    (v_MOST_LONGER : W.nsIn K mainGlobals "MOST_LONGER" = some (some (.int (100) t_MOST_LONGER)))
    (v_CALL_BEGINS : W.nsIn K mainGlobals "CALL_BEGINS" = some (some (.int (0) t_CALL_BEGINS)))
    (v_CALL_MACHINE : W.nsIn K mainGlobals "CALL_MACHINE" = some (some (.int (1) t_CALL_MACHINE)))
    (v_CALL_JOB : W.nsIn K mainGlobals "CALL_JOB" = some (some (.int (2) t_CALL_JOB)))
    (v_CALL_DROP : W.nsIn K mainGlobals "CALL_DROP" = some (some (.int (3) t_CALL_DROP)))
    (v_CALL_TIMES : W.nsIn K mainGlobals "CALL_TIMES" = some (some (.int (4) t_CALL_TIMES)))
    (v_CALL_BEST : W.nsIn K mainGlobals "CALL_BEST" = some (some (.int (5) t_CALL_BEST)))
    (v_CALL_WAYS : W.nsIn K mainGlobals "CALL_WAYS" = some (some (.int (6) t_CALL_WAYS)))
    (v_CALL_WHY : W.nsIn K mainGlobals "CALL_WHY" = some (some (.int (7) t_CALL_WHY)))
    (v_CALL_SLACK : W.nsIn K mainGlobals "CALL_SLACK" = some (some (.int (8) t_CALL_SLACK)))
    (v_OUT_OF_BOUNDS : W.nsIn K mainGlobals "OUT_OF_BOUNDS" = some (some (.int (-1) t_OUT_OF_BOUNDS)))
    (v_NOT_THERE : W.nsIn K mainGlobals "NOT_THERE" = some (some (.int (-2) t_NOT_THERE)))
    (v_NO_ROOM : W.nsIn K mainGlobals "NO_ROOM" = some (some (.int (-5) t_NO_ROOM)))
    (v_NO_ORDER : W.nsIn K mainGlobals "NO_ORDER" = some (some (.int (-6) t_NO_ORDER)))
    (z_len : W.nsIn K mainGlobals "len" = some none)
    (z_range : W.nsIn K mainGlobals "range" = some none)
    (z_enumerate : W.nsIn K mainGlobals "enumerate" = some none)
    (z_zip : W.nsIn K mainGlobals "zip" = some none)
    (z_sum : W.nsIn K mainGlobals "sum" = some none)
    (z_all : W.nsIn K mainGlobals "all" = some none)
    (z_max : W.nsIn K mainGlobals "max" = some none)
    (z_min : W.nsIn K mainGlobals "min" = some none)
    (z_list : W.nsIn K mainGlobals "list" = some none)
    (z_tuple : W.nsIn K mainGlobals "tuple" = some none) :
    ∃ fd : FuncData, (∀ (s : Shared) (us : List Value), us.length = (["calls"] : List Str).length → BindsTo s fd ⟨us, []⟩ ((["calls"] : List Str).zip us)) ∧ ∀ base : Heap, K.In base → base.Ns mainGlobals mg → FnOk P w K mg base CX0 9 fa fd ["calls"] (sp_answers K) := by
  have e := hfa.symm.trans (PySem.W.mg_of X G a_answers)
  cases e
  have F_0 := fun_mk (st := s_rests_fit) l_0 d_0 k_0
  have b_0 := F_0.binds (ps := ["rests"]) fun _ _ _ _ _ _ us hl => match us, hl with | [_], _ => rfl
  have F_1 := fun_mk (st := s_machine_fits) l_1 d_1 k_1
  have b_1 := F_1.binds (ps := ["machine"]) fun _ _ _ _ _ _ us hl => match us, hl with | [_], _ => rfl
  have F_2 := fun_mk (st := s_step_fits) l_2 d_2 k_2
  have b_2 := F_2.binds (ps := ["step", "machines"]) fun _ _ _ _ _ _ us hl => match us, hl with | [_, _], _ => rfl
  have F_3 := fun_mk (st := s_job_fits) l_3 d_3 k_3
  have b_3 := F_3.binds (ps := ["job", "machines"]) fun _ _ _ _ _ _ us hl => match us, hl with | [_, _], _ => rfl
  have F_4 := fun_mk (st := s_steps_together) l_4 d_4 k_4
  have b_4 := F_4.binds (ps := ["jobs"]) fun _ _ _ _ _ _ us hl => match us, hl with | [_], _ => rfl
  have F_5 := fun_mk (st := s_is_order) l_5 d_5 k_5
  have b_5 := F_5.binds (ps := ["jobs", "order"]) fun _ _ _ _ _ _ us hl => match us, hl with | [_, _], _ => rfl
  have F_6 := fun_mk (st := s_last_place) l_6 d_6 k_6
  have b_6 := F_6.binds (ps := ["numbers", "number"]) fun _ _ _ _ _ _ us hl => match us, hl with | [_, _], _ => rfl
  have F_7 := fun_mk (st := s_place_of_last_step) l_7 d_7 k_7
  have b_7 := F_7.binds (ps := ["placed", "number"]) fun _ _ _ _ _ _ us hl => match us, hl with | [_, _], _ => rfl
  have F_8 := fun_mk (st := s_place_before_on_machine) l_8 d_8 k_8
  have b_8 := F_8.binds (ps := ["placed", "place"]) fun _ _ _ _ _ _ us hl => match us, hl with | [_, _], _ => rfl
  have F_9 := fun_mk (st := s_cause_of) l_9 d_9 k_9
  have b_9 := F_9.binds (ps := ["jobs", "placed", "place"]) fun _ _ _ _ _ _ us hl => match us, hl with | [_, _, _], _ => rfl
  have F_10 := fun_mk (st := s_chain) l_10 d_10 k_10
  have b_10 := F_10.binds (ps := ["jobs", "placed", "number"]) fun _ _ _ _ _ _ us hl => match us, hl with | [_, _, _], _ => rfl
  have F_11 := fun_mk (st := s_Machine_init) l_11 d_11 k_11
  have b_11 := F_11.binds (ps := ["self", "change", "rests"]) fun _ _ _ _ _ _ us hl => match us, hl with | [_, _, _], _ => rfl
  have F_12 := fun_mk (st := s_Step_init) l_12 d_12 k_12
  have b_12 := F_12.binds (ps := ["self", "machine", "kind", "length"]) fun _ _ _ _ _ _ us hl => match us, hl with | [_, _, _, _], _ => rfl
  have F_13 := fun_mk (st := s_Job_init) l_13 d_13 k_13
  have b_13 := F_13.binds (ps := ["self", "start", "due", "weight", "steps"]) fun _ _ _ _ _ _ us hl => match us, hl with | [_, _, _, _, _], _ => rfl
  have F_14 := fun_mk (st := s_Placed_init) l_14 d_14 k_14
  have b_14 := F_14.binds (ps := ["self", "job", "which", "machine", "ready", "begin", "stop"]) fun _ _ _ _ _ _ us hl => match us, hl with | [_, _, _, _, _, _, _], _ => rfl
  have F_15 := fun_mk (st := s_Timetable_init) l_15 d_15 k_15
  have b_15 := F_15.binds (ps := ["self", "machines", "jobs", "upcoming", "job_stops", "machine_stops", "kinds"]) fun _ _ _ _ _ _ us hl => match us, hl with | [_, _, _, _, _, _, _], _ => rfl
  have F_16 := fun_mk (st := s_Timetable_put) l_16 d_16 k_16
  have b_16 := F_16.binds (ps := ["self", "number"]) fun _ _ _ _ _ _ us hl => match us, hl with | [_, _], _ => rfl
  have F_17 := fun_mk (st := s_Timetable_has_more) l_17 d_17 k_17
  have b_17 := F_17.binds (ps := ["self", "number"]) fun _ _ _ _ _ _ us hl => match us, hl with | [_, _], _ => rfl
  have F_18 := fun_mk (st := s_Timetable_ahead) l_18 d_18 k_18
  have b_18 := F_18.binds (ps := ["self"]) fun _ _ _ _ _ _ us hl => match us, hl with | [_], _ => rfl
  have F_19 := fun_mk (st := s_Timetable_copied) l_19 d_19 k_19
  have b_19 := F_19.binds (ps := ["self"]) fun _ _ _ _ _ _ us hl => match us, hl with | [_], _ => rfl
  have F_20 := fun_mk (st := s_new_timetable) l_20 d_20 k_20
  have b_20 := F_20.binds (ps := ["machines", "jobs"]) fun _ _ _ _ _ _ us hl => match us, hl with | [_, _], _ => rfl
  have F_21 := fun_mk (st := s_first_time) l_21 d_21 k_21
  have b_21 := F_21.binds (ps := ["rests", "ready", "takes"]) fun _ _ _ _ _ _ us hl => match us, hl with | [_, _, _], _ => rfl
  have F_22 := fun_mk (st := s_put_in_time) l_22 d_22 k_22
  have b_22 := F_22.binds (ps := ["machines", "jobs", "order"]) fun _ _ _ _ _ _ us hl => match us, hl with | [_, _, _], _ => rfl
  have F_23 := fun_mk (st := s_job_ends) l_23 d_23 k_23
  have b_23 := F_23.binds (ps := ["jobs", "placed"]) fun _ _ _ _ _ _ us hl => match us, hl with | [_, _], _ => rfl
  have F_24 := fun_mk (st := s_late) l_24 d_24 k_24
  have b_24 := F_24.binds (ps := ["job", "end"]) fun _ _ _ _ _ _ us hl => match us, hl with | [_, _], _ => rfl
  have F_25 := fun_mk (st := s_job_cost) l_25 d_25 k_25
  have b_25 := F_25.binds (ps := ["job", "end"]) fun _ _ _ _ _ _ us hl => match us, hl with | [_, _], _ => rfl
  have F_26 := fun_mk (st := s_cost) l_26 d_26 k_26
  have b_26 := F_26.binds (ps := ["jobs", "ends"]) fun _ _ _ _ _ _ us hl => match us, hl with | [_, _], _ => rfl
  have F_27 := fun_mk (st := s_order_cost) l_27 d_27 k_27
  have b_27 := F_27.binds (ps := ["machines", "jobs", "order"]) fun _ _ _ _ _ _ us hl => match us, hl with | [_, _, _], _ => rfl
  have F_28 := fun_mk (st := s_with_longer_step) l_28 d_28 k_28
  have b_28 := F_28.binds (ps := ["jobs", "number", "which", "longer"]) fun _ _ _ _ _ _ us hl => match us, hl with | [_, _, _, _], _ => rfl
  have F_29 := fun_mk (st := s_most_longer) l_29 d_29 k_29
  have b_29 := F_29.binds (ps := ["machines", "jobs", "number", "which", "order"]) fun _ _ _ _ _ _ us hl => match us, hl with | [_, _, _, _, _], _ => rfl
  have F_30 := fun_mk (st := s_Beginning_init) l_30 d_30 k_30
  have b_30 := F_30.binds (ps := ["self", "timetable", "order", "spent", "ended", "ways"]) fun _ _ _ _ _ _ us hl => match us, hl with | [_, _, _, _, _, _], _ => rfl
  have F_31 := fun_mk (st := s_rank) l_31 d_31 k_31
  have b_31 := F_31.binds (ps := ["beginning"]) fun _ _ _ _ _ _ us hl => match us, hl with | [_], _ => rfl
  have F_32 := fun_mk (st := s_with_next) l_32 d_32 k_32
  have b_32 := F_32.binds (ps := ["beginning", "number"]) fun _ _ _ _ _ _ us hl => match us, hl with | [_, _], _ => rfl
  have F_33 := fun_mk (st := s_as_one) l_33 d_33 k_33
  have b_33 := F_33.binds (ps := ["beginnings"]) fun _ _ _ _ _ _ us hl => match us, hl with | [_], _ => rfl
  have F_34 := fun_mk (st := s_longer_by_one) l_34 d_34 k_34
  have b_34 := F_34.binds (ps := ["beginnings", "jobs"]) fun _ _ _ _ _ _ us hl => match us, hl with | [_, _], _ => rfl
  have F_35 := fun_mk (st := s_best_order) l_35 d_35 k_35
  have b_35 := F_35.binds (ps := ["machines", "jobs"]) fun _ _ _ _ _ _ us hl => match us, hl with | [_, _], _ => rfl
  have F_36 := fun_mk (st := s_how_many_orders) l_36 d_36 k_36
  have b_36 := F_36.binds (ps := ["jobs"]) fun _ _ _ _ _ _ us hl => match us, hl with | [_], _ => rfl
  have F_37 := fun_mk (st := s_House_init) l_37 d_37 k_37
  have b_37 := F_37.binds (ps := ["self"]) fun _ _ _ _ _ _ us hl => match us, hl with | [_], _ => rfl
  have F_38 := fun_mk (st := s_House_begin_anew) l_38 d_38 k_38
  have b_38 := F_38.binds (ps := ["self"]) fun _ _ _ _ _ _ us hl => match us, hl with | [_], _ => rfl
  have F_39 := fun_mk (st := s_House_add_machine) l_39 d_39 k_39
  have b_39 := F_39.binds (ps := ["self", "machine"]) fun _ _ _ _ _ _ us hl => match us, hl with | [_, _], _ => rfl
  have F_40 := fun_mk (st := s_House_add_job) l_40 d_40 k_40
  have b_40 := F_40.binds (ps := ["self", "job"]) fun _ _ _ _ _ _ us hl => match us, hl with | [_, _], _ => rfl
  have F_41 := fun_mk (st := s_House_drop_job) l_41 d_41 k_41
  have b_41 := F_41.binds (ps := ["self", "number"]) fun _ _ _ _ _ _ us hl => match us, hl with | [_, _], _ => rfl
  have F_42 := fun_mk (st := s_House_times_by) l_42 d_42 k_42
  have b_42 := F_42.binds (ps := ["self", "order"]) fun _ _ _ _ _ _ us hl => match us, hl with | [_, _], _ => rfl
  have F_43 := fun_mk (st := s_House_best) l_43 d_43 k_43
  have b_43 := F_43.binds (ps := ["self"]) fun _ _ _ _ _ _ us hl => match us, hl with | [_], _ => rfl
  have F_44 := fun_mk (st := s_House_count_orders) l_44 d_44 k_44
  have b_44 := F_44.binds (ps := ["self"]) fun _ _ _ _ _ _ us hl => match us, hl with | [_], _ => rfl
  have F_45 := fun_mk (st := s_House_why) l_45 d_45 k_45
  have b_45 := F_45.binds (ps := ["self", "number", "order"]) fun _ _ _ _ _ _ us hl => match us, hl with | [_, _, _], _ => rfl
  have F_46 := fun_mk (st := s_House_slack) l_46 d_46 k_46
  have b_46 := F_46.binds (ps := ["self", "number", "which", "order"]) fun _ _ _ _ _ _ us hl => match us, hl with | [_, _, _, _], _ => rfl
  have F_47 := fun_mk (st := s_told_machine) l_47 d_47 k_47
  have b_47 := F_47.binds (ps := ["numbers"]) fun _ _ _ _ _ _ us hl => match us, hl with | [_], _ => rfl
  have F_48 := fun_mk (st := s_told_job) l_48 d_48 k_48
  have b_48 := F_48.binds (ps := ["numbers"]) fun _ _ _ _ _ _ us hl => match us, hl with | [_], _ => rfl
  have F_49 := fun_mk (st := s_answer_to) l_49 d_49 k_49
  have b_49 := F_49.binds (ps := ["house", "call", "numbers"]) fun _ _ _ _ _ _ us hl => match us, hl with | [_, _, _], _ => rfl
  have F_answers := fun_mk (st := s_answers) l_answers d_answers k_answers
  have b_answers := F_answers.binds (ps := ["calls"]) fun _ _ _ _ _ _ us hl => match us, hl with | [_], _ => rfl
  have T : Txt K mg ⟨C_Machine, C_Step, C_Job, C_Placed, C_Timetable, C_Beginning, C_House⟩ := ⟨⟨pg_Machine, hd_Machine, po_Machine, sa_Machine⟩, n_Machine_change, n_Machine_rests, ⟨pg_Step, hd_Step, po_Step, sa_Step⟩, n_Step_machine, n_Step_kind, n_Step_length, ⟨pg_Job, hd_Job, po_Job, sa_Job⟩, n_Job_start, n_Job_due, n_Job_weight, n_Job_steps, ⟨pg_Placed, hd_Placed, po_Placed, sa_Placed⟩, n_Placed_job, n_Placed_which, n_Placed_machine, n_Placed_ready, n_Placed_begin, n_Placed_stop, ⟨pg_Timetable, hd_Timetable, po_Timetable, sa_Timetable⟩, n_Timetable_machines, n_Timetable_jobs, n_Timetable_upcoming, n_Timetable_job_stops, n_Timetable_machine_stops, n_Timetable_kinds, ⟨pg_Beginning, hd_Beginning, po_Beginning, sa_Beginning⟩, n_Beginning_timetable, n_Beginning_order, n_Beginning_spent, n_Beginning_ended, n_Beginning_ways, ⟨pg_House, hd_House, po_House, sa_House⟩, n_House_machines, n_House_jobs, ⟨_, W.mg_of X G v_MOST_MACHINES⟩, ⟨_, W.mg_of X G v_MOST_RESTS⟩, ⟨_, W.mg_of X G v_MOST_STEPS⟩, ⟨_, W.mg_of X G v_MOST_CHANGE⟩, ⟨_, W.mg_of X G v_MOST_WEIGHT⟩, ⟨_, W.mg_of X G v_MOST_KIND⟩, ⟨_, W.mg_of X G v_MOST_LENGTH⟩, ⟨_, W.mg_of X G v_LAST_TIME⟩, ⟨_, W.mg_of X G v_CAUSE_OWN⟩, ⟨_, W.mg_of X G v_CAUSE_MACHINE⟩, ⟨_, W.mg_of X G v_CAUSE_FROM⟩, ⟨_, W.mg_of X G v_CAUSE_REST⟩, ⟨_, W.mg_of X G v_MOST_LONGER⟩, ⟨_, W.mg_of X G v_CALL_BEGINS⟩, ⟨_, W.mg_of X G v_CALL_MACHINE⟩, ⟨_, W.mg_of X G v_CALL_JOB⟩, ⟨_, W.mg_of X G v_CALL_DROP⟩, ⟨_, W.mg_of X G v_CALL_TIMES⟩, ⟨_, W.mg_of X G v_CALL_BEST⟩, ⟨_, W.mg_of X G v_CALL_WAYS⟩, ⟨_, W.mg_of X G v_CALL_WHY⟩, ⟨_, W.mg_of X G v_CALL_SLACK⟩, ⟨_, W.mg_of X G v_OUT_OF_BOUNDS⟩, ⟨_, W.mg_of X G v_NOT_THERE⟩, ⟨_, W.mg_of X G v_NO_ROOM⟩, ⟨_, W.mg_of X G v_NO_ORDER⟩, W.mg_none_of X G z_len, W.mg_none_of X G z_range, W.mg_none_of X G z_enumerate, W.mg_none_of X G z_zip, W.mg_none_of X G z_sum, W.mg_none_of X G z_all, W.mg_none_of X G z_max, W.mg_none_of X G z_min, W.mg_none_of X G z_list, W.mg_none_of X G z_tuple⟩
  refine ⟨PySem.W.fnOf "answers" "answers" (defArgs s_answers) (defBody s_answers) (defScope s_answers) .none kV_answers dc_answers pm_answers an_answers cv_answers ct_answers, fun s us hu => match us, hu with | [_], _ => .of_eq rfl, fun base _ _ => ?_⟩
  have c_rests_fit : Callee P w K mg base 1 "rests_fit" ["rests"] (sp_rests_fit) := ⟨_, _, ok_rests_fit F_0 T, W.mg_of X G a_0, k_0, b_0⟩
  have c_machine_fits : Callee P w K mg base 2 "machine_fits" ["machine"] (sp_machine_fits (⟨C_Machine, C_Step, C_Job, C_Placed, C_Timetable, C_Beginning, C_House⟩ : Cs)) := ⟨_, _, ok_machine_fits F_1 T c_rests_fit, W.mg_of X G a_1, k_1, b_1⟩
  have c_step_fits : Callee P w K mg base 1 "step_fits" ["step", "machines"] (sp_step_fits (⟨C_Machine, C_Step, C_Job, C_Placed, C_Timetable, C_Beginning, C_House⟩ : Cs)) := ⟨_, _, ok_step_fits F_2 T, W.mg_of X G a_2, k_2, b_2⟩
  have c_job_fits : Callee P w K mg base 2 "job_fits" ["job", "machines"] (sp_job_fits (⟨C_Machine, C_Step, C_Job, C_Placed, C_Timetable, C_Beginning, C_House⟩ : Cs)) := ⟨_, _, ok_job_fits F_3 T c_step_fits, W.mg_of X G a_3, k_3, b_3⟩
  have c_steps_together : Callee P w K mg base 1 "steps_together" ["jobs"] (sp_steps_together (⟨C_Machine, C_Step, C_Job, C_Placed, C_Timetable, C_Beginning, C_House⟩ : Cs)) := ⟨_, _, ok_steps_together F_4 T, W.mg_of X G a_4, k_4, b_4⟩
  have c_is_order : Callee P w K mg base 2 "is_order" ["jobs", "order"] (sp_is_order (⟨C_Machine, C_Step, C_Job, C_Placed, C_Timetable, C_Beginning, C_House⟩ : Cs)) := ⟨_, _, ok_is_order F_5 T c_steps_together, W.mg_of X G a_5, k_5, b_5⟩
  have c_Machine : KCallee P w K mg base 1 "Machine" C_Machine ["self", "change", "rests"] (spRec C_Machine ["change", "rests"]) := ⟨_, _, ok_Machine_init F_11 T, ⟨mk_Machine, a_11, i_11, kc_Machine⟩, W.mg_of X G a_Machine, b_11⟩
  have c_Step : KCallee P w K mg base 1 "Step" C_Step ["self", "machine", "kind", "length"] (spRec C_Step ["machine", "kind", "length"]) := ⟨_, _, ok_Step_init F_12 T, ⟨mk_Step, a_12, i_12, kc_Step⟩, W.mg_of X G a_Step, b_12⟩
  have c_Job : KCallee P w K mg base 1 "Job" C_Job ["self", "start", "due", "weight", "steps"] (spRec C_Job ["start", "due", "weight", "steps"]) := ⟨_, _, ok_Job_init F_13 T, ⟨mk_Job, a_13, i_13, kc_Job⟩, W.mg_of X G a_Job, b_13⟩
  have c_Placed : KCallee P w K mg base 1 "Placed" C_Placed ["self", "job", "which", "machine", "ready", "begin", "stop"] (spRec C_Placed ["job", "which", "machine", "ready", "begin", "stop"]) := ⟨_, _, ok_Placed_init F_14 T, ⟨mk_Placed, a_14, i_14, kc_Placed⟩, W.mg_of X G a_Placed, b_14⟩
  have c_Timetable : KCallee P w K mg base 1 "Timetable" C_Timetable ["self", "machines", "jobs", "upcoming", "job_stops", "machine_stops", "kinds"] (spRec C_Timetable ["machines", "jobs", "upcoming", "job_stops", "machine_stops", "kinds"]) := ⟨_, _, ok_Timetable_init F_15 T, ⟨mk_Timetable, a_15, i_15, kc_Timetable⟩, W.mg_of X G a_Timetable, b_15⟩
  have c_Beginning : KCallee P w K mg base 1 "Beginning" C_Beginning ["self", "timetable", "order", "spent", "ended", "ways"] (spRec C_Beginning ["timetable", "order", "spent", "ended", "ways"]) := ⟨_, _, ok_Beginning_init F_30 T, ⟨mk_Beginning, a_30, i_30, kc_Beginning⟩, W.mg_of X G a_Beginning, b_30⟩
  have c_first_time : Callee P w K mg base 1 "first_time" ["rests", "ready", "takes"] (sp_first_time) := ⟨_, _, ok_first_time F_21 T, W.mg_of X G a_21, k_21, b_21⟩
  have c_Timetable_has_more : MCallee P w K mg base 1 C_Timetable "has_more" ["self", "number"] (sp_has_more (⟨C_Machine, C_Step, C_Job, C_Placed, C_Timetable, C_Beginning, C_House⟩ : Cs)) := ⟨_, _, ok_has_more F_17 T, ⟨a_17, i_17, k_17⟩, b_17⟩
  have c_Timetable_put : MCallee P w K mg base 3 C_Timetable "put" ["self", "number"] (sp_put (⟨C_Machine, C_Step, C_Job, C_Placed, C_Timetable, C_Beginning, C_House⟩ : Cs)) := ⟨_, _, ok_put F_16 T c_first_time c_Placed c_Timetable_has_more, ⟨a_16, i_16, k_16⟩, b_16⟩
  have c_new_timetable : Callee P w K mg base 3 "new_timetable" ["machines", "jobs"] (sp_new_timetable (⟨C_Machine, C_Step, C_Job, C_Placed, C_Timetable, C_Beginning, C_House⟩ : Cs)) := ⟨_, _, ok_new_timetable F_20 T c_Timetable, W.mg_of X G a_20, k_20, b_20⟩
  have c_Timetable_ahead : MCallee P w K mg base 1 C_Timetable "ahead" ["self"] (sp_ahead (⟨C_Machine, C_Step, C_Job, C_Placed, C_Timetable, C_Beginning, C_House⟩ : Cs)) := ⟨_, _, ok_ahead F_18 T, ⟨a_18, i_18, k_18⟩, b_18⟩
  have c_Timetable_copied : MCallee P w K mg base 3 C_Timetable "copied" ["self"] (sp_copied (⟨C_Machine, C_Step, C_Job, C_Placed, C_Timetable, C_Beginning, C_House⟩ : Cs)) := ⟨_, _, ok_copied F_19 T c_Timetable, ⟨a_19, i_19, k_19⟩, b_19⟩
  have c_put_in_time : Callee P w K mg base 4 "put_in_time" ["machines", "jobs", "order"] (sp_put_in_time (⟨C_Machine, C_Step, C_Job, C_Placed, C_Timetable, C_Beginning, C_House⟩ : Cs)) := ⟨_, _, ok_put_in_time F_22 T c_new_timetable c_Timetable_put, W.mg_of X G a_22, k_22, b_22⟩
  have c_job_ends : Callee P w K mg base 1 "job_ends" ["jobs", "placed"] (sp_job_ends (⟨C_Machine, C_Step, C_Job, C_Placed, C_Timetable, C_Beginning, C_House⟩ : Cs)) := ⟨_, _, ok_job_ends F_23 T, W.mg_of X G a_23, k_23, b_23⟩
  have c_late : Callee P w K mg base 1 "late" ["job", "end"] (sp_late (⟨C_Machine, C_Step, C_Job, C_Placed, C_Timetable, C_Beginning, C_House⟩ : Cs)) := ⟨_, _, ok_late F_24 T, W.mg_of X G a_24, k_24, b_24⟩
  have c_job_cost : Callee P w K mg base 2 "job_cost" ["job", "end"] (sp_job_cost (⟨C_Machine, C_Step, C_Job, C_Placed, C_Timetable, C_Beginning, C_House⟩ : Cs)) := ⟨_, _, ok_job_cost F_25 T c_late, W.mg_of X G a_25, k_25, b_25⟩
  have c_cost : Callee P w K mg base 3 "cost" ["jobs", "ends"] (sp_cost (⟨C_Machine, C_Step, C_Job, C_Placed, C_Timetable, C_Beginning, C_House⟩ : Cs)) := ⟨_, _, ok_cost F_26 T c_job_cost, W.mg_of X G a_26, k_26, b_26⟩
  have c_order_cost : Callee P w K mg base 5 "order_cost" ["machines", "jobs", "order"] (sp_order_cost (⟨C_Machine, C_Step, C_Job, C_Placed, C_Timetable, C_Beginning, C_House⟩ : Cs)) := ⟨_, _, ok_order_cost F_27 T c_cost c_job_ends c_put_in_time, W.mg_of X G a_27, k_27, b_27⟩
  have c_told_machine : Callee P w K mg base 3 "told_machine" ["numbers"] (sp_told_machine (⟨C_Machine, C_Step, C_Job, C_Placed, C_Timetable, C_Beginning, C_House⟩ : Cs)) := ⟨_, _, ok_told_machine F_47 T c_Machine, W.mg_of X G a_47, k_47, b_47⟩
  have c_told_job : Callee P w K mg base 3 "told_job" ["numbers"] (sp_told_job (⟨C_Machine, C_Step, C_Job, C_Placed, C_Timetable, C_Beginning, C_House⟩ : Cs)) := ⟨_, _, ok_told_job F_48 T c_Step c_Job, W.mg_of X G a_48, k_48, b_48⟩
  have c_House : KCallee P w K mg base 1 "House" C_House ["self"] (sp_house_init (⟨C_Machine, C_Step, C_Job, C_Placed, C_Timetable, C_Beginning, C_House⟩ : Cs)) := ⟨_, _, ok_house_init F_37 T, ⟨mk_House, a_37, i_37, kc_House⟩, W.mg_of X G a_House, b_37⟩
  have c_House_begin_anew : MCallee P w K mg base 1 C_House "begin_anew" ["self"] (sp_begin_anew (⟨C_Machine, C_Step, C_Job, C_Placed, C_Timetable, C_Beginning, C_House⟩ : Cs)) := ⟨_, _, ok_begin_anew F_38 T, ⟨a_38, i_38, k_38⟩, b_38⟩
  have c_House_add_machine : MCallee P w K mg base 3 C_House "add_machine" ["self", "machine"] (sp_add_machine (⟨C_Machine, C_Step, C_Job, C_Placed, C_Timetable, C_Beginning, C_House⟩ : Cs)) := ⟨_, _, ok_add_machine F_39 T c_machine_fits, ⟨a_39, i_39, k_39⟩, b_39⟩
  have c_House_add_job : MCallee P w K mg base 3 C_House "add_job" ["self", "job"] (sp_add_job (⟨C_Machine, C_Step, C_Job, C_Placed, C_Timetable, C_Beginning, C_House⟩ : Cs)) := ⟨_, _, ok_add_job F_40 T c_job_fits c_steps_together, ⟨a_40, i_40, k_40⟩, b_40⟩
  have c_House_drop_job : MCallee P w K mg base 1 C_House "drop_job" ["self", "number"] (sp_drop_job (⟨C_Machine, C_Step, C_Job, C_Placed, C_Timetable, C_Beginning, C_House⟩ : Cs)) := ⟨_, _, ok_drop_job F_41 T, ⟨a_41, i_41, k_41⟩, b_41⟩
  have c_House_times_by : MCallee P w K mg base 5 C_House "times_by" ["self", "order"] (sp_times_by (⟨C_Machine, C_Step, C_Job, C_Placed, C_Timetable, C_Beginning, C_House⟩ : Cs)) := ⟨_, _, ok_times_by F_42 T c_is_order c_put_in_time c_job_ends c_cost, ⟨a_42, i_42, k_42⟩, b_42⟩
  have c_rank : Callee P w K mg base 1 "rank" ["beginning"] (sp_rank (⟨C_Machine, C_Step, C_Job, C_Placed, C_Timetable, C_Beginning, C_House⟩ : Cs)) := ⟨_, _, ok_rank F_31 T, W.mg_of X G a_31, k_31, b_31⟩
  have c_with_next : Callee P w K mg base 4 "with_next" ["beginning", "number"] (sp_with_next (⟨C_Machine, C_Step, C_Job, C_Placed, C_Timetable, C_Beginning, C_House⟩ : Cs)) := ⟨_, _, ok_with_next F_32 T c_Timetable_copied c_Timetable_put c_Timetable_has_more c_job_cost c_Beginning, W.mg_of X G a_32, k_32, b_32⟩
  have c_as_one : Callee P w K mg base 3 "as_one" ["beginnings"] (sp_as_one (⟨C_Machine, C_Step, C_Job, C_Placed, C_Timetable, C_Beginning, C_House⟩ : Cs)) := ⟨_, _, ok_as_one F_33 T c_rank c_Beginning, W.mg_of X G a_33, k_33, b_33⟩
  have c_longer_by_one : Callee P w K mg base 5 "longer_by_one" ["beginnings", "jobs"] (sp_longer_by_one (⟨C_Machine, C_Step, C_Job, C_Placed, C_Timetable, C_Beginning, C_House⟩ : Cs)) := ⟨_, _, ok_longer_by_one F_34 T c_Timetable_has_more c_with_next c_Timetable_ahead c_as_one, W.mg_of X G a_34, k_34, b_34⟩
  have c_best_order : Callee P w K mg base 6 "best_order" ["machines", "jobs"] (sp_best_order (⟨C_Machine, C_Step, C_Job, C_Placed, C_Timetable, C_Beginning, C_House⟩ : Cs)) := ⟨_, _, ok_best_order F_35 T c_Beginning c_new_timetable c_steps_together c_longer_by_one c_as_one, W.mg_of X G a_35, k_35, b_35⟩
  have c_how_many_orders : Callee P w K mg base 1 "how_many_orders" ["jobs"] (sp_how_many_orders (⟨C_Machine, C_Step, C_Job, C_Placed, C_Timetable, C_Beginning, C_House⟩ : Cs)) := ⟨_, _, ok_how_many_orders F_36 T, W.mg_of X G a_36, k_36, b_36⟩
  have c_last_place : Callee P w K mg base 1 "last_place" ["numbers", "number"] (sp_last_place) := ⟨_, _, ok_last_place F_6 T, W.mg_of X G a_6, k_6, b_6⟩
  have c_place_of_last_step : Callee P w K mg base 2 "place_of_last_step" ["placed", "number"] (sp_place_of_last_step (⟨C_Machine, C_Step, C_Job, C_Placed, C_Timetable, C_Beginning, C_House⟩ : Cs)) := ⟨_, _, ok_place_of_last_step F_7 T c_last_place, W.mg_of X G a_7, k_7, b_7⟩
  have c_place_before_on_machine : Callee P w K mg base 2 "place_before_on_machine" ["placed", "place"] (sp_place_before (⟨C_Machine, C_Step, C_Job, C_Placed, C_Timetable, C_Beginning, C_House⟩ : Cs)) := ⟨_, _, ok_place_before F_8 T c_last_place, W.mg_of X G a_8, k_8, b_8⟩
  have c_cause_of : Callee P w K mg base 3 "cause_of" ["jobs", "placed", "place"] (sp_cause_of (⟨C_Machine, C_Step, C_Job, C_Placed, C_Timetable, C_Beginning, C_House⟩ : Cs)) := ⟨_, _, ok_cause_of F_9 T c_place_of_last_step, W.mg_of X G a_9, k_9, b_9⟩
  have c_chain : Callee P w K mg base 4 "chain" ["jobs", "placed", "number"] (sp_chain (⟨C_Machine, C_Step, C_Job, C_Placed, C_Timetable, C_Beginning, C_House⟩ : Cs)) := ⟨_, _, ok_chain F_10 T c_place_of_last_step c_cause_of c_place_before_on_machine, W.mg_of X G a_10, k_10, b_10⟩
  have c_with_longer_step : Callee P w K mg base 3 "with_longer_step" ["jobs", "number", "which", "longer"] (sp_with_longer_step (⟨C_Machine, C_Step, C_Job, C_Placed, C_Timetable, C_Beginning, C_House⟩ : Cs)) := ⟨_, _, ok_with_longer_step F_28 T c_Step c_Job, W.mg_of X G a_28, k_28, b_28⟩
  have c_most_longer : Callee P w K mg base 6 "most_longer" ["machines", "jobs", "number", "which", "order"] (sp_most_longer (⟨C_Machine, C_Step, C_Job, C_Placed, C_Timetable, C_Beginning, C_House⟩ : Cs)) := ⟨_, _, ok_most_longer F_29 T c_order_cost c_with_longer_step, W.mg_of X G a_29, k_29, b_29⟩
  have c_House_best : MCallee P w K mg base 7 C_House "best" ["self"] (sp_best (⟨C_Machine, C_Step, C_Job, C_Placed, C_Timetable, C_Beginning, C_House⟩ : Cs)) := ⟨_, _, ok_best F_43 T c_best_order, ⟨a_43, i_43, k_43⟩, b_43⟩
  have c_House_count_orders : MCallee P w K mg base 7 C_House "count_orders" ["self"] (sp_count_orders (⟨C_Machine, C_Step, C_Job, C_Placed, C_Timetable, C_Beginning, C_House⟩ : Cs)) := ⟨_, _, ok_count_orders F_44 T c_how_many_orders c_best_order, ⟨a_44, i_44, k_44⟩, b_44⟩
  have c_House_why : MCallee P w K mg base 5 C_House "why" ["self", "number", "order"] (sp_why (⟨C_Machine, C_Step, C_Job, C_Placed, C_Timetable, C_Beginning, C_House⟩ : Cs)) := ⟨_, _, ok_why F_45 T c_is_order c_put_in_time c_chain c_late c_job_ends, ⟨a_45, i_45, k_45⟩, b_45⟩
  have c_House_slack : MCallee P w K mg base 7 C_House "slack" ["self", "number", "which", "order"] (sp_slack (⟨C_Machine, C_Step, C_Job, C_Placed, C_Timetable, C_Beginning, C_House⟩ : Cs)) := ⟨_, _, ok_slack F_46 T c_is_order c_most_longer, ⟨a_46, i_46, k_46⟩, b_46⟩
  have c_answer_to : Callee P w K mg base 8 "answer_to" ["house", "call", "numbers"] (sp_answer_to (⟨C_Machine, C_Step, C_Job, C_Placed, C_Timetable, C_Beginning, C_House⟩ : Cs)) := ⟨_, _, ok_answer_to F_49 T c_House_begin_anew c_House_add_machine c_House_add_job c_House_drop_job c_House_times_by c_House_best c_House_count_orders c_House_why c_House_slack c_told_machine c_told_job, W.mg_of X G a_49, k_49, b_49⟩
  exact ok_answers F_answers T c_House c_answer_to
end Sj
def PySem.W.Fast.tw12111227757360499707 : Nat := 0
def PySem.W.Fast.tw12038452327688581277 : Nat := 0
def PySem.W.Fast.tw5888735608951123824 : Nat := 0
def PySem.W.Fast.tw13165388442394400563 : Nat := 0
def PySem.W.Fast.tw2709453093167964543 : Nat := 0
def PySem.W.Fast.tw11858937141375095903 : Nat := 0
def PySem.W.Fast.tw501328195110244187 : Nat := 0
def PySem.W.Fast.tw10198745229110231727 : Nat := 0
def PySem.W.Fast.tw17567422659709751949 : Nat := 0
def PySem.W.Fast.tw16380484510533910277 : Nat := 0
def PySem.W.Fast.tw16126341920978654155 : Nat := 0
def PySem.W.Fast.tw10260604636021685744 : Nat := 0
def PySem.W.Fast.tw15909373450430047976 : Nat := 0
def PySem.W.Fast.tw1942056974841078430 : Nat := 0
def PySem.W.Fast.tw8142429275981304067 : Nat := 0
def PySem.W.Fast.tw717199860496034692 : Nat := 0
open PySem PySem.W PyProof.Rows
set_option maxRecDepth 100000 in
set_option maxHeartbeats 0 in
theorem PySem.Challenge.cw_stepjobs_s01_answers_holds : PySem.Challenge.rw_stepjobs_s01_answers.Holds := by
  w_on; k_headS; (case hw => exact ⟨[.list [.int 0, .int 0, .int 0]], by decide +kernel, by decide +kernel⟩)
  k_fillS
  refine L2.walk_specK (r := PySem.Challenge.rw_stepjobs_s01_answers) (k := 9) (CX := L2.CX0) (ps := ["calls"]) (sp := Sj.sp_answers) (by decide +kernel) rfl rfl ⟨rfl, by decide, by decide⟩ (fun w h Y => PySem.W.kIn_of Y) ?F ?S (fun _ _ _ _ z => z)
  case F =>
    intro w mg fa h Y KX G hmg
    refine' Sj.all_mk KX G hmg ?a_Machine ?pg_Machine ?hd_Machine ?po_Machine ?sa_Machine ?mk_Machine ?kc_Machine ?n_Machine_change ?n_Machine_rests ?a_Step ?pg_Step ?hd_Step ?po_Step ?sa_Step ?mk_Step ?kc_Step ?n_Step_machine ?n_Step_kind ?n_Step_length ?a_Job ?pg_Job ?hd_Job ?po_Job ?sa_Job ?mk_Job ?kc_Job ?n_Job_start ?n_Job_due ?n_Job_weight ?n_Job_steps ?a_Placed ?pg_Placed ?hd_Placed ?po_Placed ?sa_Placed ?mk_Placed ?kc_Placed ?n_Placed_job ?n_Placed_which ?n_Placed_machine ?n_Placed_ready ?n_Placed_begin ?n_Placed_stop ?a_Timetable ?pg_Timetable ?hd_Timetable ?po_Timetable ?sa_Timetable ?mk_Timetable ?kc_Timetable ?n_Timetable_machines ?n_Timetable_jobs ?n_Timetable_upcoming ?n_Timetable_job_stops ?n_Timetable_machine_stops ?n_Timetable_kinds ?a_Beginning ?pg_Beginning ?hd_Beginning ?po_Beginning ?sa_Beginning ?mk_Beginning ?kc_Beginning ?n_Beginning_timetable ?n_Beginning_order ?n_Beginning_spent ?n_Beginning_ended ?n_Beginning_ways ?a_House ?pg_House ?hd_House ?po_House ?sa_House ?mk_House ?kc_House ?n_House_machines ?n_House_jobs ?a_0 ?l_0 ?d_0 ?k_0 ?a_1 ?l_1 ?d_1 ?k_1 ?a_2 ?l_2 ?d_2 ?k_2 ?a_3 ?l_3 ?d_3 ?k_3 ?a_4 ?l_4 ?d_4 ?k_4 ?a_5 ?l_5 ?d_5 ?k_5 ?a_6 ?l_6 ?d_6 ?k_6 ?a_7 ?l_7 ?d_7 ?k_7 ?a_8 ?l_8 ?d_8 ?k_8 ?a_9 ?l_9 ?d_9 ?k_9 ?a_10 ?l_10 ?d_10 ?k_10 ?a_11 ?i_11 ?l_11 ?d_11 ?k_11 ?a_12 ?i_12 ?l_12 ?d_12 ?k_12 ?a_13 ?i_13 ?l_13 ?d_13 ?k_13 ?a_14 ?i_14 ?l_14 ?d_14 ?k_14 ?a_15 ?i_15 ?l_15 ?d_15 ?k_15 ?a_16 ?i_16 ?l_16 ?d_16 ?k_16 ?a_17 ?i_17 ?l_17 ?d_17 ?k_17 ?a_18 ?i_18 ?l_18 ?d_18 ?k_18 ?a_19 ?i_19 ?l_19 ?d_19 ?k_19 ?a_20 ?l_20 ?d_20 ?k_20 ?a_21 ?l_21 ?d_21 ?k_21 ?a_22 ?l_22 ?d_22 ?k_22 ?a_23 ?l_23 ?d_23 ?k_23 ?a_24 ?l_24 ?d_24 ?k_24 ?a_25 ?l_25 ?d_25 ?k_25 ?a_26 ?l_26 ?d_26 ?k_26 ?a_27 ?l_27 ?d_27 ?k_27 ?a_28 ?l_28 ?d_28 ?k_28 ?a_29 ?l_29 ?d_29 ?k_29 ?a_30 ?i_30 ?l_30 ?d_30 ?k_30 ?a_31 ?l_31 ?d_31 ?k_31 ?a_32 ?l_32 ?d_32 ?k_32 ?a_33 ?l_33 ?d_33 ?k_33 ?a_34 ?l_34 ?d_34 ?k_34 ?a_35 ?l_35 ?d_35 ?k_35 ?a_36 ?l_36 ?d_36 ?k_36 ?a_37 ?i_37 ?l_37 ?d_37 ?k_37 ?a_38 ?i_38 ?l_38 ?d_38 ?k_38 ?a_39 ?i_39 ?l_39 ?d_39 ?k_39 ?a_40 ?i_40 ?l_40 ?d_40 ?k_40 ?a_41 ?i_41 ?l_41 ?d_41 ?k_41 ?a_42 ?i_42 ?l_42 ?d_42 ?k_42 ?a_43 ?i_43 ?l_43 ?d_43 ?k_43 ?a_44 ?i_44 ?l_44 ?d_44 ?k_44 ?a_45 ?i_45 ?l_45 ?d_45 ?k_45 ?a_46 ?i_46 ?l_46 ?d_46 ?k_46 ?a_47 ?l_47 ?d_47 ?k_47 ?a_48 ?l_48 ?d_48 ?k_48 ?a_49 ?l_49 ?d_49 ?k_49 ?a_answers ?l_answers ?d_answers ?k_answers ?v_MOST_MACHINES ?v_MOST_RESTS ?v_MOST_STEPS ?v_MOST_CHANGE ?v_MOST_WEIGHT ?v_MOST_KIND ?v_MOST_LENGTH ?v_LAST_TIME ?v_CAUSE_OWN ?v_CAUSE_MACHINE ?v_CAUSE_FROM ?v_CAUSE_REST ?v_MOST_LONGER ?v_CALL_BEGINS ?v_CALL_MACHINE ?v_CALL_JOB ?v_CALL_DROP ?v_CALL_TIMES ?v_CALL_BEST ?v_CALL_WAYS ?v_CALL_WHY ?v_CALL_SLACK ?v_OUT_OF_BOUNDS ?v_NOT_THERE ?v_NO_ROOM ?v_NO_ORDER ?z_len ?z_range ?z_enumerate ?z_zip ?z_sum ?z_all ?z_max ?z_min ?z_list ?z_tuple
    (case a_Machine => k_is)
    (case pg_Machine => k_is)
    (case hd_Machine => k_is)
    (case po_Machine => k_is)
    (case sa_Machine => k_is)
    (case mk_Machine => k_is)
    (case kc_Machine => k_is)
    (case n_Machine_change => k_is)
    (case n_Machine_rests => k_is)
    (case a_Step => k_is)
    (case pg_Step => k_is)
    (case hd_Step => k_is)
    (case po_Step => k_is)
    (case sa_Step => k_is)
    (case mk_Step => k_is)
    (case kc_Step => k_is)
    (case n_Step_machine => k_is)
    (case n_Step_kind => k_is)
    (case n_Step_length => k_is)
    (case a_Job => k_is)
    (case pg_Job => k_is)
    (case hd_Job => k_is)
    (case po_Job => k_is)
    (case sa_Job => k_is)
    (case mk_Job => k_is)
    (case kc_Job => k_is)
    (case n_Job_start => k_is)
    (case n_Job_due => k_is)
    (case n_Job_weight => k_is)
    (case n_Job_steps => k_is)
    (case a_Placed => k_is)
    (case pg_Placed => k_is)
    (case hd_Placed => k_is)
    (case po_Placed => k_is)
    (case sa_Placed => k_is)
    (case mk_Placed => k_is)
    (case kc_Placed => k_is)
    (case n_Placed_job => k_is)
    (case n_Placed_which => k_is)
    (case n_Placed_machine => k_is)
    (case n_Placed_ready => k_is)
    (case n_Placed_begin => k_is)
    (case n_Placed_stop => k_is)
    (case a_Timetable => k_is)
    (case pg_Timetable => k_is)
    (case hd_Timetable => k_is)
    (case po_Timetable => k_is)
    (case sa_Timetable => k_is)
    (case mk_Timetable => k_is)
    (case kc_Timetable => k_is)
    (case n_Timetable_machines => k_is)
    (case n_Timetable_jobs => k_is)
    (case n_Timetable_upcoming => k_is)
    (case n_Timetable_job_stops => k_is)
    (case n_Timetable_machine_stops => k_is)
    (case n_Timetable_kinds => k_is)
    (case a_Beginning => k_is)
    (case pg_Beginning => k_is)
    (case hd_Beginning => k_is)
    (case po_Beginning => k_is)
    (case sa_Beginning => k_is)
    (case mk_Beginning => k_is)
    (case kc_Beginning => k_is)
    (case n_Beginning_timetable => k_is)
    (case n_Beginning_order => k_is)
    (case n_Beginning_spent => k_is)
    (case n_Beginning_ended => k_is)
    (case n_Beginning_ways => k_is)
    (case a_House => k_is)
    (case pg_House => k_is)
    (case hd_House => k_is)
    (case po_House => k_is)
    (case sa_House => k_is)
    (case mk_House => k_is)
    (case kc_House => k_is)
    (case n_House_machines => k_is)
    (case n_House_jobs => k_is)
    (case a_0 => k_is)
    (case l_0 => k_is)
    (case d_0 => k_is)
    (case k_0 => k_is)
    (case a_1 => k_is)
    (case l_1 => k_is)
    (case d_1 => k_is)
    (case k_1 => k_is)
    (case a_2 => k_is)
    (case l_2 => k_is)
    (case d_2 => k_is)
    (case k_2 => k_is)
    (case a_3 => k_is)
    (case l_3 => k_is)
    (case d_3 => k_is)
    (case k_3 => k_is)
    (case a_4 => k_is)
    (case l_4 => k_is)
    (case d_4 => k_is)
    (case k_4 => k_is)
    (case a_5 => k_is)
    (case l_5 => k_is)
    (case d_5 => k_is)
    (case k_5 => k_is)
    (case a_6 => k_is)
    (case l_6 => k_is)
    (case d_6 => k_is)
    (case k_6 => k_is)
    (case a_7 => k_is)
    (case l_7 => k_is)
    (case d_7 => k_is)
    (case k_7 => k_is)
    (case a_8 => k_is)
    (case l_8 => k_is)
    (case d_8 => k_is)
    (case k_8 => k_is)
    (case a_9 => k_is)
    (case l_9 => k_is)
    (case d_9 => k_is)
    (case k_9 => k_is)
    (case a_10 => k_is)
    (case l_10 => k_is)
    (case d_10 => k_is)
    (case k_10 => k_is)
    (case a_11 => k_is)
    (case i_11 => k_is)
    (case l_11 => k_is)
    (case d_11 => k_is)
    (case k_11 => k_is)
    (case a_12 => k_is)
    (case i_12 => k_is)
    (case l_12 => k_is)
    (case d_12 => k_is)
    (case k_12 => k_is)
    (case a_13 => k_is)
    (case i_13 => k_is)
    (case l_13 => k_is)
    (case d_13 => k_is)
    (case k_13 => k_is)
    (case a_14 => k_is)
    (case i_14 => k_is)
    (case l_14 => k_is)
    (case d_14 => k_is)
    (case k_14 => k_is)
    (case a_15 => k_is)
    (case i_15 => k_is)
    (case l_15 => k_is)
    (case d_15 => k_is)
    (case k_15 => k_is)
    (case a_16 => k_is)
    (case i_16 => k_is)
    (case l_16 => k_is)
    (case d_16 => k_is)
    (case k_16 => k_is)
    (case a_17 => k_is)
    (case i_17 => k_is)
    (case l_17 => k_is)
    (case d_17 => k_is)
    (case k_17 => k_is)
    (case a_18 => k_is)
    (case i_18 => k_is)
    (case l_18 => k_is)
    (case d_18 => k_is)
    (case k_18 => k_is)
    (case a_19 => k_is)
    (case i_19 => k_is)
    (case l_19 => k_is)
    (case d_19 => k_is)
    (case k_19 => k_is)
    (case a_20 => k_is)
    (case l_20 => k_is)
    (case d_20 => k_is)
    (case k_20 => k_is)
    (case a_21 => k_is)
    (case l_21 => k_is)
    (case d_21 => k_is)
    (case k_21 => k_is)
    (case a_22 => k_is)
    (case l_22 => k_is)
    (case d_22 => k_is)
    (case k_22 => k_is)
    (case a_23 => k_is)
    (case l_23 => k_is)
    (case d_23 => k_is)
    (case k_23 => k_is)
    (case a_24 => k_is)
    (case l_24 => k_is)
    (case d_24 => k_is)
    (case k_24 => k_is)
    (case a_25 => k_is)
    (case l_25 => k_is)
    (case d_25 => k_is)
    (case k_25 => k_is)
    (case a_26 => k_is)
    (case l_26 => k_is)
    (case d_26 => k_is)
    (case k_26 => k_is)
    (case a_27 => k_is)
    (case l_27 => k_is)
    (case d_27 => k_is)
    (case k_27 => k_is)
    (case a_28 => k_is)
    (case l_28 => k_is)
    (case d_28 => k_is)
    (case k_28 => k_is)
    (case a_29 => k_is)
    (case l_29 => k_is)
    (case d_29 => k_is)
    (case k_29 => k_is)
    (case a_30 => k_is)
    (case i_30 => k_is)
    (case l_30 => k_is)
    (case d_30 => k_is)
    (case k_30 => k_is)
    (case a_31 => k_is)
    (case l_31 => k_is)
    (case d_31 => k_is)
    (case k_31 => k_is)
    (case a_32 => k_is)
    (case l_32 => k_is)
    (case d_32 => k_is)
    (case k_32 => k_is)
    (case a_33 => k_is)
    (case l_33 => k_is)
    (case d_33 => k_is)
    (case k_33 => k_is)
    (case a_34 => k_is)
    (case l_34 => k_is)
    (case d_34 => k_is)
    (case k_34 => k_is)
    (case a_35 => k_is)
    (case l_35 => k_is)
    (case d_35 => k_is)
    (case k_35 => k_is)
    (case a_36 => k_is)
    (case l_36 => k_is)
    (case d_36 => k_is)
    (case k_36 => k_is)
    (case a_37 => k_is)
    (case i_37 => k_is)
    (case l_37 => k_is)
    (case d_37 => k_is)
    (case k_37 => k_is)
    (case a_38 => k_is)
    (case i_38 => k_is)
    (case l_38 => k_is)
    (case d_38 => k_is)
    (case k_38 => k_is)
    (case a_39 => k_is)
    (case i_39 => k_is)
    (case l_39 => k_is)
    (case d_39 => k_is)
    (case k_39 => k_is)
    (case a_40 => k_is)
    (case i_40 => k_is)
    (case l_40 => k_is)
    (case d_40 => k_is)
    (case k_40 => k_is)
    (case a_41 => k_is)
    (case i_41 => k_is)
    (case l_41 => k_is)
    (case d_41 => k_is)
    (case k_41 => k_is)
    (case a_42 => k_is)
    (case i_42 => k_is)
    (case l_42 => k_is)
    (case d_42 => k_is)
    (case k_42 => k_is)
    (case a_43 => k_is)
    (case i_43 => k_is)
    (case l_43 => k_is)
    (case d_43 => k_is)
    (case k_43 => k_is)
    (case a_44 => k_is)
    (case i_44 => k_is)
    (case l_44 => k_is)
    (case d_44 => k_is)
    (case k_44 => k_is)
    (case a_45 => k_is)
    (case i_45 => k_is)
    (case l_45 => k_is)
    (case d_45 => k_is)
    (case k_45 => k_is)
    (case a_46 => k_is)
    (case i_46 => k_is)
    (case l_46 => k_is)
    (case d_46 => k_is)
    (case k_46 => k_is)
    (case a_47 => k_is)
    (case l_47 => k_is)
    (case d_47 => k_is)
    (case k_47 => k_is)
    (case a_48 => k_is)
    (case l_48 => k_is)
    (case d_48 => k_is)
    (case k_48 => k_is)
    (case a_49 => k_is)
    (case l_49 => k_is)
    (case d_49 => k_is)
    (case k_49 => k_is)
    (case a_answers => k_is)
    (case l_answers => k_is)
    (case d_answers => k_is)
    (case k_answers => k_is)
    (case v_MOST_MACHINES => k_is)
    (case v_MOST_RESTS => k_is)
    (case v_MOST_STEPS => k_is)
    (case v_MOST_CHANGE => k_is)
    (case v_MOST_WEIGHT => k_is)
    (case v_MOST_KIND => k_is)
    (case v_MOST_LENGTH => k_is)
    (case v_LAST_TIME => k_is)
    (case v_CAUSE_OWN => k_is)
    (case v_CAUSE_MACHINE => k_is)
    (case v_CAUSE_FROM => k_is)
    (case v_CAUSE_REST => k_is)
    (case v_MOST_LONGER => k_is)
    (case v_CALL_BEGINS => k_is)
    (case v_CALL_MACHINE => k_is)
    (case v_CALL_JOB => k_is)
    (case v_CALL_DROP => k_is)
    (case v_CALL_TIMES => k_is)
    (case v_CALL_BEST => k_is)
    (case v_CALL_WAYS => k_is)
    (case v_CALL_WHY => k_is)
    (case v_CALL_SLACK => k_is)
    (case v_OUT_OF_BOUNDS => k_is)
    (case v_NOT_THERE => k_is)
    (case v_NO_ROOM => k_is)
    (case v_NO_ORDER => k_is)
    (case z_len => k_is)
    (case z_range => k_is)
    (case z_enumerate => k_is)
    (case z_zip => k_is)
    (case z_sum => k_is)
    (case z_all => k_is)
    (case z_max => k_is)
    (case z_min => k_is)
    (case z_list => k_is)
    (case z_tuple => k_is)
  case S =>
    intro K H xs a hO hwi hask hx
    cases hx with
    | cons h1 h2 =>
      cases h2
      cases h1 with
      | lst hs ha =>
        have e := L2.ints_dw a.1 _ ha
        subst e
        have q : ((Codec.inLen 0 3000 a.1 && a.1.all (Codec.inInt 0 4294967295)) && true) = true := hwi
        rw [Bool.and_eq_true, Bool.and_eq_true] at q
        exact ⟨_, a.1, rfl, hs, (Codec.inNat_iff.mp q.1.1).2, hask, fun H' p hp => .lst (L2.SqL.of hp) (L2.dw_ints _)⟩
end
#print axioms PySem.Challenge.cw_stepjobs_s01_answers_holds
