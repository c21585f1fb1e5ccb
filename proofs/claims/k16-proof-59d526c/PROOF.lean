import PyProof.Rows.All
import Wide.All
import OpenK.AllK
import Wide.FinOn
import PyProof.EqAt
import PyProof.EqKinds
import PyProof.TupleCall
import KE.BitLaws
import KE.KTabLook
import PySem.Challenge.RW_longwork_k16_plans_refused
set_option Elab.async false
set_option linter.all false
set_option maxRecDepth 100000
namespace L2
open PySem PySem.Spec PyProof.Rows
abbrev Key := Sum Int Str
def keyIs : Key → Value → Bool
  | .inl k, v => Value.isInt k v
  | .inr x, v => Value.isStrOf x v
def keyH (w : World) : Key → Int
  | .inl k => hashInt k
  | .inr x => hashStr w x
theorem keyIs_shape : ∀ {k : Key} {v : Value}, keyIs k v = true → (∃ i t, k = Sum.inl i ∧ v = Value.int i t) ∨ (∃ x t, k = Sum.inr x ∧ v = Value.str x t)
  | .inl i, v, h => by
    obtain ⟨t, e⟩ := Value.isInt_shape (k := i) (v := v) h
    exact .inl ⟨i, t, rfl, e⟩
  | .inr x, v, h => by
    obtain ⟨t, e⟩ := Value.isStrOf_shape (x := x) (v := v) h
    exact .inr ⟨x, t, rfl, e⟩
theorem keyIs_int (i : Int) (t : Tok) : keyIs (.inl i) (.int i t) = true := by simp [keyIs, Value.isInt]
theorem keyIs_str (x : Str) (t : Tok) : keyIs (.inr x) (.str x t) = true := by simp [keyIs, Value.isStrOf]
theorem key_ll (a b : Int) : decide ((Sum.inl a : Key) = Sum.inl b) = (a == b) := by
  by_cases e : a = b
  · subst e; simp
  · have h : ¬ (Sum.inl a : Key) = Sum.inl b := fun q => e (Sum.inl.inj q)
    rw [decide_eq_false h]
    exact (beq_eq_false_iff_ne.mpr e).symm
theorem key_rr (a b : Str) : decide ((Sum.inr a : Key) = Sum.inr b) = decide (a = b) := by
  by_cases e : a = b
  · subst e; simp
  · have h : ¬ (Sum.inr a : Key) = Sum.inr b := fun q => e (Sum.inr.inj q)
    rw [decide_eq_false h, decide_eq_false e]
theorem key_lr (a : Int) (b : Str) : decide ((Sum.inl a : Key) = Sum.inr b) = false := decide_eq_false (fun q => nomatch q)
theorem key_rl (a : Str) (b : Int) : decide ((Sum.inr a : Key) = Sum.inl b) = false := decide_eq_false (fun q => nomatch q)
def mixKind (prog : Program) (w : World) : PySem.KeyKind prog w Key where
  is := keyIs
  hash := keyH w
  inj := fun v a b ha hb => by
    rcases keyIs_shape ha with ⟨i, t, rfl, rfl⟩ | ⟨x, t, rfl, rfl⟩
    · rcases keyIs_shape hb with ⟨j, u, rfl, e⟩ | ⟨y, u, rfl, e⟩
      · injection e with e1 _; rw [e1]
      · exact nomatch e
    · rcases keyIs_shape hb with ⟨j, u, rfl, e⟩ | ⟨y, u, rfl, e⟩
      · exact nomatch e
      · injection e with e1 _; rw [e1]
  byValue := fun k v h => by
    rcases keyIs_shape h with ⟨i, t, rfl, rfl⟩ | ⟨x, t, rfl, rfl⟩ <;> rfl
  pyHash := fun hv h => by
    rcases keyIs_shape hv with ⟨i, t, rfl, rfl⟩ | ⟨x, t, rfl, rfl⟩
    · exact wpAny_pyHash_int h
    · exact wpAny_pyHash_str h
  eqBool := fun hu hv h => by
    rcases keyIs_shape hu with ⟨i, t, rfl, rfl⟩ | ⟨x, t, rfl, rfl⟩
    · rcases keyIs_shape hv with ⟨j, u, rfl, rfl⟩ | ⟨y, u, rfl, rfl⟩
      · rw [key_ll] at h; exact wpAny_eqBool_int h
      · rw [key_lr] at h; exact SeqAt.EqAt.int_str i t y u _ _ _ _ h
    · rcases keyIs_shape hv with ⟨j, u, rfl, rfl⟩ | ⟨y, u, rfl, rfl⟩
      · rw [key_rl] at h; exact SeqAt.EqAt.str_int x t j u _ _ _ _ h
      · rw [key_rr] at h; exact wpAny_eqBool_str h
  «strs» := fun k x t v h => by
    rcases keyIs_shape h with ⟨i, u, rfl, e⟩ | ⟨y, u, rfl, e⟩
    · exact nomatch e
    · injection e with e1 _
      subst e1
      cases v <;> rfl
theorem mixKind_int (prog : Program) (w : World) (i : Int) (t : Tok) : (mixKind prog w).is (.inl i) (.int i t) = true := keyIs_int i t
theorem mixKind_str (prog : Program) (w : World) (x : Str) (t : Tok) : (mixKind prog w).is (.inr x) (.str x t) = true := keyIs_str x t
end L2
namespace L2
open PySem PySem.Spec PyProof.Rows
inductive V where
  | non | bl (b : Bool) | int (i : Int) | str (x : Str) | byt (b : Array UInt8) | flt (b : UInt64) | ref (a : Addr) | ty (n : String)
  deriving DecidableEq
def RelV : V → Value → Prop
  | .non, u => u = Value.none
  | .bl b, u => u = Value.bool b
  | .int i, u => ∃ t, u = Value.int i t
  | .str x, u => ∃ t, u = Value.str x t
  | .byt b, u => ∃ t, u = Value.bytes b t
  | .flt b, u => ∃ t, u = Value.float b t
  | .ref a, u => u = Value.ref a
  | .ty n, u => u = Value.type n
abbrev Vals : List V → List Value → Prop := Paired RelV
theorem Vals.length {xs : List V} {us : List Value} (r : Vals xs us) : xs.length = us.length := Paired.length r
theorem Vals.get : ∀ {xs : List V} {us : List Value} {i : Nat} {x : V}, Vals xs us → xs[i]? = some x → ∃ u, us[i]? = some u ∧ RelV x u
  | _, _, _, _, .nil, e => by simp at e
  | _, _, 0, _, .cons r _, e => by simp at e; subst e; exact ⟨_, rfl, r⟩
  | _, _, i + 1, x, .cons _ t, e => by
    obtain ⟨u, h1, h2⟩ := Vals.get (i := i) (x := x) t (by simpa using e)
    exact ⟨u, by simpa using h1, h2⟩
theorem Vals.set {x : V} {u : Value} (r : RelV x u) : ∀ {xs : List V} {us : List Value} (i : Nat), Vals xs us → Vals (xs.set i x) (us.set i u)
  | _, _, _, .nil => .nil
  | _, _, 0, .cons _ t => .cons r t
  | _, _, i + 1, .cons q t => .cons q (Vals.set r i t)
theorem Vals.append : ∀ {xs ys : List V} {us ws : List Value}, Vals xs us → Vals ys ws → Vals (xs ++ ys) (us ++ ws)
  | _, _, _, _, .nil, s => s
  | _, _, _, _, .cons r t, s => .cons r (Vals.append t s)
theorem Vals.take : ∀ {xs : List V} {us : List Value} (n : Nat), Vals xs us → Vals (xs.take n) (us.take n)
  | _, _, 0, _ => .nil
  | _, _, _ + 1, .nil => .nil
  | _, _, n + 1, .cons r t => .cons r (Vals.take n t)
theorem Vals.drop : ∀ {xs : List V} {us : List Value} (n : Nat), Vals xs us → Vals (xs.drop n) (us.drop n)
  | _, _, 0, r => r
  | _, _, _ + 1, .nil => .nil
  | _, _, n + 1, .cons _ t => Vals.drop n t
theorem Vals.none_of : ∀ {xs : List V} {us : List Value} {i : Nat}, Vals xs us → xs[i]? = none → us[i]? = none := fun {xs us i} r e => by
  have h1 := r.length
  have h2 : xs.length ≤ i := List.getElem?_eq_none_iff.mp e
  exact List.getElem?_eq_none_iff.mpr (by omega)
def RelO : Option V → Option Value → Prop
  | some v, some u => RelV v u
  | none, none => True
  | _, _ => False
def KV {κ : Type} : List (κ × V) → List (κ × Value) → Prop := Paired fun (p : κ × V) (q : κ × Value) => p.1 = q.1 ∧ RelV p.2 q.2
def kV : Key → V
  | .inl i => .int i
  | .inr x => .str x
inductive HO where
  | lst (xs : List V)
  | tup (xs : List V)
  | dK (kvs : List (Key × V)) | dT (kvs : List (List Key × V))
  | set (S : Int → Bool) (n : Nat)
  | ins (C dx : Addr) (fs : List (Str × V))
  | own (x : Addr)
  | xd (fs : List (Str × V))
  | met (f x : Addr)
  | rng (lo hi : Int)
  | frz (o : Obj) (u : HO)
  | tbl (ps : Array Value)
  | ext (φ : Heap → Prop)
abbrev Hp := Addr → Option HO
def upd (H : Hp) (a : Addr) (o : HO) : Hp := fun b => if b = a then some o else H b
theorem upd_same {H : Hp} {a : Addr} {o : HO} : upd H a o a = some o := by unfold upd; rw [if_pos rfl]
theorem upd_ne {H : Hp} {a b : Addr} {o : HO} (h : b ≠ a) : upd H a o b = H b := by unfold upd; rw [if_neg h]
theorem ne_of {H : Hp} {a b : Addr} {o u : HO} (h : H a = some o) (h' : H b = some u) (d : o ≠ u) : a ≠ b := by
  intro e; subst e; rw [h] at h'; exact d (Option.some.inj h')
theorem ne_of_none {H : Hp} {a b : Addr} {o : HO} (h : H a = some o) (h' : H b = none) : a ≠ b := by
  intro e; subst e; rw [h] at h'; cases h'
section
variable (P : Program) (w : World)
def ObjOk (H : Hp) (h : Heap) (a : Addr) : HO → Prop
  | .lst xs => xs.length ≤ sizeLine ∧ ∃ (its : List Value) (n : Nat), Vals xs its ∧ h.get? a = some { cls := .type "list", data := .seq its.toArray n }
  | .tup xs => xs.length ≤ sizeLine ∧ ∃ its : List Value, Vals xs its ∧ IsTup h a its.toArray
  | .dK kvs => kvs.length ≤ sizeLine ∧ (a == sysModules) = false ∧ ∃ vs, KV kvs vs ∧ h.DictOf (mixKind P w) a vs
  | .dT kvs => kvs.length ≤ sizeLine ∧ (a == sysModules) = false ∧ ∃ xs : List (List Key × Addr × Value),
      Paired (fun (p : List Key × V) (q : List Key × Addr × Value) => p.1 = q.1 ∧ H q.2.1 = some (.tup (p.1.map kV)) ∧ RelV p.2 q.2.2) kvs xs ∧
      ∃ o es ep, h.get? a = some o ∧ o.ExactDict ∧ o.data = .dict es ep ∧ es.toList = xs.map (entryOfKey (tupleKind (mixKind P w))) ∧ (xs.map (·.1)).Nodup
  | .set S n => h.SetOf (intKind P w) a S n
  | .ins C dx fs => H dx = some (.own a) ∧ fs.length ≤ 1000 ∧ dx ≠ a ∧ h.get? a = some (PySem.W.instObj C dx) ∧
      ∃ mA, h.Ns1 dx mA ∧ (∀ f, RelO (fs.lookup f) (mA f)) ∧ PySem.Within mA (fs.map (·.1))
  | .own _ => ∃ o, h.get? a = some o
  | .xd fs => ∃ mA, h.Ns1 a mA ∧ ∀ f, RelO (fs.lookup f) (mA f)
  | .rng lo hi => ∃ t u v, h.get? a = some { cls := .type "range", data := .fields #[.int lo t, .int hi u, .int 1 v] }
  | .frz o u => h.get? a = some o ∧ ObjOk H h a u
  | .tbl ps => h.get? a = some { cls := .none, data := .fields ps }
  | .met f x => h.get? a = some (PySem.W.methodObj (.ref f) (.ref x))
  | .ext φ => φ h ∧ (∃ o, h.get? a = some o) ∧ ∀ h1 h2 : Heap, φ h1 → (∀ o, h1.get? a = some o → h2.get? a = some o) → φ h2
def HOk (H : Hp) (h : Heap) : Prop := ∀ a o, H a = some o → ObjOk P w H h a o
end
section
variable {P : Program} {w : World} {H H' : Hp} {h h' : Heap} {a : Addr} {o : HO}
theorem ObjOk.lt (x : ObjOk P w H h a o) : a < h.objs.size := by
  cases o with
  | lst xs => obtain ⟨_, _, _, _, e⟩ := x; exact Heap.lt_size e
  | tup xs => obtain ⟨_, _, _, p⟩ := x; exact p.lt
  | dK kvs => obtain ⟨_, _, _, _, o, _, _, e, _⟩ := x; exact Heap.lt_size e
  | dT kvs => obtain ⟨_, _, _, _, o, _, _, e, _⟩ := x; exact Heap.lt_size e
  | set S n => obtain ⟨o, _, _, _, e, _⟩ := x; exact Heap.lt_size e
  | ins C dx fs => obtain ⟨_, _, _, e, _⟩ := x; exact Heap.lt_size e
  | own y => obtain ⟨_, e⟩ := x; exact Heap.lt_size e
  | xd fs => obtain ⟨_, ⟨_, _, _, e, _⟩, _⟩ := x; exact Heap.lt_size e
  | rng lo hi => obtain ⟨_, _, _, e⟩ := x; exact Heap.lt_size e
  | frz ob u => obtain ⟨e, _⟩ := x; exact Heap.lt_size e
  | tbl ps => exact Heap.lt_size (show h.get? a = some _ from x)
  | met f y => exact Heap.lt_size (show h.get? a = some _ from x)
  | ext φ => obtain ⟨_, ⟨_, e⟩, _⟩ := x; exact Heap.lt_size e
theorem Paired.mapP {α β : Type} {F G : α → β → Prop} : ∀ {l₁ : List α} {l₂ : List β}, Paired F l₁ l₂ → (∀ a b, F a b → G a b) → Paired G l₁ l₂
  | _, _, .nil, _ => .nil
  | _, _, .cons r t, f => .cons (f _ _ r) (Paired.mapP t f)
theorem ObjOk.stay (x : ObjOk P w H h a o) (k : ∀ b u, (b = a ∨ H b = some (.own a)) → h.get? b = some u → h'.get? b = some u)
    (ho : ∀ b, H b = some (.own a) → H' b = some (.own a)) (ht : ∀ b xs, H b = some (.tup xs) → H' b = some (.tup xs)) : ObjOk P w H' h' a o := by
  induction o with
  | lst xs => obtain ⟨z, its, n, r, e⟩ := x; exact ⟨z, its, n, r, k _ _ (.inl rfl) e⟩
  | tup xs => obtain ⟨z, its, r, ob, e, c⟩ := x; exact ⟨z, its, r, ob, k _ _ (.inl rfl) e, c⟩
  | dK kvs => obtain ⟨z, y, vs, r, ob, es, ep, e, c⟩ := x; exact ⟨z, y, vs, r, ob, es, ep, k _ _ (.inl rfl) e, c⟩
  | dT kvs =>
    obtain ⟨z, y, xs, r, ob, es, ep, e, c⟩ := x
    exact ⟨z, y, xs, Paired.mapP r fun p q z => ⟨z.1, ht _ _ z.2.1, z.2.2⟩, ob, es, ep, k _ _ (.inl rfl) e, c⟩
  | set S n => obtain ⟨ob, es, ep, t, e, c⟩ := x; exact ⟨ob, es, ep, t, k _ _ (.inl rfl) e, c⟩
  | ins C dx fs =>
    obtain ⟨d, z, ne, e, mA, ⟨od, es, ep, e2, c⟩, r⟩ := x
    exact ⟨ho _ d, z, ne, k _ _ (.inl rfl) e, mA, ⟨od, es, ep, k _ _ (.inr d) e2, c⟩, r⟩
  | own y => obtain ⟨ob, e⟩ := x; exact ⟨ob, k _ _ (.inl rfl) e⟩
  | xd fs => obtain ⟨mA, ⟨od, es, ep, e, c⟩, r⟩ := x; exact ⟨mA, ⟨od, es, ep, k _ _ (.inl rfl) e, c⟩, r⟩
  | rng lo hi => obtain ⟨t, u, v, e⟩ := x; exact ⟨t, u, v, k _ _ (.inl rfl) e⟩
  | frz ob u ih => obtain ⟨e, q⟩ := x; exact ⟨k _ _ (.inl rfl) e, ih q⟩
  | tbl ps =>
    have e : h.get? a = some { cls := .none, data := .fields ps } := x
    show h'.get? a = some { cls := .none, data := .fields ps }
    exact k a _ (.inl rfl) e
  | met f y =>
    have e : h.get? a = some (PySem.W.methodObj (.ref f) (.ref y)) := x
    show h'.get? a = some (PySem.W.methodObj (.ref f) (.ref y))
    exact k a _ (.inl rfl) e
  | ext φ => obtain ⟨p, ⟨o, e⟩, st⟩ := x; exact ⟨st _ _ p fun o q => k _ _ (.inl rfl) q, ⟨o, k _ _ (.inl rfl) e⟩, st⟩
theorem HOk.lt (x : HOk P w H h) (e : H a = some o) : a < h.objs.size := (x a o e).lt
theorem HOk.fresh (x : HOk P w H h) (e : h.objs.size ≤ a) : H a = none := by
  cases q : H a with
  | none => rfl
  | some u => exact absurd (Nat.lt_of_lt_of_le (x.lt q) e) (Nat.lt_irrefl _)
theorem HOk.kept (x : HOk P w H h) (k : ∀ b u, h.get? b = some u → h'.get? b = some u) : HOk P w H h' := fun a o e =>
  (x a o e).stay (fun b u _ q => k b u q) (fun _ q => q) fun _ _ q => q
theorem HOk.laid (x : HOk P w H h) (k : ∀ b u, h.get? b = some u → h'.get? b = some u) (hp : h.objs.size ≤ a) (new : ObjOk P w (upd H a o) h' a o) : HOk P w (upd H a o) h' := fun b u e => by
  have hn := x.fresh hp
  by_cases hb : b = a
  · subst hb; rw [upd_same] at e; cases e; exact new
  · rw [upd_ne hb] at e
    exact (x b u e).stay (fun c v _ q => k c v q) (fun c q => by rw [upd_ne (ne_of_none q hn)]; exact q) fun c xs q => by rw [upd_ne (ne_of_none q hn)]; exact q
end
def Rd (H : Hp) (a : Addr) (u : HO) : Prop := H a = some u ∨ ∃ o, H a = some (.frz o u)
theorem Rd.of {H : Hp} {a : Addr} {u : HO} (h : H a = some u) : Rd H a u := .inl h
theorem Rd.ok {P : Program} {w : World} {H : Hp} {h : Heap} {a : Addr} {u : HO} (r : Rd H a u) (x : HOk P w H h) : ObjOk P w H h a u := by
  rcases r with r | ⟨o, r⟩
  · exact x a u r
  · obtain ⟨_, q⟩ := x a _ r
    exact q
def Mut : Option HO → Prop
  | some (.lst _) => True
  | some (.dK _) => True
  | some (.dT _) => True
  | some (.set _ _) => True
  | some (.ins _ _ _) => True
  | some (.ext _) => True
  | _ => False
section
variable {P : Program} {w : World} {H : Hp} {h h' : Heap} {x e : Addr} {o' : HO}
theorem HOk.write (ok : HOk P w H h) (mu : Mut (H x)) (he : e = x ∨ H e = some (.own x)) (k : ∀ b u, b ≠ e → h.get? b = some u → h'.get? b = some u) (heo : ∃ u, h'.get? e = some u)
    (new : ObjOk P w (upd H x o') h' x o') : HOk P w (upd H x o') h' := fun b u q => by
  have nown : ∀ c y, H c = some (.own y) → c ≠ x := fun c y r z => by subst z; rw [r] at mu; exact mu
  have ntup : ∀ c xs, H c = some (.tup xs) → c ≠ x := fun c xs r z => by subst z; rw [r] at mu; exact mu
  by_cases hb : b = x
  · subst hb; rw [upd_same] at q; cases q; exact new
  · rw [upd_ne hb] at q
    by_cases hbe : b = e
    · have q' : H b = some (.own x) := by
        rcases he with z | z
        · exact absurd (hbe.trans z) hb
        · rw [hbe]; exact z
      rw [q] at q'; cases q'
      obtain ⟨v, hv⟩ := heo
      exact ⟨v, by rw [hbe]; exact hv⟩
    · refine (ok b u q).stay (fun c v hc r => k c v ?_ r) (fun c r => by rw [upd_ne (nown c b r)]; exact r) fun c xs r => by rw [upd_ne (ntup c xs r)]; exact r
      rcases hc with rfl | hc
      · exact hbe
      · rintro rfl
        rcases he with z | z
        · exact nown c b hc z
        · rw [hc] at z; cases z; exact hb rfl
end
structure Un (fs ex : List Addr) (H H' : Hp) (h h' : Heap) : Prop where
  keep : ∀ b o, h.get? b = some o → H b = none → b ∉ fs → b ∉ ex → h'.get? b = some o
  slot : ∀ b o, h.get? b = some o → H b = none → b ∈ fs → b ∉ ex → ∃ sl, h'.get? b = some { o with slots := sl }
  free : ∀ b o, h.get? b = some o → H b = none → b ∉ ex → H' b = none
  there : ∀ b o, h.get? b = some o → b ∉ ex → ∃ o', h'.get? b = some o'
  tups : ∀ b xs, H b = some (.tup xs) → H' b = some (.tup xs)
  frzs : ∀ b o u, H b = some (.frz o u) → H' b = some (.frz o u)
  tbls : ∀ b ps, H b = some (.tbl ps) → ∃ more, H' b = some (.tbl (ps ++ more))
section
variable {fs fs' ex ex' : List Addr} {H H1 H2 : Hp} {h h1 h2 h' : Heap} {a x e : Addr} {o : HO}
theorem Un.any (u : Un fs ex H H1 h h1) {b : Addr} {ob : Obj} (q : h.get? b = some ob) (n : H b = none) (hx : b ∉ ex) : ∃ sl, h1.get? b = some { ob with slots := sl } := by
  by_cases hb : b ∈ fs
  · exact u.slot b ob q n hb hx
  · exact ⟨ob.slots, u.keep b ob q n hb hx⟩
theorem Un.trans (a : Un fs ex H H1 h h1) (b : Un fs ex H1 H2 h1 h2) : Un fs ex H H2 h h2 where
  keep := fun c ob q n hc hx => b.keep c ob (a.keep c ob q n hc hx) (a.free c ob q n hx) hc hx
  slot := fun c ob q n hc hx => by
    obtain ⟨sl, e1⟩ := a.slot c ob q n hc hx
    obtain ⟨sl', e2⟩ := b.slot c _ e1 (a.free c ob q n hx) hc hx
    exact ⟨sl', e2⟩
  free := fun c ob q n hx => by
    obtain ⟨o', e1⟩ := a.there c ob q hx
    exact b.free c o' e1 (a.free c ob q n hx) hx
  there := fun c ob q hx => by
    obtain ⟨o', e1⟩ := a.there c ob q hx
    exact b.there c o' e1 hx
  tups := fun c xs q => b.tups c xs (a.tups c xs q)
  frzs := fun c ob xs q => b.frzs c ob xs (a.frzs c ob xs q)
  tbls := fun c ps q => by
    obtain ⟨m1, e1⟩ := a.tbls c ps q
    obtain ⟨m2, e2⟩ := b.tbls c _ e1
    exact ⟨m1 ++ m2, by rw [e2, Array.append_assoc]⟩
theorem Un.kept (k : ∀ b u, h.get? b = some u → h'.get? b = some u) : Un fs ex H H h h' :=
  ⟨fun b ob q _ _ _ => k b ob q, fun b ob q _ _ _ => ⟨ob.slots, k b ob q⟩, fun _ _ _ n _ => n, fun b ob q _ => ⟨ob, k b ob q⟩, fun _ _ q => q, fun _ _ _ q => q, fun _ ps q => ⟨#[], by rw [q]; simp⟩⟩
theorem Un.refl : Un fs ex H H h h := Un.kept fun _ _ q => q
theorem Un.laid (k : ∀ b u, h.get? b = some u → h'.get? b = some u) (hp : h.objs.size ≤ a) (hn : H a = none) : Un fs ex H (upd H a o) h h' where
  keep := fun b u q _ _ _ => k b u q
  slot := fun b u q _ _ _ => ⟨u.slots, k b u q⟩
  free := fun b u q n _ => by rw [upd_ne (Nat.ne_of_lt (Nat.lt_of_lt_of_le (Heap.lt_size q) hp))]; exact n
  there := fun b u q _ => ⟨u, k b u q⟩
  tups := fun b xs q => by rw [upd_ne (ne_of_none q hn)]; exact q
  frzs := fun b u xs q => by rw [upd_ne (ne_of_none q hn)]; exact q
  tbls := fun b ps q => ⟨#[], by rw [upd_ne (ne_of_none q hn), q]; simp⟩
theorem Un.write (mu : Mut (H x)) (he : e = x ∨ H e = some (.own x)) (k : ∀ b u, b ≠ e → h.get? b = some u → h'.get? b = some u) (heo : ∃ u, h'.get? e = some u) : Un fs ex H (upd H x o) h h' := by
  have hx : ∀ b, H b = none → b ≠ x := fun b n z => by subst z; rw [n] at mu; exact mu
  have hb : ∀ b, H b = none → b ≠ e := fun b n z => by
    subst z
    rcases he with r | r
    · exact hx b n r
    · rw [n] at r; cases r
  have hm : ∀ b u, H b = some u → ¬ Mut (some u) → b ≠ x := fun b u q nm z => by subst z; rw [q] at mu; exact nm mu
  refine ⟨fun b u q n _ _ => k b u (hb b n) q, fun b u q n _ _ => ⟨u.slots, k b u (hb b n) q⟩, fun b u q n _ => by rw [upd_ne (hx b n)]; exact n, fun b u q _ => ?_,
    fun b xs q => by rw [upd_ne (hm b _ q fun z => z)]; exact q, fun b u xs q => by rw [upd_ne (hm b _ q fun z => z)]; exact q, fun b ps q => ⟨#[], by rw [upd_ne (hm b _ q fun z => z), q]; simp⟩⟩
  by_cases hbe : b = e
  · subst hbe; exact heo
  · exact ⟨u, k b u hbe q⟩
theorem Un.mono (u : Un fs ex H H1 h h1) (hs : ∀ b ∈ fs, b ∈ fs') (hx : ∀ b ∈ ex, b ∈ ex') : Un fs' ex' H H1 h h1 :=
  ⟨fun b ob q n hb he => u.keep b ob q n (fun z => hb (hs b z)) fun z => he (hx b z), fun _ _ q n _ he => u.any q n fun z => he (hx _ z), fun b ob q n he => u.free b ob q n fun z => he (hx b z), fun b ob q he => u.there b ob q fun z => he (hx b z), u.tups, u.frzs, u.tbls⟩
end
def trk (h : Heap) (H : Hp) : List Addr := (List.range h.objs.size).filter fun a => (H a).isSome
def hidT (h : Heap) (H : Hp) : Heap := PySem.W.hideAll h (trk h H)
theorem hidT_size (h : Heap) (H : Hp) : (hidT h H).objs.size = h.objs.size := PySem.W.hideAll_size _ _
theorem hidT_get {h : Heap} {H : Hp} {b : Addr} {o : Obj} (e : h.get? b = some o) (n : H b = none) : (hidT h H).get? b = some o :=
  PySem.W.hideAll_get _ e fun hm => by
    have q : (H b).isSome = true := (List.mem_filter.mp hm).2
    rw [n] at q; simp at q
theorem of_hidT {h : Heap} {H : Hp} {b : Addr} {o : Obj} (e : (hidT h H).get? b = some o) : h.get? b = some o ∧ H b = none := by
  have e' : h.get? b = some o := PySem.W.of_hideAll (trk h H) e
  refine ⟨e', ?_⟩
  cases q : H b with
  | none => rfl
  | some x =>
    have hm : b ∈ trk h H := List.mem_filter.mpr ⟨List.mem_range.mpr (Heap.lt_size e'), by simp [q]⟩
    have z : (hidT h H).get? b = none := PySem.W.hideAll_none (trk h H) hm
    rw [z] at e; cases e
def allNews (g h : Heap) (L : Addr) : List (Addr × Obj) := (List.range h.objs.size).filterMap fun a => if a = L ∨ (g.get? a).isSome = true then none else (h.get? a).map fun o => (a, o)
def rest (g h : Heap) (L d : Addr) : List (Addr × Obj) := (allNews g h L).filter fun p => decide (p.1 ≠ d)
end L2
namespace L2
open PySem PySem.Spec PyProof.Rows
structure Mod (K : PySem.W.Frag) (mg : Str → Option Value) (base : Heap) : Prop where
  kin : K.In base
  glob : base.Ns mainGlobals mg
  blt : ∃ mb, base.Ns builtinsNs mb ∧ ∀ x : Str, x ≠ "__name__" → mb x = bootBuiltins x
  nolimit : base.NoLimit
structure Cx where
  prog : Program
  w : World
  K : PySem.W.Frag
  mg : Str → Option Value
  base : Heap
  A : Around
  N : List Str
  s_0 : Shared
  H_0 : Hp
  env : Env
  outer : List Env
  stack : List Env
  ex : List Addr
  fn : Str → Bool
  calm : Bool
  pn : List (Addr × Obj)
  xe : Value → Shared → Prop
def frs (l : List Env) : List Addr := l.filterMap (·.frame)
abbrev Cx.fs (X : Cx) : List Addr := frs X.outer
def Vis (sc : Scope) (x : Str) : Prop := sc.names.lookup x = some .local ∨ sc.names.lookup x = some .cell ∨ sc.names.lookup x = some .free
def Loc (sc : Scope) (x : Str) : Prop := sc.names.lookup x = some .local ∨ sc.names.lookup x = some .cell
def Look (env : Env) (h : Heap) (m : Str → Option Value) (x : Str) (u : Value) : Prop :=
  (env.kindOf x = some .local ∧ m x = some u) ∨ ((env.kindOf x = some .cell ∨ env.kindOf x = some .free) ∧ ∃ c, env.cells.lookup x = some c ∧ h.IsCell c (some u))
structure Cx.Ok (X : Cx) : Prop where
  mod : Mod X.K X.mg X.base
  kind : X.env.scope.kind = .function
  glob : X.env.globals = mainGlobals
  blt : X.env.builtins = builtinsNs
  above : X.s_0.heap.objs.size ≤ X.env.locals
  inj : ∀ x y c, X.env.cells.lookup x = some c → X.env.cells.lookup y = some c → x = y
  has : ∀ x, (X.env.kindOf x = some .cell ∨ X.env.kindOf x = some .free) → ∃ c, X.env.cells.lookup x = some c
  cab : ∀ x c, X.fn x = true → X.env.cells.lookup x = some c → X.s_0.heap.objs.size ≤ c
  hd : X.calm = true → X.A.handled = none
  frames : X.A.frames = some X.stack
  stk : X.stack = X.outer ∨ (X.stack = X.env :: X.outer ∧ X.env.frame = some X.env.locals)
  exf : ∀ b ∈ X.ex, b ≠ X.env.locals ∧ ∀ x c, X.env.cells.lookup x = some c → c ≠ b
  bs : ∀ b o, X.base.get? b = some o → X.s_0.heap.get? b = some o ∧ X.H_0 b = none
  bsz : X.base.objs.size ≤ X.s_0.heap.objs.size
  noex : ∀ b o, X.base.get? b = some o → b ∉ X.ex
  exfs : ∀ b ∈ X.ex, b ∉ X.fs
  funs : X.s_0.heap.FunFrames X.base X.outer
  frf : ∀ b ∈ X.fs, X.H_0 b = none
structure Inv (X : Cx) (pins : List (Addr × Obj)) (σ : List (Option V)) (H : Hp) (s : Shared) : Prop where
  ok : X.Ok
  os : s.os = X.s_0.os
  bare : AllBare s.gens
  base : Un X.fs X.ex X.H_0 H X.s_0.heap s.heap
  loc : ∃ m, s.heap.Ns X.env.locals m ∧ ∀ (i : Nat) (x : Str) (v : V), X.N[i]? = some x → σ[i]? = some (some v) → Vis X.env.scope x → ∃ u, RelV v u ∧ Look X.env s.heap m x u
  cell : ∀ x c, X.env.cells.lookup x = some c → ∃ v, s.heap.IsCell c v
  free : H X.env.locals = none
  freeC : ∀ x c, X.env.cells.lookup x = some c → H c = none
  pin : ∀ p ∈ X.pn ++ pins, s.heap.get? p.1 = some p.2 ∧ H p.1 = none ∧ p.1 ≠ X.env.locals ∧ p.1 ∉ X.fs ∧ ∀ v, p.2.data ≠ .cell v
  hok : HOk X.prog X.w H s.heap
  len : σ.length = X.N.length
section
variable {X : Cx} {pins : List (Addr × Obj)} {σ : List (Option V)} {H H' : Hp} {s : Shared} {h' : Heap}
theorem Cx.Ok.nofr (ok : X.Ok) {b : Addr} {o : Obj} (e : X.base.get? b = some o) : b ∉ X.fs := fun hb => by
  have := (ok.funs.mem hb).1
  rw [e] at this; cases this
theorem Inv.bs (I : Inv X pins σ H s) : ∀ b o, X.base.get? b = some o → s.heap.get? b = some o ∧ H b = none := fun b o e =>
  ⟨I.base.keep b o (I.ok.bs b o e).1 (I.ok.bs b o e).2 (I.ok.nofr e) (I.ok.noex b o e), I.base.free b o (I.ok.bs b o e).1 (I.ok.bs b o e).2 (I.ok.noex b o e)⟩
theorem Inv.bk (I : Inv X pins σ H s) : ∀ b o, X.base.get? b = some o → s.heap.get? b = some o := fun b o e => (I.bs b o e).1
theorem Inv.mod (I : Inv X pins σ H s) : Mod X.K X.mg X.base := I.ok.mod
theorem Inv.kIn (I : Inv X pins σ H s) : X.K.In s.heap := I.ok.mod.kin.keeps I.bk
theorem Inv.nolimit (I : Inv X pins σ H s) : s.heap.NoLimit := I.ok.mod.nolimit.keeps I.bk
theorem Inv.fr (I : Inv X pins σ H s) : ∃ m, Fr X.base X.env.locals s.heap m :=
  let ⟨m, hn, _⟩ := I.loc
  ⟨m, hn, I.bk, Nat.le_trans I.ok.bsz I.ok.above⟩
theorem Inv.lt (I : Inv X pins σ H s) : X.env.locals < s.heap.objs.size := let ⟨_, hn, _⟩ := I.loc; hn.lt
theorem Inv.sz (I : Inv X pins σ H s) : X.s_0.heap.objs.size ≤ s.heap.objs.size := Nat.le_trans I.ok.above (Nat.le_of_lt I.lt)
theorem Inv.nofs (I : Inv X pins σ H s) {a : Addr} (h : s.heap.objs.size ≤ a) : a ∉ X.fs := fun hb => by
  obtain ⟨_, o, ho, _⟩ := I.ok.funs.mem hb
  exact absurd (Nat.lt_of_lt_of_le (Heap.lt_size ho) (Nat.le_trans I.sz h)) (Nat.lt_irrefl _)
theorem Inv.cne (I : Inv X pins σ H s) : ∀ x c, X.env.cells.lookup x = some c → c ≠ X.env.locals := fun x c e z => by
  obtain ⟨v, o, ho, hd⟩ := I.cell x c e
  obtain ⟨m, ⟨o', es, ep, ho', hd', _⟩, _⟩ := I.loc
  rw [z, ho'] at ho; cases ho; rw [hd'] at hd; cases hd
theorem Inv.funs (I : Inv X pins σ H s) : s.heap.FunFrames X.base X.outer := by
  have all : ∀ (l : List Env), (∀ b ∈ frs l, b ∈ X.fs) → X.s_0.heap.FunFrames X.base l → s.heap.FunFrames X.base l := by
    intro l
    induction l with
    | nil => intro _ _; trivial
    | cons env r ih =>
      intro hs hl
      obtain ⟨hk, ⟨L, o, hf, hn, ho, hd⟩, hr⟩ := hl
      have hL : L ∈ X.fs := hs L (by unfold frs; rw [List.filterMap_cons, hf]; exact List.mem_cons_self)
      obtain ⟨sl, e⟩ := I.base.slot L o ho (I.ok.frf L hL) hL fun z => I.ok.exfs L z hL
      exact ⟨hk, ⟨L, _, hf, hn, e, hd⟩, ih (fun b hb => hs b (by unfold frs; rw [List.filterMap_cons, hf]; exact List.mem_cons_of_mem _ hb)) hr⟩
  exact all X.outer (fun _ hb => hb) I.ok.funs
theorem Inv.stack (I : Inv X pins σ H s) : s.heap.FunFrames X.base X.stack := by
  rcases I.ok.stk with e | ⟨e, hf⟩
  · rw [e]; exact I.funs
  · rw [e]
    obtain ⟨m, hn, _⟩ := I.loc
    refine .cons (by rw [I.ok.kind]; decide) hf hn ?_ I.funs
    exact Heap.get?_none_of_le (Nat.le_trans I.ok.bsz I.ok.above)
theorem Inv.stkSub (I : Inv X pins σ H s) : ∀ b ∈ frs X.stack, b ∈ X.env.locals :: X.fs := fun b hb => by
  rcases I.ok.stk with e | ⟨e, hf⟩
  · rw [e] at hb; exact List.mem_cons_of_mem _ hb
  · rw [e] at hb
    unfold frs at hb
    rw [List.filterMap_cons, hf] at hb
    exact hb
theorem Inv.stkFree (I : Inv X pins σ H s) : ∀ b ∈ frs X.stack, H b = none := fun b hb => by
  rcases List.mem_cons.mp (I.stkSub b hb) with e | hb
  · rw [e]; exact I.free
  · obtain ⟨_, o, ho, _⟩ := I.ok.funs.mem hb
    exact I.base.free b o ho (I.ok.frf b hb) fun z => I.ok.exfs b z hb
theorem Inv.step {g' : Array GenState} {t' : Nat} {d' : Drawn} {ch : List Addr} (I : Inv X pins σ H s)
    (hch : ∀ b ∈ ch, (b ∈ X.ex ∨ X.s_0.heap.objs.size ≤ b) ∧ b ≠ X.env.locals ∧ (∀ x c, X.env.cells.lookup x = some c → c ≠ b) ∧ ∀ p ∈ X.pn ++ pins, p.1 ≠ b)
    (keep : ∀ b o, b ≠ X.env.locals → b ∉ X.fs → b ∉ ch → s.heap.get? b = some o → H b = none → h'.get? b = some o)
    (slot : ∀ b o, b ≠ X.env.locals → b ∈ X.fs → b ∉ ch → s.heap.get? b = some o → H b = none → ∃ sl, h'.get? b = some { o with slots := sl }) (free : ∀ b o, b ∉ ch → s.heap.get? b = some o → H b = none → H' b = none)
    (there : ∀ b o, b ∉ ch → s.heap.get? b = some o → ∃ o', h'.get? b = some o')
    (tups : ∀ b xs, H b = some (.tup xs) → H' b = some (.tup xs)) (frzs : ∀ b o u, H b = some (.frz o u) → H' b = some (.frz o u)) (tbls : ∀ b ps, H b = some (.tbl ps) → ∃ more, H' b = some (.tbl (ps ++ more)))
    (ns : ∀ m, s.heap.Ns X.env.locals m → h'.Ns X.env.locals m) (hok : HOk X.prog X.w H' h') (hg : AllBare g') :
    Inv X pins σ H' { s with heap := h', gens := g', drawn := d', toks := t' } := by
  have neL : ∀ b o, X.s_0.heap.get? b = some o → b ≠ X.env.locals := fun b o e => Nat.ne_of_lt (Nat.lt_of_lt_of_le (Heap.lt_size e) I.ok.above)
  have neC : ∀ b o, X.s_0.heap.get? b = some o → b ∉ X.ex → b ∉ ch := fun b o e hx hb => by
    rcases (hch b hb).1 with z | z
    · exact hx z
    · exact absurd (Nat.lt_of_lt_of_le (Heap.lt_size e) z) (Nat.lt_irrefl _)
  have cellK : ∀ x c, X.env.cells.lookup x = some c → ∀ v, s.heap.IsCell c v → h'.IsCell c v := fun x c e v ⟨o, ho, hd⟩ => by
    have nch : c ∉ ch := fun z => (hch c z).2.2.1 x c e rfl
    by_cases hc : c ∈ X.fs
    · obtain ⟨sl, q⟩ := slot c o (I.cne x c e) hc nch ho (I.freeC x c e)
      exact ⟨_, q, hd⟩
    · exact ⟨o, keep c o (I.cne x c e) hc nch ho (I.freeC x c e), hd⟩
  refine ⟨I.ok, I.os, hg, ⟨fun b o e n hb hx => ?_, fun b o e n hb hx => ?_, fun b o e n hx => ?_, fun b o e hx => ?_, fun b xs e => tups b xs (I.base.tups b xs e), fun b o xs e => frzs b o xs (I.base.frzs b o xs e), fun b ps e => ?_⟩, ?_, fun x c e => ?_, ?_, fun x c e => ?_, fun p hp => ?_, hok, I.len⟩
  · exact keep b o (neL b o e) hb (neC b o e hx) (I.base.keep b o e n hb hx) (I.base.free b o e n hx)
  · obtain ⟨sl, e1⟩ := I.base.slot b o e n hb hx
    obtain ⟨sl', e2⟩ := slot b _ (neL b o e) hb (neC b o e hx) e1 (I.base.free b o e n hx)
    exact ⟨sl', e2⟩
  · obtain ⟨o', e1⟩ := I.base.there b o e hx
    exact free b o' (neC b o e hx) e1 (I.base.free b o e n hx)
  · obtain ⟨o', e1⟩ := I.base.there b o e hx
    exact there b o' (neC b o e hx) e1
  · obtain ⟨m1, e1⟩ := I.base.tbls b ps e
    obtain ⟨m2, e2⟩ := tbls b _ e1
    exact ⟨m1 ++ m2, by rw [e2, Array.append_assoc]⟩
  · obtain ⟨m, hn, hl⟩ := I.loc
    refine ⟨m, ns m hn, fun i x v e1 e2 e3 => ?_⟩
    obtain ⟨u, r, l⟩ := hl i x v e1 e2 e3
    refine ⟨u, r, ?_⟩
    rcases l with l | ⟨k, c, e, z⟩
    · exact .inl l
    · exact .inr ⟨k, c, e, cellK x c e _ z⟩
  · obtain ⟨v, z⟩ := I.cell x c e
    exact ⟨v, cellK x c e v z⟩
  · obtain ⟨m, ⟨o, _, _, ho, _⟩, _⟩ := I.loc
    exact free _ o (fun z => (hch _ z).2.1 rfl) ho I.free
  · obtain ⟨v, o, ho, hd⟩ := I.cell x c e
    exact free c o (fun z => (hch c z).2.2.1 x c e rfl) ho (I.freeC x c e)
  · obtain ⟨e, n, ne, nf, d⟩ := I.pin p hp
    have nch : p.1 ∉ ch := fun z => (hch p.1 z).2.2.2 p hp rfl
    exact ⟨keep p.1 p.2 ne nf nch e n, free p.1 p.2 nch e n, ne, nf, d⟩
theorem Inv.un {t' : Nat} (I : Inv X pins σ H s) (u : Un X.fs [] H H' s.heap h') (hok : HOk X.prog X.w H' h') : Inv X pins σ H' { s with heap := h', toks := t' } := by
  obtain ⟨m, ⟨o, es, ep, ho, r⟩, _⟩ := id I.loc
  obtain ⟨sl, hL⟩ := u.any ho I.free (by simp)
  exact I.step (g' := s.gens) (d' := s.drawn) (ch := []) (fun _ z => nomatch z) (fun b o _ hb _ e n => u.keep b o e n hb (by simp)) (fun b o _ hb _ e n => u.slot b o e n hb (by simp)) (fun b o _ e n => u.free b o e n (by simp)) (fun b o _ e => u.there b o e (by simp)) u.tups u.frzs u.tbls (fun m' hm => by
    obtain ⟨o', es', ep', ho', r'⟩ := hm
    rw [ho] at ho'; cases ho'
    exact ⟨_, es', ep', hL, r'⟩) hok I.bare
theorem Inv.call {g' : Array GenState} {t' : Nat} {d' : Drawn} {ch : List Addr} (I : Inv X pins σ H s) (u : Un (frs X.stack) ch H H' s.heap h') (hok : HOk X.prog X.w H' h') (hg : AllBare g')
    (hch : ∀ b ∈ ch, (b ∈ X.ex ∨ X.s_0.heap.objs.size ≤ b) ∧ b ≠ X.env.locals ∧ (∀ x c, X.env.cells.lookup x = some c → c ≠ b) ∧ ∀ p ∈ X.pn ++ pins, p.1 ≠ b) :
    Inv X pins σ H' { s with heap := h', gens := g', drawn := d', toks := t' } := by
  obtain ⟨m, ⟨o, es, ep, ho, r⟩, _⟩ := id I.loc
  obtain ⟨sl, hL⟩ := u.any ho I.free fun z => (hch _ z).2.1 rfl
  exact I.step (ch := ch) hch (fun b o hL hb hc e n => u.keep b o e n (fun z => (List.mem_cons.mp (I.stkSub b z)).elim hL hb) hc) (fun b o _ _ hc e n => u.any e n hc) (fun b o hc e n => u.free b o e n hc) (fun b o hc e => u.there b o e hc) u.tups u.frzs u.tbls (fun m' hm => by
    obtain ⟨o', es', ep', ho', r'⟩ := hm
    rw [ho] at ho'; cases ho'
    exact ⟨_, es', ep', hL, r'⟩) hok hg
theorem Inv.turned {t' : Nat} {it : Addr} (I : Inv X pins σ H s) (k : ∀ b o, b ≠ it → s.heap.get? b = some o → h'.get? b = some o) (hn : H it = none) (hL : it ≠ X.env.locals)
    (h1 : it ∈ X.ex ∨ X.s_0.heap.objs.size ≤ it) (h2 : ∀ x c, X.env.cells.lookup x = some c → c ≠ it) (h3 : ∀ p ∈ X.pn ++ pins, p.1 ≠ it) : Inv X pins σ H { s with heap := h', toks := t' } := by
  have nit : ∀ b u, H b = some u → b ≠ it := fun b u e z => by rw [z, hn] at e; cases e
  refine I.step (g' := s.gens) (d' := s.drawn) (ch := [it]) (fun b hb => ?_) (fun b o _ _ hc e _ => k b o (fun z => hc (by simp [z])) e) (fun b o _ _ hc e _ => ⟨o.slots, k b o (fun z => hc (by simp [z])) e⟩) (fun _ _ _ _ n => n)
    (fun b o hc e => ⟨o, k b o (fun z => hc (by simp [z])) e⟩) (fun _ _ e => e) (fun _ _ _ e => e) (fun b ps e => ⟨#[], by rw [e]; simp⟩) (fun m hm => ?_) (fun b u e => ?_) I.bare
  · have e : b = it := by simpa using hb
    subst e
    exact ⟨h1, hL, h2, h3⟩
  · obtain ⟨o, es, ep, ho, r⟩ := hm
    exact ⟨o, es, ep, k _ o (Ne.symm hL) ho, r⟩
  · refine (I.hok b u e).stay (fun c v hc q => k c v ?_ q) (fun _ q => q) fun _ _ q => q
    rcases hc with z | z
    · rw [z]; exact nit b u e
    · exact nit c _ z
theorem Inv.tok (I : Inv X pins σ H s) (t : Nat) : Inv X pins σ H { s with toks := t } := I.un (h' := s.heap) (t' := t) Un.refl I.hok
theorem Inv.kept {t' : Nat} (I : Inv X pins σ H s) (k : ∀ b u, s.heap.get? b = some u → h'.get? b = some u) : Inv X pins σ H { s with heap := h', toks := t' } := I.un (Un.kept k) (I.hok.kept k)
theorem Inv.laid {a : Addr} {o : HO} {t' : Nat} (I : Inv X pins σ H s) (k : ∀ b u, s.heap.get? b = some u → h'.get? b = some u) (hp : s.heap.objs.size ≤ a) (new : ObjOk X.prog X.w (upd H a o) h' a o) :
    Inv X pins σ (upd H a o) { s with heap := h', toks := t' } := I.un (Un.laid k hp (I.hok.fresh hp)) (I.hok.laid k hp new)
theorem Inv.write {x e : Addr} {o : HO} {t' : Nat} (I : Inv X pins σ H s) (mu : Mut (H x)) (he : e = x ∨ H e = some (.own x)) (k : ∀ b u, b ≠ e → s.heap.get? b = some u → h'.get? b = some u) (heo : ∃ u, h'.get? e = some u)
    (new : ObjOk X.prog X.w (upd H x o) h' x o) : Inv X pins σ (upd H x o) { s with heap := h', toks := t' } := I.un (Un.write mu he k heo) (I.hok.write mu he k heo new)
theorem Inv.weak {σ' : List (Option V)} (I : Inv X pins σ H s) (hl : σ'.length = σ.length) (w : ∀ (i : Nat) v, σ'[i]? = some (some v) → σ[i]? = some (some v)) : Inv X pins σ' H s :=
  ⟨I.ok, I.os, I.bare, I.base, let ⟨m, hn, hl'⟩ := I.loc; ⟨m, hn, fun i x v e1 e2 e3 => hl' i x v e1 (w i v e2) e3⟩, I.cell, I.free, I.freeC, I.pin, I.hok, hl.trans I.len⟩
theorem Inv.pins_of {pins' : List (Addr × Obj)} (I : Inv X pins σ H s) (h : ∀ p ∈ pins', s.heap.get? p.1 = some p.2 ∧ H p.1 = none ∧ p.1 ≠ X.env.locals ∧ p.1 ∉ X.fs ∧ ∀ v, p.2.data ≠ .cell v) : Inv X pins' σ H s :=
  ⟨I.ok, I.os, I.bare, I.base, I.loc, I.cell, I.free, I.freeC, fun p hp => (List.mem_append.mp hp).elim (fun z => I.pin p (List.mem_append_left _ z)) (h p), I.hok, I.len⟩
theorem nodup_ix {N : List Str} (hN : N.Nodup) {i j : Nat} {x : Str} (a : N[i]? = some x) (b : N[j]? = some x) : i = j := by
  obtain ⟨h1, e1⟩ := List.getElem?_eq_some_iff.mp a
  obtain ⟨h2, e2⟩ := List.getElem?_eq_some_iff.mp b
  exact (List.getElem_inj hN).mp (e1.trans e2.symm)
theorem store_ok2 {M : Model} {A : Around} {E : Value → Shared → Prop} {i : Nat} {x : Str} {v : V} {u : Value} {Q : Unit → Shared → Prop} (I : Inv X pins σ H s) (hN : X.N.Nodup) (hi : X.N[i]? = some x) (hx : Loc X.env.scope x) (r : RelV v u)
    (h : ∀ s', Inv X pins (σ.set i (some v)) H s' → (∃ a, Heap.SameBut a s.heap s'.heap ∧ (a = X.env.locals ∨ X.env.cells.lookup x = some a)) → Q () s') (hf : X.fn x = true ∨ X.env.scope.names.lookup x = some .local := by first | exact .inl rfl | exact .inr rfl | assumption) : wpAny M A (storeName X.env x u) Q E s := by
  obtain ⟨m, hn, hl⟩ := id I.loc
  have hcls : (X.env.scope.kind == .class || (X.env.scope.kind == .module && X.env.locals != X.env.globals)) = false := by rw [I.ok.kind]; rfl
  have hiσ : i < σ.length := by rw [I.len]; exact (List.getElem?_eq_some_iff.mp hi).1
  have cne := I.cne
  have tracked : ∀ {a : Addr} {h' : Heap}, (∃ o, s.heap.get? a = some o ∧ H a = none) → Heap.SameBut a s.heap h' → HOk X.prog X.w H h' := fun {a h'} ha hs b ob e => by
    obtain ⟨_, _, hfree⟩ := ha
    refine (I.hok b ob e).stay (fun c w' hc q => (hs.2 c ?_).trans q) (fun _ q => q) fun _ _ q => q
    rintro rfl
    rcases hc with rfl | hc
    · rw [hfree] at e; cases e
    · rw [hfree] at hc; cases hc
  rcases hx with hk | hk
  · refine wpAny_storeName_local hk hn (fun h' hn' hs => ?_) hcls
    obtain ⟨oL, _, _, hoL, _⟩ := id hn
    refine h _ ⟨I.ok, I.os, I.bare, ⟨fun b o e n hb hx => ?_, fun b o e n hb hx => ?_, I.base.free, fun b o e hx => ?_, I.base.tups, I.base.frzs, I.base.tbls⟩, ⟨_, hn', fun j y v' e1 e2 e3 => ?_⟩, fun y c e => ?_, I.free, I.freeC, fun p hp => ?_, tracked ⟨oL, hoL, I.free⟩ hs, by simpa using I.len⟩ ⟨_, hs, .inl rfl⟩
    · exact (hs.2 b (Nat.ne_of_lt (Nat.lt_of_lt_of_le (Heap.lt_size e) I.ok.above))).trans (I.base.keep b o e n hb hx)
    · obtain ⟨sl, e1⟩ := I.base.slot b o e n hb hx
      exact ⟨sl, (hs.2 b (Nat.ne_of_lt (Nat.lt_of_lt_of_le (Heap.lt_size e) I.ok.above))).trans e1⟩
    · obtain ⟨o', e1⟩ := I.base.there b o e hx
      exact ⟨o', (hs.2 b (Nat.ne_of_lt (Nat.lt_of_lt_of_le (Heap.lt_size e) I.ok.above))).trans e1⟩
    · by_cases hj : j = i
      · subst hj
        rw [hi] at e1; cases e1
        rw [List.getElem?_set_self hiσ] at e2
        cases e2
        exact ⟨u, r, .inl ⟨hk, by simp⟩⟩
      · rw [List.getElem?_set_ne (Ne.symm hj)] at e2
        obtain ⟨u', r', q⟩ := hl j y v' e1 e2 e3
        refine ⟨u', r', ?_⟩
        rcases q with ⟨k, e⟩ | ⟨k, c, e, z⟩
        · refine .inl ⟨k, ?_⟩
          have : y ≠ x := fun e => hj (nodup_ix hN e1 (e ▸ hi))
          simp [this, e]
        · exact .inr ⟨k, c, e, z.sameBut hs (cne y c e)⟩
    · obtain ⟨w', z⟩ := I.cell y c e
      exact ⟨w', z.sameBut hs (cne y c e)⟩
    · obtain ⟨e, n, ne, nf, d⟩ := I.pin p hp
      exact ⟨(hs.2 p.1 ne).trans e, n, ne, nf, d⟩
  · have hfn : X.fn x = true := by
      rcases hf with z | z
      · exact z
      · rw [z] at hk; cases hk
    obtain ⟨c, hc⟩ := I.ok.has x (.inl hk)
    obtain ⟨w', z⟩ := I.cell x c hc
    refine wpAny_storeName_cell I.ok.kind hk hc z (fun h' hc' hs => ?_)
    obtain ⟨oc, hoc, hocd⟩ := id z
    refine h { s with heap := h' } ⟨I.ok, I.os, I.bare, ⟨fun b o e n hb hx => ?_, fun b o e n hb hx => ?_, I.base.free, fun b o e hx => ?_, I.base.tups, I.base.frzs, I.base.tbls⟩, ⟨m, hn.sameBut hs (Ne.symm (cne x c hc)), fun j y v' e1 e2 e3 => ?_⟩, fun y c' e => ?_, I.free, I.freeC, fun p hp => ?_, tracked ⟨oc, hoc, I.freeC x c hc⟩ hs, by simpa using I.len⟩ ⟨c, hs, .inr hc⟩
    · exact (hs.2 b (Nat.ne_of_lt (Nat.lt_of_lt_of_le (Heap.lt_size e) (I.ok.cab x c hfn hc)))).trans (I.base.keep b o e n hb hx)
    · obtain ⟨sl, e1⟩ := I.base.slot b o e n hb hx
      exact ⟨sl, (hs.2 b (Nat.ne_of_lt (Nat.lt_of_lt_of_le (Heap.lt_size e) (I.ok.cab x c hfn hc)))).trans e1⟩
    · obtain ⟨o', e1⟩ := I.base.there b o e hx
      exact ⟨o', (hs.2 b (Nat.ne_of_lt (Nat.lt_of_lt_of_le (Heap.lt_size e) (I.ok.cab x c hfn hc)))).trans e1⟩
    · by_cases hj : j = i
      · subst hj
        rw [hi] at e1; cases e1
        rw [List.getElem?_set_self hiσ] at e2
        cases e2
        exact ⟨u, r, .inr ⟨.inl hk, c, hc, hc'⟩⟩
      · rw [List.getElem?_set_ne (Ne.symm hj)] at e2
        obtain ⟨u', r', q⟩ := hl j y v' e1 e2 e3
        refine ⟨u', r', ?_⟩
        rcases q with q | ⟨k, c', e, z'⟩
        · exact .inl q
        · refine .inr ⟨k, c', e, z'.sameBut hs ?_⟩
          rintro rfl
          exact hj (nodup_ix hN e1 (I.ok.inj _ _ _ e hc ▸ hi))
    · by_cases hcc : c' = c
      · subst hcc; exact ⟨_, hc'⟩
      · obtain ⟨w2, z2⟩ := I.cell y c' e
        exact ⟨w2, z2.sameBut hs hcc⟩
    · obtain ⟨e, n, ne, nf, d⟩ := I.pin p hp
      refine ⟨(hs.2 p.1 ?_).trans e, n, ne, nf, d⟩
      intro q
      rw [q, hoc] at e
      have q' : oc = p.2 := Option.some.inj e
      exact d w' (by rw [← q']; exact hocd)
theorem store_ok {M : Model} {A : Around} {E : Value → Shared → Prop} {i : Nat} {x : Str} {v : V} {u : Value} {Q : Unit → Shared → Prop} (I : Inv X pins σ H s) (hN : X.N.Nodup) (hi : X.N[i]? = some x) (hx : Loc X.env.scope x) (r : RelV v u)
    (h : ∀ s', Inv X pins (σ.set i (some v)) H s' → Q () s') (hf : X.fn x = true ∨ X.env.scope.names.lookup x = some .local := by first | exact .inl rfl | exact .inr rfl | assumption) : wpAny M A (storeName X.env x u) Q E s :=
  store_ok2 I hN hi hx r (fun s' I' _ => h s' I') hf
theorem Inv.call' {s' : Shared} {ch : List Addr} (I : Inv X pins σ H s) (ho : s'.os = s.os) (u : Un (frs X.stack) ch H H' s.heap s'.heap) (hok : HOk X.prog X.w H' s'.heap) (hg : AllBare s'.gens)
    (hch : ∀ b ∈ ch, (b ∈ X.ex ∨ X.s_0.heap.objs.size ≤ b) ∧ b ≠ X.env.locals ∧ (∀ x c, X.env.cells.lookup x = some c → c ≠ b) ∧ ∀ p ∈ X.pn ++ pins, p.1 ≠ b) : Inv X pins σ H' s' := by
  obtain ⟨h', g', d', t', o'⟩ := s'
  have e : o' = s.os := ho
  subst e
  exact I.call (g' := g') (t' := t') (d' := d') u hok hg hch
end
abbrev XK := Value → Option Addr → Hp → Prop
abbrev St := List (Option V)
abbrev VK := V → Hp → Prop
abbrev TE := St → Hp → VK → Prop
abbrev TT := St → Hp → (Bool → Hp → Prop) → Prop
abbrev TA := St → Hp → (List V → Hp → Prop) → Prop
structure Ends where
  nx : St → Hp → Prop
  rt : VK
  bk : St → Hp → Prop := fun _ _ => False
  ct : St → Hp → Prop := fun _ _ => False
abbrev TS := Ends → St → Hp → Prop
def EP (X : Cx) (pins : List (Addr × Obj)) (σ : St) (Q : VK) (u : Value) (s' : Shared) : Prop := ∃ v H', Inv X pins σ H' s' ∧ RelV v u ∧ Q v H'
def TP (X : Cx) (pins : List (Addr × Obj)) (σ : St) (Q : Bool → Hp → Prop) (b : Bool) (s' : Shared) : Prop := ∃ H', Inv X pins σ H' s' ∧ Q b H'
def AP (X : Cx) (pins : List (Addr × Obj)) (σ : St) (Q : List V → Hp → Prop) (us : List Value) (s' : Shared) : Prop := ∃ vs H', Inv X pins σ H' s' ∧ Vals vs us ∧ Q vs H'
def SP (X : Cx) (pins : List (Addr × Obj)) (D : Ends) (f : Flow) (s' : Shared) : Prop :=
  match f with
  | .next => ∃ σ' H', Inv X pins σ' H' s' ∧ D.nx σ' H'
  | .brk => ∃ σ' H', Inv X pins σ' H' s' ∧ D.bk σ' H'
  | .cont => ∃ σ' H', Inv X pins σ' H' s' ∧ D.ct σ' H'
  | .ret u => ∃ v σ' H', Inv X pins σ' H' s' ∧ RelV v u ∧ D.rt v H'
def PE (X : Cx) (e : Expr) (t : TE) : Prop :=
  ∀ (pins : List (Addr × Obj)) (s : Shared) (σ : St) (H : Hp) (Q : VK), Inv X pins σ H s → t σ H Q → wpAny (model X.prog X.w) X.A (eval e X.env) (EP X pins σ Q) X.xe s
def PT (X : Cx) (e : Expr) (t : TT) : Prop :=
  ∀ (pins : List (Addr × Obj)) (s : Shared) (σ : St) (H : Hp) (Q : Bool → Hp → Prop), Inv X pins σ H s → t σ H Q → wpAny (model X.prog X.w) X.A (isTrue e X.env (eval e X.env)) (TP X pins σ Q) X.xe s
def PW (X : Cx) (e : Expr) (t : TT) : Prop :=
  ∀ (whole : Sem Value) (pins : List (Addr × Obj)) (s : Shared) (σ : St) (H : Hp) (Q : Bool → Hp → Prop), Inv X pins σ H s → t σ H Q → wpAny (model X.prog X.w) X.A (isTrue e X.env whole) (TP X pins σ Q) X.xe s
theorem PW.pt {X : Cx} {e : Expr} {t : TT} (h : PW X e t) : PT X e t := h _
def PA (X : Cx) (es : List Expr) (t : TA) : Prop :=
  ∀ (pos : Pos) (pins : List (Addr × Obj)) (s : Shared) (σ : St) (H : Hp) (Q : List V → Hp → Prop), Inv X pins σ H s → t σ H Q → wpAny (model X.prog X.w) X.A (spliced (backTo pos (starEach es X.env))) (AP X pins σ Q) X.xe s
def PS (X : Cx) (st : Stmt) (t : TS) : Prop :=
  ∀ (pins : List (Addr × Obj)) (s : Shared) (σ : St) (H : Hp) (D : Ends), Inv X pins σ H s → t D σ H → wpAny (model X.prog X.w) X.A (exec st X.env) (SP X pins D) X.xe s
def PSs (X : Cx) (st : List Stmt) (t : TS) : Prop :=
  ∀ (pins : List (Addr × Obj)) (s : Shared) (σ : St) (H : Hp) (D : Ends), Inv X pins σ H s → t D σ H → wpAny (model X.prog X.w) X.A (execs st X.env) (SP X pins D) X.xe s
theorem thn {α : Type} {t : Sem α} {Q Q' : α → Shared → Prop} {M : Model} {A : Around} {E : Value → Shared → Prop} {s : Shared} (h : wpAny M A t Q E s) (hQ : ∀ a s, Q a s → Q' a s) : wpAny M A t Q' E s := wpAny_mono h hQ fun _ _ x => x
end L2
namespace L2
open PySem PySem.Spec PyProof.Rows
section
variable {X : Cx}
def tVar (i : Nat) : TE := fun σ H Q => ∃ v, σ[i]? = some (some v) ∧ Q v H
def tC (v : V) : TE := fun _ H Q => Q v H
theorem pe_var {i : Nat} {x : Str} {pos : Pos} (hN : X.N[i]? = some x) (hv : Vis X.env.scope x) (hd : (x == ("__debug__" : Str)) = false := by decide) (hcd : (x == ("__classdict__" : Str)) = false := by decide) : PE X (.Name x pos) (tVar i) := by
  intro pins s σ H Q I h
  obtain ⟨v, e, h⟩ := h
  obtain ⟨m, hn, hl⟩ := I.loc
  obtain ⟨u, r, l⟩ := hl i x v hN e hv
  have fin : EP X pins σ Q u s := ⟨v, H, I, r, h⟩
  rcases l with ⟨hk, hm⟩ | ⟨hk, c, hc, hcell⟩
  · exact wpAny_Name (wpAny_loadName_local I.ok.kind hk hn hm fin) hd
  · rcases hk with hk | hk
    · exact wpAny_Name (wpAny_loadName_cell I.ok.kind hk hc hcell fin) hd
    · exact wpAny_Name (wpAny_loadName_free I.ok.kind hk hc hcell fin hcd) hd
theorem pe_int {i j pos} : PE X (.Constant (.int i) j pos) (tC (.int i)) := fun _ _ _ H _ I h => wpAny_Constant_int ⟨.int i, H, I.tok _, ⟨_, rfl⟩, h⟩
theorem pe_bl {b j pos} : PE X (.Constant (.bool b) j pos) (tC (.bl b)) := fun _ _ _ H _ I h => Constant_bool ⟨.bl b, H, I, rfl, h⟩
theorem pe_non {j pos} : PE X (.Constant .none j pos) (tC .non) := fun _ _ _ H _ I h => Constant_none ⟨.non, H, I, rfl, h⟩
theorem pe_str {x j pos} : PE X (.Constant (.str x) j pos) (tC (.str x)) := fun _ _ _ H _ I h => Calls.Constant_str ⟨.str x, H, I.tok _, ⟨_, rfl⟩, h⟩
def Gl (X : Cx) (x : Str) : Prop := X.env.kindOf x = some .globalImplicit
theorem ld_glob {E : Value → Shared → Prop} {pins : List (Addr × Obj)} {s : Shared} {σ : St} {H : Hp} {x : Str} {u : Value} {pos : Pos} {Q : Value → Shared → Prop} (I : Inv X pins σ H s) (hg : Gl X x) (hm : X.mg x = some u) (h : Q u s)
    (hd : (x == ("__debug__" : Str)) = false := by decide) : wpAny (model X.prog X.w) X.A (eval (.Name x pos) X.env) Q E s :=
  Calls.Name_function_global I.ok.kind hg (Calls.loadGlobal_global (by rw [I.ok.glob]; exact I.mod.glob.keeps I.bk) hm h) hd
theorem ld_blt {E : Value → Shared → Prop} {pins : List (Addr × Obj)} {s : Shared} {σ : St} {H : Hp} {x : Str} {u : Value} {pos : Pos} {Q : Value → Shared → Prop} (I : Inv X pins σ H s) (hg : Gl X x) (hm : X.mg x = none) (hv : bootBuiltins x = some u) (h : Q u s)
    (hn : x ≠ "__name__" := by decide) (hd : (x == ("__debug__" : Str)) = false := by decide) : wpAny (model X.prog X.w) X.A (eval (.Name x pos) X.env) Q E s := by
  obtain ⟨mb, h1, h2⟩ := I.mod.blt
  exact Calls.Name_function_global I.ok.kind hg (Calls.loadGlobal_builtin (by rw [I.ok.glob]; exact I.mod.glob.keeps I.bk) hm (by rw [I.ok.blt]; exact h1.keeps I.bk) ((h2 x hn).trans hv) h) hd
theorem pe_glob {x : Str} {v : V} {u : Value} {pos : Pos} (hg : Gl X x) (hm : X.mg x = some u) (r : RelV v u) (hd : (x == ("__debug__" : Str)) = false := by decide) : PE X (.Name x pos) (tC v) :=
  fun _ _ _ H _ I h => ld_glob I hg hm ⟨v, H, I, r, h⟩ hd
theorem pe_bltn {x : Str} {v : V} {u : Value} {pos : Pos} (hg : Gl X x) (hm : X.mg x = none) (hv : bootBuiltins x = some u) (r : RelV v u) (hn : x ≠ "__name__" := by decide) (hd : (x == ("__debug__" : Str)) = false := by decide) : PE X (.Name x pos) (tC v) :=
  fun _ _ _ H _ I h => ld_blt I hg hm hv ⟨v, H, I, r, h⟩ hn hd
variable {a b : Expr} {ta tb : TE} {pos : Pos}
def tB (t : TE) : TT := fun σ H Q => t σ H fun x H1 => ∃ c, x = .bl c ∧ Q c H1
theorem pt_val {e : Expr} {t : TE} (h : PE X e t) (he : ∀ whole, isTrue e X.env whole = (do let v ← whole; standAt e.pos; holding [v] (truthy v)) := by intro _; rfl) : PT X e (tB t) := by
  intro pins s σ H Q I hw
  refine isTrue_plain (thn (h pins s σ H _ I hw) fun v s1 ⟨x, H1, I1, r1, q1⟩ => ?_) (he _)
  obtain ⟨d, rfl, q⟩ := q1
  cases r1
  exact wpAny_truthy_bool ⟨H1, I1, q⟩
variable {tA tB' : TT} {rest : List Expr}
def tAnd (t u : TT) : TT := fun σ H Q => t σ H fun c H1 => if c = true then u σ H1 Q else Q false H1
def tOr (t u : TT) : TT := fun σ H Q => t σ H fun c H1 => if c = true then Q true H1 else u σ H1 Q
def tNot (t : TT) : TT := fun σ H Q => t σ H fun c H1 => Q (!c) H1
theorem pw_and1 (ha : PT X a tA) : PW X (.BoolOp .And [a] pos) tA := by
  intro wh pins s σ H Q I h
  refine isTrue_and (thn (ha pins s σ H Q I h) fun c s1 e => ?_)
  cases c with
  | true => exact isTrue_and_nil e
  | false => exact e
theorem pw_or1 (ha : PT X a tA) : PW X (.BoolOp .Or [a] pos) tA := by
  intro wh pins s σ H Q I h
  refine isTrue_or (thn (ha pins s σ H Q I h) fun c s1 e => ?_)
  cases c with
  | false => exact isTrue_or_nil e
  | true => exact e
theorem pw_and (ha : PT X a tA) (hb : PW X (.BoolOp .And (b :: rest) pos) tB') : PW X (.BoolOp .And (a :: b :: rest) pos) (tAnd tA tB') := by
  intro wh pins s σ H Q I h
  refine isTrue_and (thn (ha pins s σ H _ I h) fun c s1 ⟨H1, I1, q1⟩ => ?_)
  cases c with
  | true => exact hb wh pins s1 σ H1 Q I1 q1
  | false => exact ⟨H1, I1, q1⟩
theorem pw_or (ha : PT X a tA) (hb : PW X (.BoolOp .Or (b :: rest) pos) tB') : PW X (.BoolOp .Or (a :: b :: rest) pos) (tOr tA tB') := by
  intro wh pins s σ H Q I h
  refine isTrue_or (thn (ha pins s σ H _ I h) fun c s1 ⟨H1, I1, q1⟩ => ?_)
  cases c with
  | true => exact ⟨H1, I1, q1⟩
  | false => exact hb wh pins s1 σ H1 Q I1 q1
theorem pt_not (ha : PT X a tA) : PT X (.UnaryOp .Not a pos) (tNot tA) := by
  intro pins s σ H Q I h
  exact isTrue_not (ha pins s σ H (fun c H1 => Q (!c) H1) I h)
def tAndV (ta tb : TE) : TE := fun σ H Q => ta σ H fun x H1 => ∃ c, x = .bl c ∧ if c = true then tb σ H1 Q else Q (.bl false) H1
def tOrV (ta tb : TE) : TE := fun σ H Q => ta σ H fun x H1 => ∃ c, x = .bl c ∧ if c = true then Q (.bl true) H1 else tb σ H1 Q
def tNotV (ta : TE) : TE := fun σ H Q => ta σ H fun x H1 => ∃ c, x = .bl c ∧ Q (.bl (!c)) H1
theorem pe_one {op} {t : TE} (h : PE X a t) : PE X (.BoolOp op [a] pos) t := fun pins s σ H Q I hw => BoolOp_one (h pins s σ H Q I hw)
theorem pe_and (ha : PE X a ta) (hb : PE X (.BoolOp .And (b :: rest) pos) tb) : PE X (.BoolOp .And (a :: b :: rest) pos) (tAndV ta tb) := by
  intro pins s σ H Q I h
  refine BoolOp_and (thn (ha pins s σ H _ I h) fun v s1 ⟨x, H1, I1, r1, q1⟩ => ?_)
  obtain ⟨c, rfl, q1⟩ := q1
  cases r1
  refine wpAny_truthy_bool ?_
  cases c with
  | true => exact hb pins s1 σ H1 Q I1 q1
  | false => exact ⟨.bl false, H1, I1, rfl, q1⟩
theorem pe_not (ha : PE X a ta) : PE X (.UnaryOp .Not a pos) (tNotV ta) := by
  intro pins s σ H Q I h
  refine UnaryOp_ (thn (ha pins s σ H _ I h) fun v s1 ⟨x, H1, I1, r1, q1⟩ => ?_)
  obtain ⟨c, rfl, q1⟩ := q1
  cases r1
  exact not_of (wpAny_truthy_bool ⟨.bl (!c), H1, I1, rfl, q1⟩)
def tIf (t : TT) (ta tb : TE) : TE := fun σ H Q => t σ H fun c H1 => if c = true then ta σ H1 Q else tb σ H1 Q
theorem pe_ifExp {c : Expr} (hc : PT X c tA) (ha : PE X a ta) (hb : PE X b tb) : PE X (.IfExp c a b pos) (tIf tA ta tb) := by
  intro pins s σ H Q I h
  refine wpAny_IfExp (thn (hc pins s σ H _ I h) fun d s1 ⟨H1, I1, q1⟩ => ?_)
  cases d with
  | true => exact ha pins s1 σ H1 Q I1 q1
  | false => exact hb pins s1 σ H1 Q I1 q1
end
end L2
namespace L2
open PySem PySem.Spec PyProof.Rows
def SqL (K : PySem.W.Frag) (H : Hp) (a : Addr) (xs : List V) : Prop :=
  Rd H a (.lst xs) ∨
    ∃ (o : Obj) (its : Array Value) (n : Nat), K.lookup a = some o ∧ o.cls = .type "list" ∧ o.dict = none ∧ o.data = .seq its n ∧ its.size ≤ sizeLine ∧ Vals xs its.toList
def SqT (K : PySem.W.Frag) (H : Hp) (a : Addr) (xs : List V) : Prop :=
  Rd H a (.tup xs) ∨
    ∃ (o : Obj) (its : Array Value) (n : Nat), K.lookup a = some o ∧ o.cls = .type "tuple" ∧ o.data = .seq its n ∧ its.size ≤ sizeLine ∧ Vals xs its.toList
def absV : Value → Option V
  | .none => some .non
  | .bool b => some (.bl b)
  | .int i _ => some (.int i)
  | .str x _ => some (.str x)
  | .bytes b _ => some (.byt b)
  | .float b _ => some (.flt b)
  | .ref a => some (.ref a)
  | .type n => some (.ty n)
  | _ => none
theorem RelV.abs {x : V} {u : Value} (r : RelV x u) : absV u = some x := by
  cases x with
  | non => cases r; rfl
  | bl _ => cases r; rfl
  | int _ => obtain ⟨t, rfl⟩ := r; rfl
  | str _ => obtain ⟨t, rfl⟩ := r; rfl
  | byt _ => obtain ⟨t, rfl⟩ := r; rfl
  | flt _ => obtain ⟨t, rfl⟩ := r; rfl
  | ref _ => cases r; rfl
  | ty _ => cases r; rfl
theorem RelV.inj {x y : V} {u : Value} (r : RelV x u) (q : RelV y u) : x = y := Option.some.inj (r.abs.symm.trans q.abs)
theorem Vals.inj : ∀ {xs ys : List V} {us : List Value}, Vals xs us → Vals ys us → xs = ys
  | _, _, _, .nil, .nil => rfl
  | _, _, _, .cons r t, .cons r' t' => by rw [r.inj r', Vals.inj t t']
section
variable {X : Cx} {pins : List (Addr × Obj)} {σ : St} {H : Hp} {s : Shared} {a : Addr} {xs ys : List V}
theorem SqL.of {K : PySem.W.Frag} (h : H a = some (.lst xs)) : SqL K H a xs := .inl (.inl h)
theorem SqT.of {K : PySem.W.Frag} (h : H a = some (.tup xs)) : SqT K H a xs := .inl (.inl h)
theorem Inv.list (I : Inv X pins σ H s) (h : SqL X.K H a xs) : ∃ its : List Value, Vals xs its ∧ PlainL s.heap a its.toArray ∧ xs.length ≤ sizeLine := by
  rcases h with h | ⟨o, its, n, hk, hc, hd, hs, hz, r⟩
  · obtain ⟨z, its, n, r, e⟩ := h.ok I.hok
    exact ⟨its, r, ⟨_, n, e, rfl, rfl, rfl⟩, z⟩
  · refine ⟨its.toList, r, ⟨o, n, I.kIn a o hk, hc, hd, by simpa using hs⟩, ?_⟩
    have e := r.length
    simp only [Array.length_toList] at e
    omega
theorem Inv.tuple (I : Inv X pins σ H s) (h : SqT X.K H a xs) : ∃ its : List Value, Vals xs its ∧ IsTup s.heap a its.toArray ∧ xs.length ≤ sizeLine := by
  rcases h with h | ⟨o, its, n, hk, hc, hs, hz, r⟩
  · obtain ⟨z, its, r, p⟩ := h.ok I.hok
    exact ⟨its, r, p, z⟩
  · refine ⟨its.toList, r, ⟨o, I.kIn a o hk, hc, n, by simpa using hs⟩, ?_⟩
    have e := r.length
    simp only [Array.length_toList] at e
    omega
theorem Inv.list_inj (I : Inv X pins σ H s) (h : SqL X.K H a xs) (h' : SqL X.K H a ys) : xs = ys := by
  obtain ⟨its, r, ⟨o, n, e, _, _, d⟩, _⟩ := I.list h
  obtain ⟨its', r', ⟨o', n', e', _, _, d'⟩, _⟩ := I.list h'
  rw [e] at e'; cases e'
  rw [d] at d'
  injection d' with d1 _
  have : its = its' := by simpa using congrArg Array.toList d1
  subst this
  exact r.inj r'
end
abbrev Cx.wish (X : Cx) (E : Value → Shared → Prop) : Cx := { X with xe := E }
abbrev Cx.nox (X : Cx) : Cx := X.wish fun _ _ => False
theorem Cx.Ok.wish {X : Cx} (ok : X.Ok) (E : Value → Shared → Prop) : (X.wish E).Ok :=
  ⟨ok.mod, ok.kind, ok.glob, ok.blt, ok.above, ok.inj, ok.has, ok.cab, ok.hd, ok.frames, ok.stk, ok.exf, ok.bs, ok.bsz, ok.noex, ok.exfs, ok.funs, ok.frf⟩
theorem Cx.Ok.unwish {X : Cx} {E : Value → Shared → Prop} (ok : (X.wish E).Ok) : X.Ok :=
  ⟨ok.mod, ok.kind, ok.glob, ok.blt, ok.above, ok.inj, ok.has, ok.cab, ok.hd, ok.frames, ok.stk, ok.exf, ok.bs, ok.bsz, ok.noex, ok.exfs, ok.funs, ok.frf⟩
section
variable {X : Cx} {pins : List (Addr × Obj)} {σ : St} {H : Hp} {s : Shared} {E : Value → Shared → Prop}
theorem Inv.wish (I : Inv X pins σ H s) (E : Value → Shared → Prop) : Inv (X.wish E) pins σ H s := ⟨I.ok.wish E, I.os, I.bare, I.base, I.loc, I.cell, I.free, I.freeC, I.pin, I.hok, I.len⟩
theorem Inv.unwish (I : Inv (X.wish E) pins σ H s) : Inv X pins σ H s := ⟨I.ok.unwish, I.os, I.bare, I.base, I.loc, I.cell, I.free, I.freeC, I.pin, I.hok, I.len⟩
theorem SP.unwish {D : Ends} {f : Flow} {s' : Shared} (h : SP (X.wish E) pins D f s') : SP X pins D f s' := by
  cases f with
  | next => obtain ⟨σ', H', I, q⟩ := h; exact ⟨σ', H', I.unwish, q⟩
  | brk => obtain ⟨σ', H', I, q⟩ := h; exact ⟨σ', H', I.unwish, q⟩
  | cont => obtain ⟨σ', H', I, q⟩ := h; exact ⟨σ', H', I.unwish, q⟩
  | ret u => obtain ⟨v, σ', H', I, r, q⟩ := h; exact ⟨v, σ', H', I.unwish, r, q⟩
theorem PE.nox {e : Expr} {t : TE} (h : PE X.nox e t) : PE X e t := fun pins s σ H Q I hw =>
  wpAny_mono (h pins s σ H Q (I.wish _) hw) (fun _ _ ⟨v, H', I', r, q⟩ => ⟨v, H', I'.unwish, r, q⟩) fun _ _ z => False.elim z
theorem PT.nox {e : Expr} {t : TT} (h : PT X.nox e t) : PT X e t := fun pins s σ H Q I hw =>
  wpAny_mono (h pins s σ H Q (I.wish _) hw) (fun _ _ ⟨H', I', q⟩ => ⟨H', I'.unwish, q⟩) fun _ _ z => False.elim z
theorem PSs.nox {st : List Stmt} {t : TS} (h : PSs X.nox st t) : PSs X st t := fun pins s σ H D I hw =>
  wpAny_mono (h pins s σ H D (I.wish _) hw) (fun _ _ q => q.unwish) fun _ _ z => False.elim z
end
section
variable {X : Cx} {st : Stmt} {rest : List Stmt} {t u : TS} {e : Expr} {te : TE} {pos : Pos}
def tNext : TS := fun D σ H => D.nx σ H
def tSeq (t u : TS) : TS := fun D σ H => t { D with nx := u D } σ H
theorem pss_nil : PSs X [] tNext := fun _ _ σ H _ I h => wpAny_execs_nil ⟨σ, H, I, h⟩
theorem pss_cons (h1 : PS X st t) (h2 : PSs X rest u) : PSs X (st :: rest) (tSeq t u) := by
  intro pins s σ H D I h
  refine wpAny_execs_cons (thn (h1 pins s σ H { D with nx := u D } I h) fun f s1 q => ?_)
  cases f with
  | next =>
    obtain ⟨σ', H', I', q⟩ := q
    exact h2 pins s1 σ' H' D I' q
  | ret v => exact q
  | brk => exact q
  | cont => exact q
theorem pss_one (h1 : PS X st t) : PSs X [st] t := by
  intro pins s σ H D I h
  refine wpAny_execs_cons (thn (h1 pins s σ H D I h) fun f s1 q => ?_)
  cases f with
  | next => exact wpAny_execs_nil q
  | ret v => exact q
  | brk => exact q
  | cont => exact q
theorem Inv.quiet {pins : List (Addr × Obj)} {σ : St} {H : Hp} {s : Shared} (I : Inv X pins σ H s) : interactive X.env = false := by simp [interactive, I.ok.kind]
def tDrop (te : TE) : TS := fun D σ H => te σ H fun _ H1 => D.nx σ H1
theorem ps_expr (he : PE X e te) (hs : swapsWith e none pos.line X.env = pure false := by rfl) : PS X (.Expr e pos) (tDrop te) := by
  intro pins s σ H D I h
  exact wpAny_Expr_any (thn (he pins s σ H _ I h) fun v s1 ⟨x, H1, I1, r1, q1⟩ => ⟨σ, H1, I1, q1⟩) I.quiet hs
def tRet (te : TE) : TS := fun D σ H => te σ H D.rt
theorem ps_ret (he : PE X e te) : PS X (.Return (some e) pos) (tRet te) := by
  intro pins s σ H D I h
  exact wpAny_Return_some (thn (he pins s σ H _ I h) fun v s1 ⟨x, H1, I1, r1, q1⟩ => ⟨x, σ, H1, I1, r1, q1⟩)
def tRetN : TS := fun D _ H => D.rt .non H
def tIfS (c : TT) (t u : TS) : TS := fun D σ H => c σ H fun b H1 => if b = true then t D σ H1 else u D σ H1
theorem ps_if {c : Expr} {a b : List Stmt} {tc : TT} (hc : PT X c tc) (ha : PSs X a t) (hb : PSs X b u) : PS X (.If c a b pos) (tIfS tc t u) := by
  intro pins s σ H D I h
  refine wpAny_If (thn (hc pins s σ H _ I h) fun d s1 ⟨H1, I1, q1⟩ => ?_)
  cases d with
  | true => exact ha pins s1 σ H1 D I1 q1
  | false => exact hb pins s1 σ H1 D I1 q1
def tNever : TS := fun _ _ _ => False
theorem ps_never : PS X st tNever := fun _ _ _ _ _ _ h => h.elim
end
abbrev TG := V → St → Hp → (St → Hp → Prop) → Prop
abbrev TGs := List V → St → Hp → (St → Hp → Prop) → Prop
def PG (X : Cx) (target : Expr) (t : TG) : Prop :=
  ∀ (pins : List (Addr × Obj)) (s : Shared) (σ : St) (H : Hp) (v : V) (u : Value) (Q : St → Hp → Prop), Inv X pins σ H s → RelV v u → t v σ H Q →
    wpAny (model X.prog X.w) X.A (assign target X.env u) (fun _ s' => ∃ σ' H', Inv X pins σ' H' s' ∧ Q σ' H') X.xe s
def PGs (X : Cx) (ts : List Expr) (t : TGs) : Prop :=
  ∀ (pins : List (Addr × Obj)) (s : Shared) (σ : St) (H : Hp) (vs : List V) (us : List Value) (Q : St → Hp → Prop), Inv X pins σ H s → Vals vs us → t vs σ H Q →
    wpAny (model X.prog X.w) X.A (assignInOrder ((assignEach ts X.env).map (·.2)) us) (fun _ s' => ∃ σ' H', Inv X pins σ' H' s' ∧ Q σ' H') X.xe s
abbrev TSet := V → V → V → Hp → (Hp → Prop) → Prop
def PSet (X : Cx) (t : TSet) : Prop :=
  ∀ (pins : List (Addr × Obj)) (s : Shared) (σ : St) (H : Hp) (o i v : V) (ov iv u : Value) (Q : Hp → Prop), Inv X pins σ H s → RelV o ov → RelV i iv → RelV v u → t o i v H Q →
    wpAny (model X.prog X.w) X.A (setItem ov iv u) (fun _ s' => ∃ H', Inv X pins σ H' s' ∧ Q H') X.xe s
abbrev TIp := V → V → Hp → VK → Prop
def PIp (X : Cx) (op : Operator) (t : TIp) : Prop :=
  ∀ (pins : List (Addr × Obj)) (s : Shared) (σ : St) (H : Hp) (x y : V) (v u : Value) (Q : VK), Inv X pins σ H s → RelV x v → RelV y u → t x y H Q →
    wpAny (model X.prog X.w) X.A (inplaceOp op v u) (EP X pins σ Q) X.xe s
section
variable {X : Cx} {pos : Pos}
def gName (i : Nat) : TG := fun v σ H Q => Q (σ.set i (some v)) H
theorem pg_name {i : Nat} {x : Str} (hN : X.N.Nodup) (hi : X.N[i]? = some x) (hx : Loc X.env.scope x) (hf : X.fn x = true ∨ X.env.scope.names.lookup x = some .local := by first | exact .inl rfl | exact .inr rfl | assumption) : PG X (.Name x pos) (gName i) := by
  intro pins s σ H v u Q I r h
  exact wpAny_assign_Name (store_ok I hN hi hx r (fun s' I' => ⟨_, H, I', h⟩) hf)
def gNil : TGs := fun vs σ H Q => vs = [] ∧ Q σ H
def gCons (t : TG) (u : TGs) : TGs := fun vs σ H Q => ∃ v r, vs = v :: r ∧ t v σ H fun σ' H' => u r σ' H' Q
theorem pgs_nil : PGs X [] gNil := by
  intro pins s σ H vs us Q I r h
  obtain ⟨e, h⟩ := h
  subst e
  cases r
  exact assignInOrder_nil ⟨σ, H, I, h⟩
theorem pgs_cons {e : Expr} {es : List Expr} {t : TG} {u : TGs} (h1 : PG X e t) (h2 : PGs X es u)
    (hs : (assignEach (e :: es) X.env).map (·.2) = assign e X.env :: (assignEach es X.env).map (·.2) := by rfl) : PGs X (e :: es) (gCons t u) := by
  intro pins s σ H vs us Q I r h
  obtain ⟨v, vr, e1, h⟩ := h
  subst e1
  cases r with
  | cons r rr =>
    rw [hs]
    refine assignInOrder_cons (thn (h1 pins s σ H _ _ _ I r h) fun _ s1 ⟨σ1, H1, I1, q1⟩ => ?_)
    exact h2 pins s1 σ1 H1 _ _ Q I1 rr q1
def gTup (K : PySem.W.Frag) (n : Nat) (t : TGs) : TG := fun v σ H Q => ∃ a xs, v = .ref a ∧ SqT K H a xs ∧ xs.length = n ∧ t xs σ H Q
theorem pg_tup {es : List Expr} {k : Nat} {t : TGs} {n : Nat} (hc : X.calm = true) (h : PGs X es t)
    (hn : (assignEach es X.env).length = n := by rfl) (hst : (assignEach es X.env).findIdx? (·.1) = none := by rfl) : PG X (.Tuple es k pos) (gTup X.K n t) := by
  intro pins s σ H v u Q I r hw
  obtain ⟨a, xs, e1, hq, hl, hw⟩ := hw
  subst e1
  cases r
  obtain ⟨its, rv, ht, hz⟩ := I.tuple hq
  refine assign_Tuple_tuple (I.ok.hd hc) ht (by simp [hn, ← hl, rv.length]) hst fun h' hx => ?_
  have I1 : Inv X pins σ H { s with heap := h' } := I.kept (t' := s.toks) fun b o e => hx b o (Nat.ne_of_lt (Heap.lt_size e)) e
  exact h pins _ σ H xs _ Q I1 (by simpa using rv) hw
def gSub (to ti : TE) (t : TSet) : TG := fun v σ H Q => to σ H fun o H1 => ti σ H1 fun i H2 => t o i v H2 fun H3 => Q σ H3
theorem pg_sub {o i : Expr} {to ti : TE} {t : TSet} (ho : PE X o to) (hi : PE X i ti) (hs : PSet X t)
    (ha : ∀ v, assign (.Subscript o i pos) X.env v = (do
      let ov ← holding [v] (eval o X.env)
      let iv ← holding [v, ov] (eval i X.env)
      standAt pos
      holding [v, ov, iv] (setItem ov iv v)
      release [v, ov, iv] []) := by intro _; rfl) : PG X (.Subscript o i pos) (gSub to ti t) := by
  intro pins s σ H v u Q I r h
  rw [ha]
  refine wpAny_bind (wpAny_holding (thn (ho pins s σ H _ I h) fun ov s1 ⟨x, H1, I1, r1, q1⟩ => ?_))
  refine wpAny_bind (wpAny_holding (thn (hi pins s1 σ H1 _ I1 q1) fun iv s2 ⟨y, H2, I2, r2, q2⟩ => ?_))
  refine wpAny_bind (wpAny_standAt (wpAny_bind (wpAny_holding (thn (hs pins s2 σ H2 x y v ov iv u _ I2 r1 r2 r q2) fun _ s3 ⟨H3, I3, q3⟩ => ?_))))
  exact wpAny_release ⟨σ, H3, I3, q3⟩
def tAsg (te : TE) (g : TG) : TS := fun D σ H => te σ H fun x H1 => g x σ H1 D.nx
theorem ps_asg {tg e : Expr} {te : TE} {g : TG} (he : PE X e te) (hg : PG X tg g) (hs : swapsWithSole [tg] e pos.line X.env = pure false := by rfl) (hw : swappedStores [tg] e X.env = pure none := by rfl)
    (h1 : (assignEach [tg] X.env).map (·.2) = [assign tg X.env] := by rfl) : PS X (.Assign [tg] e pos) (tAsg te g) := by
  intro pins s σ H D I h
  refine wpAny_Assign_stores (thn (he pins s σ H _ I h) fun v s1 ⟨x, H1, I1, r1, q1⟩ => ?_) hs hw
  rw [h1]
  exact thn (hg pins s1 σ H1 x v _ I1 r1 q1) fun _ s2 q => q
theorem ps_set {i : Nat} {x : Str} {e : Expr} {te : TE} {pos' : Pos} (hN : X.N.Nodup) (hi : X.N[i]? = some x) (hx : Loc X.env.scope x) (he : PE X e te) (hs : swapsWith e (some (.Name x pos')) pos.line X.env = pure false := by rfl) (hf : X.fn x = true ∨ X.env.scope.names.lookup x = some .local := by first | exact .inl rfl | exact .inr rfl | assumption) :
    PS X (.Assign [.Name x pos'] e pos) (tAsg te (gName i)) := by
  intro pins s σ H D I h
  refine wpAny_Assign_Name (thn (he pins s σ H _ I h) fun v s1 ⟨y, H1, I1, r1, q1⟩ => ?_) hs
  exact store_ok I1 hN hi hx r1 (fun s2 I2 => ⟨_, H1, I2, q1⟩) hf
def tPar (i j : Nat) (ta : TA) : TS := fun D σ H => ta σ H fun vs H1 => ∃ v w, vs = [v, w] ∧ D.nx ((σ.set i (some v)).set j (some w)) H1
def tAug (i : Nat) (te : TE) (ti : TIp) : TS := fun D σ H => ∃ x, σ[i]? = some (some x) ∧ te σ H fun y H1 => ti x y H1 fun z H2 => D.nx (σ.set i (some z)) H2
theorem ps_aug {i : Nat} {x : Str} {e : Expr} {te : TE} {op : Operator} {ti : TIp} {pos' : Pos} (hN : X.N.Nodup) (hi : X.N[i]? = some x) (hx : Loc X.env.scope x) (he : PE X e te) (ho : PIp X op ti) (hf : X.fn x = true ∨ X.env.scope.names.lookup x = some .local := by first | exact .inl rfl | exact .inr rfl | assumption) :
    PS X (.AugAssign (.Name x pos') op e pos) (tAug i te ti) := by
  intro pins s σ H D I h
  obtain ⟨v, e1, h⟩ := h
  obtain ⟨m, hn, hl⟩ := I.loc
  have vis : Vis X.env.scope x := by rcases hx with k | k; exact .inl k; exact .inr (.inl k)
  obtain ⟨u, r, l⟩ := hl i x v hi e1 vis
  refine wpAny_AugAssign_Name ?_
  have go : wpAny (model X.prog X.w) X.A (eval e X.env) (fun w s₂ => wpAny (model X.prog X.w) X.A (inplaceOp op u w) (fun r s₃ => wpAny (model X.prog X.w) X.A (storeName X.env x r) (fun _ => SP X pins D .next) X.xe s₃) X.xe s₂) X.xe s := by
    refine thn (he pins s σ H _ I h) fun w s1 ⟨y, H1, I1, r1, q1⟩ => ?_
    refine thn (ho pins s1 σ H1 v y u w _ I1 r r1 q1) fun z s2 ⟨zv, H2, I2, r2, q2⟩ => ?_
    exact store_ok I2 hN hi hx r2 (fun s3 I3 => ⟨_, H2, I3, q2⟩) hf
  rcases l with ⟨hk, hm⟩ | ⟨hk, c, hc, hcell⟩
  · exact wpAny_loadName_local I.ok.kind hk hn hm go
  · rcases hk with hk | hk
    · exact wpAny_loadName_cell I.ok.kind hk hc hcell go
    · rcases hx with k | k
      · have : X.env.scope.names.lookup x = some .free := hk
        rw [k] at this; cases this
      · have : X.env.scope.names.lookup x = some .free := hk
        rw [k] at this; cases this
def ipI (f : Int → Int → Int) : TIp := fun x y H Q => ∃ i j, x = .int i ∧ y = .int j ∧ Q (.int (f i j)) H
theorem ip_add : PIp X .Add (ipI fun i j => i + j) := by
  intro pins s σ H x y v u Q I r1 r2 h
  obtain ⟨i, j, e1, e2, q⟩ := h
  subst e1; subst e2
  obtain ⟨t, rfl⟩ := r1
  obtain ⟨t', rfl⟩ := r2
  exact iadd_int ⟨.int _, H, I.tok _, ⟨_, rfl⟩, q⟩
end
section
variable {X : Cx} {pos : Pos}
end
structure It where
  go : Nat → Hp → Prop
  yld : Nat → Hp → V → Hp → Prop
  stop : Nat → Hp → Prop
def FpOk (X : Cx) (pins : List (Addr × Obj)) (H : Hp) (b : Addr) : Prop :=
  H b = none ∧ b ≠ X.env.locals ∧ b ∉ X.fs ∧ (b ∈ X.ex ∨ X.s_0.heap.objs.size ≤ b) ∧ (∀ x c, X.env.cells.lookup x = some c → c ≠ b) ∧ ∀ p ∈ X.pn ++ pins, p.1 ≠ b
theorem Inv.fpOk {X : Cx} {pins : List (Addr × Obj)} {σ : St} {H H' : Hp} {s : Shared} {b : Addr} (I : Inv X pins σ H s) (hb : s.heap.objs.size ≤ b) (hn : H' b = none) : FpOk X pins H' b := by
  refine ⟨hn, Nat.ne_of_gt (Nat.lt_of_lt_of_le I.lt hb), I.nofs hb, .inr (Nat.le_trans I.sz hb), fun x c e z => ?_, fun p hp z => ?_⟩
  · obtain ⟨v, q⟩ := I.cell x c e
    exact absurd (Nat.lt_of_lt_of_le q.lt (by rw [z]; exact hb)) (Nat.lt_irrefl _)
  · exact absurd (Nat.lt_of_lt_of_le (Heap.lt_size (I.pin p hp).1) (by rw [z]; exact hb)) (Nat.lt_irrefl _)
structure Turn (P : Program) (w : World) (K : PySem.W.Frag) (tg : Expr) (J : It) (fp : List Addr) (it : Addr) (tn : Nat → Heap → Prop) : Prop where
  mem : it ∈ fp
  obj : ∀ i h, tn i h → ∀ b ∈ fp, ∃ o, h.get? b = some o ∧ ∀ v, o.data ≠ .cell v
  keep : ∀ i h h', tn i h → (∀ b ∈ fp, ∀ o, h.get? b = some o → h'.get? b = some o) → tn i h'
  item : ∀ (X : Cx), X.prog = P → X.w = w → X.K = K → X.calm = true → ∀ (i : Nat) (pins : List (Addr × Obj)) (s : Shared) (σ : St) (H : Hp) (E : Value → Shared → Prop), Inv X pins σ H s → (∀ b ∈ fp, FpOk X pins H b) → tn i s.heap → J.go i H →
    wpAny (model P w) X.A (pyNext (.ref it)) (fun r s1 => ∃ u, r = some u ∧
      wpAny (model P w) X.A (letOwnedTupleGo tg (.ref it) u) (fun _ s2 => ∃ x H', Inv X pins σ H' s2 ∧ RelV x u ∧ J.yld i H x H' ∧ tn (i + 1) s2.heap ∧ ∀ b ∈ fp, H' b = none) E s1) E s
  done : ∀ (X : Cx), X.prog = P → X.w = w → X.K = K → X.calm = true → ∀ (i : Nat) (pins : List (Addr × Obj)) (s : Shared) (σ : St) (H : Hp) (E : Value → Shared → Prop), Inv X pins σ H s → (∀ b ∈ fp, FpOk X pins H b) → tn i s.heap → J.stop i H →
    wpAny (model P w) X.A (pyNext (.ref it)) (fun r s1 => r = none ∧ Inv X pins σ H s1) E s
  self : ∀ (A : Around) (i : Nat) (s : Shared) (Q : Value → Shared → Prop) (E : Value → Shared → Prop), tn i s.heap → Q (.ref it) s → wpAny (model P w) A (pyIter (.ref it)) Q E s
abbrev TI := St → Hp → (It → Hp → Prop) → Prop
def PIE (X : Cx) (pins : List (Addr × Obj)) (σ : St) (tg : Expr) (R : It → Hp → Prop) (itv : Value) (s2 : Shared) : Prop :=
  ∃ (it : Addr) (fp : List Addr) (tn : Nat → Heap → Prop) (J : It) (H' : Hp), itv = .ref it ∧ Inv X pins σ H' s2 ∧ Turn X.prog X.w X.K tg J fp it tn ∧ tn 0 s2.heap ∧ (∀ b ∈ fp, FpOk X pins H' b) ∧ R J H'
def PI (X : Cx) (tg iter : Expr) (wi : TI) : Prop :=
  ∀ (pins : List (Addr × Obj)) (s : Shared) (σ : St) (H : Hp) (R : It → Hp → Prop), Inv X pins σ H s → wi σ H R →
    wpAny (model X.prog X.w) X.A (eval iter X.env) (fun v s1 => wpAny (model X.prog X.w) X.A (pyIter v) (PIE X pins σ tg R) X.xe s1) X.xe s
theorem go_of {M : Model} {A : Around} {E : Value → Shared → Prop} {s : Shared} {tg : Expr} {it : Addr} {u : Value} {o : Obj} {n : String} {vs : Array Value} {Q : Unit → Shared → Prop} (ho : s.heap.get? it = some o) (hc : o.cls = .type n) (hd : o.data = .fields vs)
    (hn : ["enumerate", "zip", "dict_itemiterator", "dict_reverseitemiterator", "odict_iterator", "itertools.zip_longest", "itertools.pairwise"].contains n = false) (hQ : Q () s) : wpAny M A (letOwnedTupleGo tg (.ref it) u) Q E s := by
  unfold letOwnedTupleGo
  cases tg <;> first
    | exact wpAny_pure hQ
    | (cases u <;> first
        | exact wpAny_pure hQ
        | (refine wpAny_bind (wpAny_load ho ?_)
           rw [hc, hd]
           show wpAny M A (if (["enumerate", "zip", "dict_itemiterator", "dict_reverseitemiterator", "odict_iterator", "itertools.zip_longest", "itertools.pairwise"].contains n && vs[0]? == some (rawInt _)) = true then _ else _) Q E s
           rw [if_neg (by intro h; rw [hn, Bool.false_and] at h; cases h)]
           exact wpAny_pure hQ))
def Itl (K : PySem.W.Frag) (a : Addr) : It :=
  ⟨fun i H => ∃ xs x, SqL K H a xs ∧ xs[i]? = some x, fun i H x H' => H' = H ∧ ∀ xs, SqL K H a xs → xs[i]? = some x, fun i H => ∃ xs, SqL K H a xs ∧ xs.length ≤ i⟩
def Itt (K : PySem.W.Frag) (a : Addr) : It :=
  ⟨fun i H => ∃ xs x, SqT K H a xs ∧ xs[i]? = some x, fun i H x H' => H' = H ∧ ∀ xs, SqT K H a xs → xs[i]? = some x, fun i H => ∃ xs, SqT K H a xs ∧ xs.length ≤ i⟩
def Itr (lo : Int) (n : Nat) : It := ⟨fun i _ => i < n, fun i H x H' => H' = H ∧ x = .int (lo + i), fun i _ => n ≤ i⟩
theorem turn_list {P : Program} {w : World} {K : PySem.W.Frag} {tg : Expr} (a it : Addr) : Turn P w K tg (Itl K a) [it] it (fun i h => h.IsListIter it a i) where
  mem := by simp
  obj := fun i h st b hb => by
    have e : b = it := by simpa using hb
    subst e
    obtain ⟨o, e, c, d⟩ := st
    exact ⟨o, e, fun v z => by rw [d] at z; cases z⟩
  keep := fun i h h' st k => st.at fun o e => k it (by simp) o e
  item := by
    intro X hP hw hK hc i pins s σ H E I hf st hg
    subst hP hw hK
    obtain ⟨xs, x, hq, hx⟩ := hg
    obtain ⟨its, rv, p, hz⟩ := I.list hq
    obtain ⟨u, hu, ru⟩ := rv.get hx
    obtain ⟨f0, f1, f2, f3, f4, f5⟩ := hf it (by simp)
    refine wpAny_pyNext_list_item st p.isList (x := u) (by simpa using hu) fun h' st' sb => ?_
    have I1 : Inv X pins σ H { s with heap := h' } := I.turned (t' := s.toks) (fun b o hb e => (sb.2 b hb).trans e) f0 f1 f3 f4 f5
    obtain ⟨o, e, c, d⟩ := id st'
    exact ⟨u, rfl, go_of (s := { s with heap := h' }) e c d (by decide) ⟨x, H, I1, ru, ⟨rfl, fun ys hy => by rw [I.list_inj hy hq]; exact hx⟩, st', fun b hb => (hf b hb).1⟩⟩
  done := by
    intro X hP hw hK hc i pins s σ H E I hf st hg
    subst hP hw hK
    obtain ⟨xs, hq, hx⟩ := hg
    obtain ⟨its, rv, p, hz⟩ := I.list hq
    obtain ⟨f0, f1, f2, f3, f4, f5⟩ := hf it (by simp)
    have hl := rv.length
    exact wpAny_pyNext_list_end (I.ok.hd hc) st p.isList (by simp; omega) fun h' eb => ⟨rfl, I.turned (t' := s.toks) (fun b o hb e => eb b o hb e) f0 f1 f3 f4 f5⟩
  self := fun _ _ _ _ _ st h => wpAny_pyIter_listiter st h
theorem turn_range {P : Program} {w : World} {K : PySem.W.Frag} {tg : Expr} (it : Addr) (lo : Int) (n : Nat) : Turn P w K tg (Itr lo n) [it] it (fun i h => IsRangeIter h it (lo + (i : Nat) * 1) ((n : Int) - (i : Nat)) 1) where
  mem := by simp
  obj := fun i h st b hb => by
    have e : b = it := by simpa using hb
    subst e
    exact ⟨_, st, fun v z => by
      have z' : Data.fields _ = Data.cell v := z
      cases z'⟩
  keep := fun i h h' st k => k it (by simp) _ st
  item := by
    intro X hP hw hK hc i pins s σ H E I hf st hg
    subst hP hw hK
    obtain ⟨f0, f1, f2, f3, f4, f5⟩ := hf it (by simp)
    have W := Walks.range (prog := X.prog) (w := X.w) (I.ok.hd hc) it lo 1 n
    refine W.item i s _ _ hg st fun v h' tk hv st' kk => ?_
    obtain ⟨t, rfl⟩ := hv
    have I1 : Inv X pins σ H { s with heap := h', toks := tk } := I.turned (fun b o hb e => kk b o (by simpa using hb) e) f0 f1 f3 f4 f5
    refine ⟨_, rfl, go_of (s := { s with heap := h', toks := tk }) (n := "range_iterator") st' rfl rfl (by decide) ⟨.int (lo + i), H, I1, ⟨t, ?_⟩, ⟨rfl, rfl⟩, st', fun b hb => (hf b hb).1⟩⟩
    rw [Int.mul_one]
  done := by
    intro X hP hw hK hc i pins s σ H E I hf st hg
    subst hP hw hK
    obtain ⟨f0, f1, f2, f3, f4, f5⟩ := hf it (by simp)
    exact wpAny_pyNext_range_end (I.ok.hd hc) st (by have : n ≤ i := hg; omega) fun h' eb => ⟨rfl, I.turned (t' := s.toks) (fun b o hb e => eb b o hb e) f0 f1 f3 f4 f5⟩
  self := fun _ _ _ _ _ st h => wpAny_pyIter_rangeiter st h
end L2
namespace L2
open PySem PySem.Spec PyProof.Rows
section
variable {X : Cx} {tg : Expr}
def iList (K : PySem.W.Frag) (tl : TE) : TI := fun σ H R => tl σ H fun x H1 => ∃ a, x = .ref a ∧ (∃ xs, SqL K H1 a xs) ∧ R (Itl K a) H1
def iTup (K : PySem.W.Frag) (tl : TE) : TI := fun σ H R => tl σ H fun x H1 => ∃ a, x = .ref a ∧ (∃ xs, SqT K H1 a xs) ∧ R (Itt K a) H1
theorem pi_list {l : Expr} {tl : TE} (hl : PE X l tl) : PI X tg l (iList X.K tl) := by
  intro pins s σ H R I h
  refine thn (hl pins s σ H _ I h) fun v s1 ⟨x, H1, I1, r1, q1⟩ => ?_
  obtain ⟨a, e, ⟨xs, hq⟩, q⟩ := q1
  subst e
  cases r1
  obtain ⟨its, rv, p, hz⟩ := I1.list hq
  refine wpAny_pyIter_list p.isList ?_
  refine ⟨s1.heap.objs.size, [s1.heap.objs.size], _, _, H1, rfl, I1.kept (t' := s1.toks) fun b o e => Heap.get?_push_of_some _ e, turn_list a _, ⟨_, Heap.get?_push_size _ rfl, rfl, rfl⟩, fun b hb => ?_, q⟩
  have e : b = s1.heap.objs.size := by simpa using hb
  subst e
  exact I1.fpOk (Nat.le_refl _) (I1.hok.fresh (Nat.le_refl _))
theorem range_it {pins : List (Addr × Obj)} {σ : St} {H : Hp} {s : Shared} {R : It → Hp → Prop} {E : Value → Shared → Prop} {lo hi : Int} {t u v : Tok} {tk : Nat} (I : Inv X pins σ H s) (h1 : -(2 ^ 62) ≤ lo) (h2 : lo < 2 ^ 62) (h3 : -(2 ^ 62) ≤ hi) (h4 : hi < 2 ^ 62)
    (q : R (Itr lo (hi - lo).toNat) H) : wpAny (model X.prog X.w) X.A (pyIter (.ref s.heap.objs.size)) (PIE X pins σ tg R) E { s with heap := s.heap.push { cls := .type "range", data := .fields #[.int lo t, .int hi u, .int 1 v] }, toks := tk } := by
  refine wpAny_pyIter_range (IsRange.new ..) (small_one h1 h2 h3 h4) ?_
  have I1 : Inv X pins σ H { s with heap := s.heap.push { cls := .type "range", data := .fields #[.int lo t, .int hi u, .int 1 v] }, toks := tk } := I.kept fun b o e => Heap.get?_push_of_some _ e
  refine ⟨(s.heap.push { cls := .type "range", data := .fields #[.int lo t, .int hi u, .int 1 v] }).objs.size, [(s.heap.push { cls := .type "range", data := .fields #[.int lo t, .int hi u, .int 1 v] }).objs.size], _, _, H, rfl,
    I1.kept (t' := tk) fun b o e => Heap.get?_push_of_some _ e, turn_range _ lo (hi - lo).toNat, ?_, fun b hb => ?_, q⟩
  · have e1 : lo + ((0 : Nat) : Int) * 1 = lo := by simp
    have e2 : (((hi - lo).toNat : Nat) : Int) - ((0 : Nat) : Int) = Builtin.Range.rangeSize lo hi 1 := by rw [rangeSize_one]; split <;> omega
    show IsRangeIter _ _ (lo + ((0 : Nat) : Int) * 1) ((((hi - lo).toNat : Nat) : Int) - ((0 : Nat) : Int)) 1
    rw [e1, e2]
    exact Heap.get?_push_size _ rfl
  · have e : b = (s.heap.push { cls := .type "range", data := .fields #[.int lo t, .int hi u, .int 1 v] }).objs.size := by simpa using hb
    subst e
    exact I1.fpOk (Nat.le_refl _) (I1.hok.fresh (Nat.le_refl _))
def iRng1 (ta : TA) : TI := fun σ H R => ta σ H fun vs H1 => ∃ j : Int, vs = [.int j] ∧ -(2 ^ 62) ≤ j ∧ j < 2 ^ 62 ∧ R (Itr 0 j.toNat) H1
def iRng2 (ta : TA) : TI := fun σ H R => ta σ H fun vs H1 => ∃ i j : Int, vs = [.int i, .int j] ∧ (-(2 ^ 62) ≤ i ∧ i < 2 ^ 62 ∧ -(2 ^ 62) ≤ j ∧ j < 2 ^ 62) ∧ R (Itr i (j - i).toNat) H1
theorem pi_range1 {a : Expr} {ta : TA} {p pos : Pos} (hg : Gl X "range") (hm : X.mg "range" = none) (ha : PA X [a] ta) (hs : starEach [a] X.env = [(false, eval a X.env)] := by rfl) : PI X tg (.Call (.Name "range" p) [a] [] pos) (iRng1 ta) := by
  intro pins s σ H R I h
  refine Call_ (ld_blt I hg hm boot_range (PyProof.Rows.callWith_type1 (thn (ha pos pins s σ H _ I h) fun us s1 ⟨vs, H1, I1, r1, q1⟩ => ?_) hs rfl))
  obtain ⟨j, e, q1, q2, q⟩ := q1
  subst e
  cases r1 with
  | cons r rr =>
    cases rr
    obtain ⟨t, rfl⟩ := r
    exact call_range_1 (range_it I1 (by omega) (by omega) q1 q2 (by simpa using q))
theorem pi_range2 {a b : Expr} {ta : TA} {p pos : Pos} (hg : Gl X "range") (hm : X.mg "range" = none) (ha : PA X [a, b] ta) (hs : starEach [a, b] X.env = [(false, eval a X.env), (false, eval b X.env)] := by rfl) (hs2 : starEach [b] X.env = [(false, eval b X.env)] := by rfl) :
    PI X tg (.Call (.Name "range" p) [a, b] [] pos) (iRng2 ta) := by
  intro pins s σ H R I h
  refine Call_ (ld_blt I hg hm boot_range (PyProof.Rows.callWith_type1 (thn (ha pos pins s σ H _ I h) fun us s1 ⟨vs, H1, I1, r1, q1⟩ => ?_) (by rw [hs, hs2]) (by rw [hs2]; rfl)))
  obtain ⟨i, j, e, ⟨q1, q2, q3, q4⟩, q⟩ := q1
  subst e
  cases r1 with
  | cons r rr =>
    cases rr with
    | cons r' rr =>
      cases rr
      obtain ⟨t, rfl⟩ := r
      obtain ⟨t', rfl⟩ := r'
      exact call_range_2 (range_it I1 q1 q2 q3 q4 q)
def tFor (wi : TI) (g : TG) (tb : TS) : TS := fun D σ H => wi σ H fun J H1 => ∃ W : Nat → Nat → St → Hp → Prop, (∃ m, W 0 m σ H1) ∧ ∀ i m σ H, W i m σ H →
  (J.stop i H ∧ D.nx σ H) ∨ (J.go i H ∧ ∃ N : St → Hp → Prop, (∀ σ' H', N σ' H' → ∃ m', m' < m ∧ W (i + 1) m' σ' H') ∧ ∀ x H', J.yld i H x H' → g x σ H' fun σ2 H2 => tb { D with nx := N, ct := N, bk := D.nx } σ2 H2)
def pinsAt (fp : List Addr) (h : Heap) : List (Addr × Obj) := fp.filterMap fun b => (h.get? b).map fun o => (b, o)
theorem mem_pinsAt {fp : List Addr} {h : Heap} {b : Addr} {o : Obj} (hb : b ∈ fp) (e : h.get? b = some o) : (b, o) ∈ pinsAt fp h := List.mem_filterMap.mpr ⟨b, hb, by rw [e]; rfl⟩
theorem of_pinsAt {fp : List Addr} {h : Heap} {p : Addr × Obj} (hp : p ∈ pinsAt fp h) : p.1 ∈ fp ∧ h.get? p.1 = some p.2 := by
  obtain ⟨b, hb, e⟩ := List.mem_filterMap.mp hp
  cases q : h.get? b with
  | none => rw [q] at e; cases e
  | some o =>
    rw [q] at e
    have e' : (b, o) = p := Option.some.inj e
    subst e'
    exact ⟨hb, q⟩
theorem Inv.pinned {pins : List (Addr × Obj)} {σ : St} {H : Hp} {s : Shared} {fp : List Addr} (I : Inv X pins σ H s) (hf : ∀ b ∈ fp, FpOk X pins H b) (ho : ∀ b ∈ fp, ∃ o, s.heap.get? b = some o ∧ ∀ v, o.data ≠ .cell v) : Inv X (pins ++ pinsAt fp s.heap) σ H s :=
  I.pins_of fun p hp => (List.mem_append.mp hp).elim (fun z => I.pin p (List.mem_append_right _ z)) fun z => by
    obtain ⟨hb, e⟩ := of_pinsAt z
    obtain ⟨f0, f1, f2, _⟩ := hf p.1 hb
    obtain ⟨o, e', d⟩ := ho p.1 hb
    rw [e] at e'; cases e'
    exact ⟨e, f0, f1, f2, d⟩
theorem Inv.unpinned {pins pl : List (Addr × Obj)} {σ : St} {H : Hp} {s : Shared} (I : Inv X (pins ++ pl) σ H s) : Inv X pins σ H s := I.pins_of fun p hp => I.pin p (List.mem_append_right _ (List.mem_append_left _ hp))
theorem ps_for {iter : Expr} {body : List Stmt} {wi : TI} {g : TG} {tb : TS} {pos : Pos} (hp : PassesOwn (model X.prog X.w) X.A X.env X.xe) (hc : X.calm = true) (hi : PI X tg iter wi) (hg : PG X tg g) (hb : PSs X body tb)
    (hs : ∀ x, foldedSetIterable iter X.env x = pure x := by intro _; rfl) : PS X (.For tg iter body [] pos) (tFor wi g tb) := by
  intro pins s σ H D I h
  refine wpAny_For (thn (hi pins s σ H _ I h) fun v s1 h1 => thn h1 fun itv s2 h2 => ?_) hs
  obtain ⟨it, fp, tn, J, H2, e, I2, T, st2, f2, W, ⟨m0, w0⟩, turn⟩ := h2
  subst e
  have stat : ∀ {H' : Hp}, (∀ b ∈ fp, H' b = none) → ∀ b ∈ fp, FpOk X pins H' b := fun hn b hb => ⟨hn b hb, (f2 b hb).2⟩
  refine codeAny_forLoop_any (fun n s' => ∃ i σ' H', Inv X pins σ' H' s' ∧ tn i s'.heap ∧ (∀ b ∈ fp, H' b = none) ∧ W i n σ' H') ?_ m0 ⟨0, σ, H2, I2, st2, fun b hb => (f2 b hb).1, w0⟩
  rintro n s3 ⟨i, σ3, H3, I3, st3, fr3, w3⟩
  rcases turn i n σ3 H3 w3 with ⟨stop, qn⟩ | ⟨go, N, hN, step⟩
  · refine wpAny_passesOwn hp (thn (T.done X rfl rfl rfl hc i pins s3 σ3 H3 X.xe I3 (stat fr3) st3 stop) fun r s4 ⟨hr, I4⟩ => ?_)
    subst hr
    exact wpAny_execs_nil ⟨σ3, H3, I4, qn⟩
  · refine wpAny_passesOwn hp (thn (T.item X rfl rfl rfl hc i pins s3 σ3 H3 X.xe I3 (stat fr3) st3 go) fun r s4 ⟨u, hr, h4⟩ => ?_)
    subst hr
    refine wpAny_passesOwn hp (thn h4 fun _ s5 ⟨x, H5, I5, r5, y5, st5, fr5⟩ => ?_)
    have I5' := I5.pinned (stat fr5) (T.obj _ _ st5)
    refine wpAny_passesOwn hp (thn (hg _ s5 σ3 H5 x u _ I5' r5 (step x H5 y5)) fun _ s6 ⟨σ6, H6, I6, q6⟩ => ?_)
    refine wpAny_passesOwn hp (thn (hb _ s6 σ6 H6 _ I6 q6) fun f s7 q7 => ?_)
    have again : ∀ {σ7 : St} {H7 : Hp}, Inv X (pins ++ pinsAt fp s5.heap) σ7 H7 s7 → N σ7 H7 → ∃ m, m < n ∧ ∃ i σ' H', Inv X pins σ' H' s7 ∧ tn i s7.heap ∧ (∀ b ∈ fp, H' b = none) ∧ W i m σ' H' := fun {σ7 H7} I7 n7 => by
      obtain ⟨m', hm, w7⟩ := hN σ7 H7 n7
      refine ⟨m', hm, i + 1, σ7, H7, I7.unpinned, T.keep _ _ _ st5 fun b hb o e => (I7.pin (b, o) (List.mem_append_right _ (List.mem_append_right _ (mem_pinsAt hb e)))).1, fun b hb => ?_, w7⟩
      obtain ⟨o, e, d⟩ := T.obj _ _ st5 b hb
      exact (I7.pin (b, o) (List.mem_append_right _ (List.mem_append_right _ (mem_pinsAt hb e)))).2.1
    cases f with
    | next => obtain ⟨σ7, H7, I7, n7⟩ := q7; exact again I7 n7
    | cont => obtain ⟨σ7, H7, I7, n7⟩ := q7; exact again I7 n7
    | brk => obtain ⟨σ7, H7, I7, q7⟩ := q7; exact ⟨σ7, H7, I7.unpinned, q7⟩
    | ret v => obtain ⟨x7, σ7, H7, I7, r7, q7⟩ := q7; exact ⟨x7, σ7, H7, I7.unpinned, r7, q7⟩
end
theorem for_list {K : PySem.W.Frag} {a : Addr} {xs : List V} {g : TG} {tb : TS} {D : Ends} {σ : St} {H : Hp} (Pv : Nat → St → Hp → Prop) (h0 : Pv 0 σ H) (hl : ∀ i σ H, i ≤ xs.length → Pv i σ H → SqL K H a xs)
    (hs : ∀ i x σ H, xs[i]? = some x → Pv i σ H → g x σ H fun σ2 H2 => tb { D with nx := Pv (i + 1), ct := Pv (i + 1), bk := D.nx } σ2 H2) (hd : ∀ σ H, Pv xs.length σ H → D.nx σ H) :
    ∃ W : Nat → Nat → St → Hp → Prop, (∃ m, W 0 m σ H) ∧ ∀ i m σ H, W i m σ H →
      ((Itl K a).stop i H ∧ D.nx σ H) ∨ ((Itl K a).go i H ∧ ∃ N : St → Hp → Prop, (∀ σ' H', N σ' H' → ∃ m', m' < m ∧ W (i + 1) m' σ' H') ∧ ∀ x H', (Itl K a).yld i H x H' → g x σ H' fun σ2 H2 => tb { D with nx := N, ct := N, bk := D.nx } σ2 H2) := by
  refine ⟨fun i m σ H => m = xs.length - i ∧ i ≤ xs.length ∧ Pv i σ H, ⟨xs.length, by simp, Nat.zero_le _, h0⟩, ?_⟩
  rintro i m σ H ⟨rfl, hi, p⟩
  have q := hl i σ H hi p
  by_cases hlt : i < xs.length
  · refine .inr ⟨⟨xs, xs[i], q, by simp [hlt]⟩, Pv (i + 1), fun σ' H' p' => ⟨xs.length - (i + 1), by omega, rfl, hlt, p'⟩, fun x H' y => ?_⟩
    obtain ⟨e, y⟩ := y
    subst e
    exact hs i x σ _ (y xs q) p
  · have e : i = xs.length := by omega
    subst e
    exact .inl ⟨⟨xs, q, Nat.le_refl _⟩, hd σ H p⟩
theorem for_range {lo : Int} {n : Nat} {g : TG} {tb : TS} {D : Ends} {σ : St} {H : Hp} (Pv : Nat → St → Hp → Prop) (h0 : Pv 0 σ H)
    (hs : ∀ i σ H, i < n → Pv i σ H → g (.int (lo + i)) σ H fun σ2 H2 => tb { D with nx := Pv (i + 1), ct := Pv (i + 1), bk := D.nx } σ2 H2) (hd : ∀ σ H, Pv n σ H → D.nx σ H) :
    ∃ W : Nat → Nat → St → Hp → Prop, (∃ m, W 0 m σ H) ∧ ∀ i m σ H, W i m σ H →
      ((Itr lo n).stop i H ∧ D.nx σ H) ∨ ((Itr lo n).go i H ∧ ∃ N : St → Hp → Prop, (∀ σ' H', N σ' H' → ∃ m', m' < m ∧ W (i + 1) m' σ' H') ∧ ∀ x H', (Itr lo n).yld i H x H' → g x σ H' fun σ2 H2 => tb { D with nx := N, ct := N, bk := D.nx } σ2 H2) := by
  refine ⟨fun i m σ H => m = n - i ∧ i ≤ n ∧ Pv i σ H, ⟨n, by simp, Nat.zero_le _, h0⟩, ?_⟩
  rintro i m σ H ⟨rfl, hi, p⟩
  by_cases hlt : i < n
  · refine .inr ⟨hlt, Pv (i + 1), fun σ' H' p' => ⟨n - (i + 1), by omega, rfl, hlt, p'⟩, fun x H' y => ?_⟩
    obtain ⟨e, y⟩ := y
    subst e y
    exact hs i σ _ hlt p
  · have e : i = n := by omega
    subst e
    exact .inl ⟨Nat.le_refl _, hd σ H p⟩
end L2
namespace L2
open PySem PySem.Spec PyProof.Rows
abbrev R2 := V → V → Hp → VK → Prop
def OpR (X : Cx) (f : Value → Value → Sem Value) (r : R2) : Prop :=
  ∀ (pins : List (Addr × Obj)) (s : Shared) (σ : St) (H : Hp) (x y : V) (v u : Value) (Q : VK), Inv X pins σ H s → RelV x v → RelV y u → r x y H Q →
    wpAny (model X.prog X.w) X.A (f v u) (EP X pins σ Q) X.xe s
def UnR (X : Cx) (f : Value → Sem Value) (r : V → Hp → VK → Prop) : Prop :=
  ∀ (pins : List (Addr × Obj)) (s : Shared) (σ : St) (H : Hp) (x : V) (v : Value) (Q : VK), Inv X pins σ H s → RelV x v → r x H Q →
    wpAny (model X.prog X.w) X.A (f v) (EP X pins σ Q) X.xe s
def CallR (X : Cx) (f : Value) (r : List V → Hp → VK → Prop) : Prop :=
  ∀ (pins : List (Addr × Obj)) (s : Shared) (σ : St) (H : Hp) (xs : List V) (us : List Value) (Q : VK), Inv X pins σ H s → Vals xs us → r xs H Q →
    wpAny (model X.prog X.w) X.A (call f us) (EP X pins σ Q) X.xe s
def tOp (r : R2) (ta tb : TE) : TE := fun σ H Q => ta σ H fun x H1 => tb σ H1 fun y H2 => r x y H2 Q
def tUn (r : V → Hp → VK → Prop) (ta : TE) : TE := fun σ H Q => ta σ H fun x H1 => r x H1 Q
def rI (C : Int → Int → Prop) (g : Int → Int → V) : R2 := fun x y H Q => ∃ i j, x = .int i ∧ y = .int j ∧ C i j ∧ Q (g i j) H
def rI0 (g : Int → Int → V) : R2 := fun x y H Q => ∃ i j, x = .int i ∧ y = .int j ∧ Q (g i j) H
def rU (g : Int → V) : V → Hp → VK → Prop := fun x H Q => ∃ i, x = .int i ∧ Q (g i) H
section
variable {X : Cx} {a b c : Expr} {ta tb tc : TE} {pos : Pos}
theorem binT (ha : PE X a ta) (hb : PE X b tb) {pins : List (Addr × Obj)} {s : Shared} {σ : St} {H : Hp} {R : V → V → Hp → Prop} (I : Inv X pins σ H s)
    (h : ta σ H fun x H1 => tb σ H1 fun y H2 => R x y H2) {Q : Value → Shared → Prop} {f : Value → Value → Sem Value}
    (hf : ∀ v u s2 x y H2, Inv X pins σ H2 s2 → RelV x v → RelV y u → R x y H2 → wpAny (model X.prog X.w) X.A (f v u) Q X.xe s2) :
    wpAny (model X.prog X.w) X.A (eval a X.env) (fun v s₁ => wpAny (model X.prog X.w) X.A (eval b X.env) (fun u s₂ => wpAny (model X.prog X.w) X.A (f v u) Q X.xe s₂) X.xe s₁) X.xe s := by
  refine thn (ha pins s σ H _ I h) fun v s1 ⟨x, H1, I1, r1, q1⟩ => ?_
  refine thn (hb pins s1 σ H1 _ I1 q1) fun u s2 ⟨y, H2, I2, r2, q2⟩ => ?_
  exact hf v u s2 x y H2 I2 r1 r2 q2
theorem pe_op {op : Operator} {r : R2} (ho : OpR X (binaryOp op) r) (ha : PE X a ta) (hb : PE X b tb) : PE X (.BinOp a op b pos) (tOp r ta tb) := by
  intro pins s σ H Q I h
  exact wpAny_BinOp (binT ha hb I h fun v u s2 x y H2 I2 rx ry q => ho pins s2 σ H2 x y v u Q I2 rx ry q)
theorem pe_un {op : UnaryOp} {r : V → Hp → VK → Prop} (ho : UnR X (unaryOp op) r) (ha : PE X a ta) : PE X (.UnaryOp op a pos) (tUn r ta) := by
  intro pins s σ H Q I h
  exact UnaryOp_ (thn (ha pins s σ H _ I h) fun v s1 ⟨x, H1, I1, r1, q1⟩ => ho pins s1 σ H1 x v Q I1 r1 q1)
theorem opI {f : Value → Value → Sem Value} {C : Int → Int → Prop} {g : Int → Int → Int}
    (rule : ∀ (i j : Int) (t u : Tok) (s : Shared) (Q : Value → Shared → Prop) (E : Value → Shared → Prop), C i j → Q (.int (g i j) s.toks) { s with toks := s.toks + 1 } → wpAny (model X.prog X.w) X.A (f (.int i t) (.int j u)) Q E s) :
    OpR X f (rI C fun i j => .int (g i j)) := by
  intro pins s σ H x y v u Q I rx ry h
  obtain ⟨i, j, rfl, rfl, hc, q⟩ := h
  obtain ⟨t, rfl⟩ := rx
  obtain ⟨t', rfl⟩ := ry
  exact rule i j t t' s _ _ hc ⟨.int (g i j), H, I.tok _, ⟨_, rfl⟩, q⟩
theorem opI0 {f : Value → Value → Sem Value} {g : Int → Int → Int}
    (rule : ∀ (i j : Int) (t u : Tok) (s : Shared) (Q : Value → Shared → Prop) (E : Value → Shared → Prop), Q (.int (g i j) s.toks) { s with toks := s.toks + 1 } → wpAny (model X.prog X.w) X.A (f (.int i t) (.int j u)) Q E s) :
    OpR X f (rI0 fun i j => .int (g i j)) := by
  intro pins s σ H x y v u Q I rx ry h
  obtain ⟨i, j, rfl, rfl, q⟩ := h
  obtain ⟨t, rfl⟩ := rx
  obtain ⟨t', rfl⟩ := ry
  exact rule i j t t' s _ _ ⟨.int (g i j), H, I.tok _, ⟨_, rfl⟩, q⟩
theorem opB0 {f : Value → Value → Sem Value} {g : Int → Int → Bool}
    (rule : ∀ (i j : Int) (t u : Tok) (s : Shared) (Q : Value → Shared → Prop) (E : Value → Shared → Prop), Q (.bool (g i j)) s → wpAny (model X.prog X.w) X.A (f (.int i t) (.int j u)) Q E s) :
    OpR X f (rI0 fun i j => .bl (g i j)) := by
  intro pins s σ H x y v u Q I rx ry h
  obtain ⟨i, j, rfl, rfl, q⟩ := h
  obtain ⟨t, rfl⟩ := rx
  obtain ⟨t', rfl⟩ := ry
  exact rule i j t t' s _ _ ⟨.bl (g i j), H, I, rfl, q⟩
def CDiv (i j : Int) : Prop := 0 < j ∧ j < 1073741824
def CPow (i j : Int) : Prop := 0 ≤ j ∧ j ≤ 1000000 ∧ i.natAbs < 2 ^ 64
def CMul (i j : Int) : Prop := (-(2 ^ 64) < i ∧ i < 2 ^ 64) ∨ (-(2 ^ 64) < j ∧ j < 2 ^ 64)
theorem CMul.ok {i j : Int} (h : CMul i j) : IntMulOk i j := by
  rcases h with ⟨h1, h2⟩ | ⟨h1, h2⟩
  · exact .of_left (intBits_le_64 h1 h2)
  · exact .of_right (intBits_le_64 h1 h2)
theorem op_add : OpR X (binaryOp .Add) (rI0 fun i j => .int (i + j)) := opI0 fun _ _ _ _ _ _ _ q => add_int q
theorem op_sub : OpR X (binaryOp .Sub) (rI0 fun i j => .int (i - j)) := opI0 fun _ _ _ _ _ _ _ q => sub_int q
theorem op_mul : OpR X (binaryOp .Mult) (rI CMul fun i j => .int (i * j)) := opI fun _ _ _ _ _ _ _ hc q => mul_int q hc.ok
theorem op_fdiv : OpR X (binaryOp .FloorDiv) (rI CDiv fun i j => .int (i / j)) := opI fun i j _ _ _ _ _ hc q => by
  have h1 : (0 : Int) < j := hc.1
  have h2 : j < 1073741824 := hc.2
  exact floordiv_int (by omega) (by rw [Int.fdiv_eq_ediv_of_nonneg i (by omega)]; exact q) (.inl (PyProof.noPylong_small (by omega)))
theorem op_mod : OpR X (binaryOp .Mod) (rI (fun _ j => 0 < j) fun i j => .int (i % j)) := opI fun i j _ _ _ _ _ hc q => by
  have h1 : (0 : Int) < j := hc
  exact mod_int' (by omega) (by rw [Int.fmod_eq_emod_of_nonneg i (by omega)]; exact q)
theorem op_pow : OpR X (binaryOp .Pow) (rI CPow fun i j => .int (i ^ j.toNat)) := opI fun _ _ _ _ _ _ _ hc q => pow_int_small hc.1 hc.2.1 hc.2.2 q
theorem unI {f : Value → Sem Value} {g : Int → Int}
    (rule : ∀ (i : Int) (t : Tok) (s : Shared) (Q : Value → Shared → Prop) (E : Value → Shared → Prop), Q (.int (g i) s.toks) { s with toks := s.toks + 1 } → wpAny (model X.prog X.w) X.A (f (.int i t)) Q E s) :
    UnR X f (rU fun i => .int (g i)) := by
  intro pins s σ H x v Q I rx h
  obtain ⟨i, rfl, q⟩ := h
  obtain ⟨t, rfl⟩ := rx
  exact rule i t s _ _ ⟨.int (g i), H, I.tok _, ⟨_, rfl⟩, q⟩
theorem un_neg : UnR X (unaryOp .USub) (rU fun i => .int (-i)) := unI fun _ _ _ _ _ q => neg_int q
end
def scal : V → V → Bool
  | .non, .non => true | .non, .int _ => true | .int _, .non => true | .non, .bl _ => true | .bl _, .non => true | .non, .str _ => true | .str _, .non => true
  | .int _, .int _ => true | .bl _, .bl _ => true | .str _, .str _ => true | .byt _, .byt _ => true
  | .int _, .str _ => true | .str _, .int _ => true | .bl _, .str _ => true | .str _, .bl _ => true
  | _, _ => false
def rEq : R2 := fun x y H Q => scal x y = true ∧ Q (.bl (decide (x = y))) H
def rNe : R2 := fun x y H Q => scal x y = true ∧ Q (.bl (!decide (x = y))) H
theorem dec_int {i j : Int} : decide (V.int i = V.int j) = (i == j) := by
  rw [Bool.eq_iff_iff]
  simp
theorem dec_bl {i j : Bool} : decide (V.bl i = V.bl j) = (i == j) := by
  rw [Bool.eq_iff_iff]
  simp
theorem dec_str {i j : Str} : decide (V.str i = V.str j) = (i == j) := by
  rw [Bool.eq_iff_iff]
  simp
theorem dec_byt {i j : Array UInt8} : decide (V.byt i = V.byt j) = (i.toList == j.toList) := by
  rw [Bool.eq_iff_iff]
  cases i
  cases j
  simp
section
variable {X : Cx} {a b c : Expr} {ta tb tc : TE} {pos : Pos}
theorem fin_bl {pins : List (Addr × Obj)} {σ : St} {H : Hp} {s : Shared} {Q : VK} {k k' : Bool} (I : Inv X pins σ H s) (q : Q (.bl k) H) (e : k = k') : EP X pins σ Q (.bool k') s := by
  subst e
  exact ⟨.bl k, H, I, rfl, q⟩
theorem op_eq : OpR X (compareOp .Eq) rEq := by
  intro pins s σ H x y v u Q I rx ry h
  obtain ⟨hs, q⟩ := h
  cases x with
  | non =>
    cases rx
    cases y with
    | non => cases ry; exact PySem.EqNone.eq_none_none (fin_bl I q (by simp))
    | bl j => cases ry; exact PySem.EqNone.eq_none_bool (fin_bl I q (by simp))
    | int j => obtain ⟨t', rfl⟩ := ry; exact PySem.EqNone.eq_none_int (fin_bl I q (by simp))
    | str j => obtain ⟨t', rfl⟩ := ry; exact PySem.EqNone.eq_none_str (fin_bl I q (by simp))
    | _ => exact absurd (show false = true from hs) Bool.false_ne_true
  | bl i =>
    cases rx
    cases y with
    | non => cases ry; exact PySem.EqNone.eq_bool_none (fin_bl I q (by simp))
    | bl j => cases ry; exact eq_bool (fin_bl I q dec_bl)
    | str j => obtain ⟨t', rfl⟩ := ry; exact PySem.EqMixed.eq_bool_str (fin_bl I q (by simp))
    | _ => exact absurd (show false = true from hs) Bool.false_ne_true
  | int i =>
    obtain ⟨t, rfl⟩ := rx
    cases y with
    | non => cases ry; exact PySem.EqNone.eq_int_none (fin_bl I q (by simp))
    | int j => obtain ⟨t', rfl⟩ := ry; exact eq_int (fin_bl I q dec_int)
    | str j => obtain ⟨t', rfl⟩ := ry; exact PySem.EqMixed.eq_int_str (fin_bl I q (by simp))
    | _ => exact absurd (show false = true from hs) Bool.false_ne_true
  | str i =>
    obtain ⟨t, rfl⟩ := rx
    cases y with
    | non => cases ry; exact PySem.EqNone.eq_str_none (fin_bl I q (by simp))
    | bl j => cases ry; exact PySem.EqMixed.eq_str_bool (fin_bl I q (by simp))
    | int j => obtain ⟨t', rfl⟩ := ry; exact PySem.EqMixed.eq_str_int (fin_bl I q (by simp))
    | str j => obtain ⟨t', rfl⟩ := ry; exact eq_str (fin_bl I q dec_str)
    | _ => exact absurd (show false = true from hs) Bool.false_ne_true
  | byt i =>
    obtain ⟨t, rfl⟩ := rx
    cases y with
    | byt j => obtain ⟨t', rfl⟩ := ry; exact PySem.W.eq_bytes (fin_bl I q dec_byt)
    | _ => exact absurd (show false = true from hs) Bool.false_ne_true
  | _ => cases y <;> exact absurd (show false = true from hs) Bool.false_ne_true
theorem op_ne : OpR X (compareOp .NotEq) rNe := by
  intro pins s σ H x y v u Q I rx ry h
  obtain ⟨hs, q⟩ := h
  cases x with
  | non =>
    cases rx
    cases y with
    | non => cases ry; exact PySem.EqNone.ne_none_none (fin_bl I q (by simp))
    | bl j => cases ry; exact PySem.EqNone.ne_none_bool (fin_bl I q (by simp))
    | int j => obtain ⟨t', rfl⟩ := ry; exact PySem.EqNone.ne_none_int (fin_bl I q (by simp))
    | str j => obtain ⟨t', rfl⟩ := ry; exact PySem.EqNone.ne_none_str (fin_bl I q (by simp))
    | _ => exact absurd (show false = true from hs) Bool.false_ne_true
  | bl i =>
    cases rx
    cases y with
    | non => cases ry; exact PySem.EqNone.ne_bool_none (fin_bl I q (by simp))
    | bl j => cases ry; exact ne_bool (fin_bl I q (congrArg not dec_bl))
    | str j => obtain ⟨t', rfl⟩ := ry; exact PySem.EqMixed.ne_bool_str (fin_bl I q (by simp))
    | _ => exact absurd (show false = true from hs) Bool.false_ne_true
  | int i =>
    obtain ⟨t, rfl⟩ := rx
    cases y with
    | non => cases ry; exact PySem.EqNone.ne_int_none (fin_bl I q (by simp))
    | int j => obtain ⟨t', rfl⟩ := ry; exact ne_int (fin_bl I q (congrArg not dec_int))
    | str j => obtain ⟨t', rfl⟩ := ry; exact PySem.EqMixed.ne_int_str (fin_bl I q (by simp))
    | _ => exact absurd (show false = true from hs) Bool.false_ne_true
  | str i =>
    obtain ⟨t, rfl⟩ := rx
    cases y with
    | non => cases ry; exact PySem.EqNone.ne_str_none (fin_bl I q (by simp))
    | bl j => cases ry; exact PySem.EqMixed.ne_str_bool (fin_bl I q (by simp))
    | int j => obtain ⟨t', rfl⟩ := ry; exact PySem.EqMixed.ne_str_int (fin_bl I q (by simp))
    | str j => obtain ⟨t', rfl⟩ := ry; exact ne_str (fin_bl I q (congrArg not dec_str))
    | _ => exact absurd (show false = true from hs) Bool.false_ne_true
  | byt i =>
    obtain ⟨t, rfl⟩ := rx
    cases y with
    | byt j => obtain ⟨t', rfl⟩ := ry; exact PySem.W.ne_bytes (fin_bl I q (congrArg not dec_byt))
    | _ => exact absurd (show false = true from hs) Bool.false_ne_true
  | _ => cases y <;> exact absurd (show false = true from hs) Bool.false_ne_true
theorem op_lt : OpR X (compareOp .Lt) (rI0 fun i j => .bl (decide (i < j))) := opB0 fun _ _ _ _ _ _ _ q => lt_int q
theorem op_le : OpR X (compareOp .LtE) (rI0 fun i j => .bl (decide (i ≤ j))) := opB0 fun _ _ _ _ _ _ _ q => le_int q
theorem op_gt : OpR X (compareOp .Gt) (rI0 fun i j => .bl (decide (j < i))) := opB0 fun _ _ _ _ _ _ _ q => gt_int q
theorem op_ge : OpR X (compareOp .GtE) (rI0 fun i j => .bl (decide (j ≤ i))) := opB0 fun _ _ _ _ _ _ _ q => ge_int q
theorem op_isN : OpR X (compareOp .Is) (fun x y H Q => y = .non ∧ Q (.bl (decide (x = .non))) H) := by
  intro pins s σ H x y v u Q I rx ry h
  obtain ⟨rfl, q⟩ := h
  cases ry
  refine is_none_gen (fin_bl I q ?_)
  cases x <;> first
    | (cases rx; rfl)
    | (obtain ⟨t, rfl⟩ := rx; rfl)
theorem OpR.or {f : Value → Value → Sem Value} {r r' : R2} (h : OpR X f r) (h' : OpR X f r') : OpR X f (fun x y H Q => r x y H Q ∨ r' x y H Q) := by
  intro pins s σ H x y v u Q I rx ry q
  rcases q with q | q
  · exact h pins s σ H x y v u Q I rx ry q
  · exact h' pins s σ H x y v u Q I rx ry q
theorem nomark (b : Expr) {op : CmpOp} (h : op ≠ .In := by decide) (h2 : op ≠ .NotIn := by decide) : behindInMarks op b = false := by
  have e1 : (op == CmpOp.In) = false := by cases op <;> first | rfl | exact absurd rfl h
  have e2 : (op == CmpOp.NotIn) = false := by cases op <;> first | rfl | exact absurd rfl h2
  cases b <;> simp [behindInMarks, e1, e2]
theorem pe_cmpR {op : CmpOp} {r : R2} (ho : OpR X (compareOp op) r) (ha : PE X a ta) (hb : PE X b tb) (hm : behindInMarks op b = false) : PE X (.Compare a [op] [b] pos) (tOp r ta tb) := by
  intro pins s σ H Q I h
  exact wpAny_Compare1 (binT ha hb I h fun v u s2 x y H2 I2 rx ry q => ho pins s2 σ H2 x y v u Q I2 rx ry q) hm
def tTest (t : TE) : TT := fun σ H Q => t σ H fun x H' => ∃ k, x = .bl k ∧ Q k H'
theorem pt_cmpR {op : CmpOp} {r : R2} (ho : OpR X (compareOp op) r) (ha : PE X a ta) (hb : PE X b tb) (hm : behindInMarks op b = false) : PT X (.Compare a [op] [b] pos) (tTest (tOp r ta tb)) := by
  intro pins s σ H Q I h
  refine wpAny_isTrue_Compare1 (thn (ha pins s σ H _ I h) fun v s1 ⟨x, H1, I1, r1, q1⟩ => thn (hb pins s1 σ H1 _ I1 q1) fun u s2 ⟨y, H2, I2, r2, q2⟩ =>
    thn (ho pins s2 σ H2 x y v u _ I2 r1 r2 q2) fun c s3 ⟨z, H3, I3, r3, k, e, q3⟩ => ?_) hm
  subst e
  cases r3
  exact wpAny_truthy_bool ⟨H3, I3, q3⟩
def tChain (r r' : R2) (ta tb tc : TE) : TE := fun σ H Q => ta σ H fun x H1 => tb σ H1 fun y H2 => r x y H2 fun z H3 => ∃ k, z = .bl k ∧
  (if k = true then tc σ H3 fun w' H4 => r' y w' H4 Q else Q (.bl false) H3)
theorem pe_chain {op op' : CmpOp} {r r' : R2} (ho : OpR X (compareOp op) r) (ho' : OpR X (compareOp op') r') (ha : PE X a ta) (hb : PE X b tb) (hc : PE X c tc)
    (hm : lastMarks [op, op'] [b, c] = false := by with_unfolding_all rfl) : PE X (.Compare a [op, op'] [b, c] pos) (tChain r r' ta tb tc) := by
  intro pins s σ H Q I h
  refine Compare_chain (thn (ha pins s σ H _ I h) fun v s1 ⟨x, H1, I1, r1, q1⟩ => chain_link (thn (hb pins s1 σ H1 _ I1 q1) fun u s2 ⟨y, H2, I2, r2, q2⟩ =>
    thn (ho pins s2 σ H2 x y v u _ I2 r1 r2 q2) fun d s3 ⟨z, H3, I3, r3, k, e, q3⟩ => ?_)) hm
  subst e
  cases r3
  refine wpAny_truthy_bool ?_
  cases k with
  | false => exact ite_ff ⟨.bl false, H3, I3, rfl, q3⟩
  | true => exact ite_tt (chain_last (thn (hc pins s3 σ H3 _ I3 q3) fun w' s4 ⟨z', H4, I4, r4, q4⟩ => ho' pins s4 σ H4 y z' u w' Q I4 r2 r4 q4))
theorem pt_chain {op op' : CmpOp} {r r' : R2} (ho : OpR X (compareOp op) r) (ho' : OpR X (compareOp op') r') (ha : PE X a ta) (hb : PE X b tb) (hc : PE X c tc)
    (hm : lastMarks [op, op'] [b, c] = false := by with_unfolding_all rfl) : PT X (.Compare a [op, op'] [b, c] pos) (tTest (tChain r r' ta tb tc)) := by
  intro pins s σ H Q I h
  refine isTrue_chain (thn (ha pins s σ H _ I h) fun v s1 ⟨x, H1, I1, r1, q1⟩ => test_link (thn (hb pins s1 σ H1 _ I1 q1) fun u s2 ⟨y, H2, I2, r2, q2⟩ =>
    thn (ho pins s2 σ H2 x y v u _ I2 r1 r2 q2) fun d s3 ⟨z, H3, I3, r3, k, e, q3⟩ => ?_)) hm
  subst e
  cases r3
  refine wpAny_truthy_bool ?_
  cases k with
  | false =>
    obtain ⟨k', e', q'⟩ := q3
    cases e'
    exact ite_ff ⟨H3, I3, q'⟩
  | true =>
    refine ite_tt (test_last (thn (hc pins s3 σ H3 _ I3 q3) fun w' s4 ⟨z', H4, I4, r4, q4⟩ => thn (ho' pins s4 σ H4 y z' u w' _ I4 r2 r4 q4) fun d' s5 ⟨z2, H5, I5, r5, k2, e2, q5⟩ => ?_))
    subst e2
    cases r5
    exact wpAny_truthy_bool ⟨H5, I5, q5⟩
theorem line63 : (sizeLine : Nat) < 2 ^ 63 := by rw [sizeLine_eq]; decide
theorem vals1 {x : V} {us : List Value} (r : Vals [x] us) : ∃ u, us = [u] ∧ RelV x u := by
  cases r with
  | cons r1 r2 => cases r2; exact ⟨_, rfl, r1⟩
theorem vals2 {x y : V} {us : List Value} (r : Vals [x, y] us) : ∃ u w', us = [u, w'] ∧ RelV x u ∧ RelV y w' := by
  cases r with
  | cons r1 r2 =>
    cases r2 with
    | cons r3 r4 => cases r4; exact ⟨_, _, rfl, r1, r3⟩
theorem call_max2 (hc : X.calm = true) : CallR X (.builtin "max") (fun xs H Q => ∃ i j, xs = [.int i, .int j] ∧ Q (.int (if j > i then j else i)) H) := by
  intro pins s σ H xs us Q I r h
  obtain ⟨i, j, rfl, q⟩ := h
  obtain ⟨u, w', rfl, ⟨t, rfl⟩, ⟨t', rfl⟩⟩ := vals2 r
  refine max_two_ints (I.ok.hd hc) fun h' tk k => ⟨_, H, I.kept k, ?_, q⟩
  by_cases hj : j > i
  · rw [if_pos hj, if_pos hj]; exact ⟨_, rfl⟩
  · rw [if_neg hj, if_neg hj]; exact ⟨_, rfl⟩
theorem call_min2 (hc : X.calm = true) : CallR X (.builtin "min") (fun xs H Q => ∃ i j, xs = [.int i, .int j] ∧ Q (.int (if j < i then j else i)) H) := by
  intro pins s σ H xs us Q I r h
  obtain ⟨i, j, rfl, q⟩ := h
  obtain ⟨u, w', rfl, ⟨t, rfl⟩, ⟨t', rfl⟩⟩ := vals2 r
  refine min_two_ints (I.ok.hd hc) fun h' tk k => ⟨_, H, I.kept k, ?_, q⟩
  by_cases hj : j < i
  · rw [if_pos hj, if_pos hj]; exact ⟨_, rfl⟩
  · rw [if_neg hj, if_neg hj]; exact ⟨_, rfl⟩
theorem call_int1 : CallR X (.type "int") (fun xs H Q => (∃ i, xs = [.int i] ∧ Q (.int i) H) ∨ ∃ k, xs = [.bl k] ∧ Q (.int (if k then 1 else 0)) H) := by
  intro pins s σ H xs us Q I r h
  rcases h with ⟨i, rfl, q⟩ | ⟨k, rfl, q⟩
  · obtain ⟨u, rfl, t, rfl⟩ := vals1 r
    exact call_int_int ⟨.int i, H, I, ⟨_, rfl⟩, q⟩
  · obtain ⟨u, rfl, r1⟩ := vals1 r
    cases r1
    exact call_int_bool ⟨.int (if k then 1 else 0), H, I.tok _, ⟨_, rfl⟩, q⟩
end
end L2
namespace L2
open PySem PySem.Spec PyProof.Rows
structure ObjM (h : Heap) (x dx C : Addr) (mA : Str → Option Value) : Prop where
  obj : h.get? x = some (PySem.W.instObj C dx)
  ns : h.Ns1 dx mA
  ne : dx ≠ x
theorem lookIn_ns {h : Heap} {dx : Addr} {mA : Str → Option Value} (n : h.Ns1 dx mA) : ∃ od, h.get? dx = some od ∧ ∀ name, PySem.W.lookIn name od = some (mA name) := by
  obtain ⟨o, es, ep, ho, hd, hk, _, hm⟩ := n
  refine ⟨o, ho, fun name => ?_⟩
  have e := hm name
  unfold nsFind findBy at e
  rw [← Array.find?_toList] at e
  unfold PySem.W.lookIn
  rw [hd]
  dsimp only
  split
  · rename_i y q
    rw [q] at e
    exact congrArg some e
  · rename_i q
    rw [q] at e
    have a : es.toList.any (·.refKey) = false := by
      rw [List.any_eq_false]
      intro y hy
      obtain ⟨z, t, hkey⟩ := hk y (Array.mem_toList_iff.mp hy)
      simp [DictEntry.refKey, hkey]
    have a' : ¬ es.toList.any (·.refKey) = true := by rw [a]; exact Bool.false_ne_true
    rw [if_neg a']
    exact congrArg some e
theorem ObjM.look {h : Heap} {x dx C : Addr} {mA : Str → Option Value} (I : ObjM h x dx C mA) : ∃ od, PySem.W.InstAt h x (PySem.W.instObj C dx) C (some od) ∧ ∀ name, PySem.W.lookIn name od = some (mA name) :=
  let ⟨od, ho, hl⟩ := lookIn_ns I.ns
  ⟨od, ⟨I.obj, rfl, rfl, ho⟩, hl⟩
section
variable {prog : Program} {w : World} {A : Around} {E : Value → Shared → Prop} {s : Shared} {K : PySem.W.Frag} {x dx C f : Addr} {mA : Str → Option Value} {name : Str} {v : Value}
end
def putF (f : Str) (v : V) : List (Str × V) → List (Str × V)
  | [] => [(f, v)]
  | (g, x) :: r => if g = f then (g, v) :: r else (g, x) :: putF f v r
theorem lookup_putF (f g : Str) (v : V) : ∀ fs : List (Str × V), (putF f v fs).lookup g = if g = f then some v else fs.lookup g
  | [] => by
    show List.lookup g [(f, v)] = _
    by_cases h : g = f
    · have hb : (g == f) = true := beq_iff_eq.mpr h
      simp only [List.lookup, hb, if_pos h]
    · have hb : (g == f) = false := beq_eq_false_iff_ne.mpr h
      simp only [List.lookup, hb, if_neg h]
  | (k, x) :: r => by
    have ih := lookup_putF f g v r
    rw [show putF f v ((k, x) :: r) = (if k = f then (k, v) :: r else (k, x) :: putF f v r) from rfl]
    by_cases hk : k = f
    · rw [if_pos hk]
      by_cases h : g = k
      · have hb : (g == k) = true := beq_iff_eq.mpr h
        simp only [List.lookup, hb, if_pos (h.trans hk)]
      · have hb : (g == k) = false := beq_eq_false_iff_ne.mpr h
        simp only [List.lookup, hb, if_neg (fun e : g = f => h (e.trans hk.symm))]
    · rw [if_neg hk]
      by_cases h : g = k
      · have hb : (g == k) = true := beq_iff_eq.mpr h
        simp only [List.lookup, hb, if_neg (fun e : g = f => hk (h.symm.trans e))]
      · have hb : (g == k) = false := beq_eq_false_iff_ne.mpr h
        simp only [List.lookup, hb]
        exact ih
theorem RelO.some_of {v : V} {o : Option Value} (r : RelO (some v) o) : ∃ u, o = some u ∧ RelV v u := by
  cases o with
  | none => exact (show False from r).elim
  | some u => exact ⟨u, rfl, r⟩
theorem RelO.none_of {o : Option Value} (r : RelO none o) : o = none := by
  cases o with
  | none => rfl
  | some u => exact (show False from r).elim
section
variable {P : Program} {w : World} {H H' : Hp} {h h' : Heap} {a C dx : Addr} {fs fs' : List (Str × V)}
theorem ins_get (hok : HOk P w H h) (e : H a = some (.ins C dx fs)) : ∃ mA, ObjM h a dx C mA ∧ (∀ f, RelO (fs.lookup f) (mA f)) ∧ PySem.Within mA (fs.map (·.1)) ∧ fs.length ≤ 1000 ∧ H dx = some (.own a) := by
  obtain ⟨d, z, ne, ob, mA, n, r, q⟩ := (show ObjOk P w H h a (.ins C dx fs) from hok a _ e)
  exact ⟨mA, ⟨ob, n, ne⟩, r, q, z, d⟩
end
structure Cls (K : PySem.W.Frag) (C : Addr) : Prop where
  pg : PySem.W.plainGet K C Str.empty = true
  hd : PySem.W.hasDictIn K C = true
  po : PySem.W.plainOver K C = true
  sa : PySem.W.findIn K (.ref C) "__setattr__" = some (some (.builtin "object.__setattr__"))
theorem Cls.get {K : PySem.W.Frag} {C : Addr} (c : Cls K C) (f : Str) : PySem.W.plainGet K C f = true := c.pg
def NoAttr (K : PySem.W.Frag) (C : Addr) (f : Str) : Prop := PySem.W.findIn K (.ref C) f = some none
structure Con (K : PySem.W.Frag) (C : Addr) (f : Str) (v : V) (u : Value) : Prop where
  at_ : PySem.W.findIn K (.ref C) f = some (some u)
  rel : RelV v u
  get : PySem.W.specialIn K u "__get__" = some none
  cp : PySem.W.copiedNames.contains f = false
structure Meth (K : PySem.W.Frag) (C : Addr) (m : Str) (f : Addr) : Prop where
  at_ : PySem.W.findIn K (.ref C) m = some (some (.ref f))
  fn : PySem.W.isFn K (.ref f) = true
  kp : PySem.W.keepIn K (.ref f) = true
section
variable {X : Cx} {pins : List (Addr × Obj)} {σ : St} {H : Hp} {s : Shared} {a C dx : Addr} {fs : List (Str × V)} {f : Str} {v : V} {A : Around} {E : Value → Shared → Prop}
theorem Inv.made (I : Inv X pins σ H s) : Inv X pins σ (upd (upd H s.heap.objs.size (.own (s.heap.objs.size + 1))) (s.heap.objs.size + 1) (.ins C s.heap.objs.size []))
    { s with heap := (s.heap.push PySem.W.emptyDict).push (PySem.W.instObj C s.heap.objs.size) } := by
  have e1 : (s.heap.push PySem.W.emptyDict).get? s.heap.objs.size = some PySem.W.emptyDict := Heap.get?_push_size s.heap rfl
  have e2 : ((s.heap.push PySem.W.emptyDict).push (PySem.W.instObj C s.heap.objs.size)).get? (s.heap.objs.size + 1) = some (PySem.W.instObj C s.heap.objs.size) := by
    have := Heap.get?_push_size (s.heap.push PySem.W.emptyDict) (o := PySem.W.instObj C s.heap.objs.size) rfl
    rwa [Heap.size_push] at this
  have e3 : (s.heap.push PySem.W.emptyDict).Ns s.heap.objs.size (fun _ => none) := ⟨PySem.W.emptyDict, #[], _, e1, rfl, (fun e he => absurd he (by simp)), fun _ => rfl⟩
  have I1 := I.laid (a := s.heap.objs.size) (o := .own (s.heap.objs.size + 1)) (h' := s.heap.push PySem.W.emptyDict) (t' := s.toks) (fun b u q => Heap.get?_push_of_some _ q) (Nat.le_refl _) ⟨_, e1⟩
  refine I1.laid (a := s.heap.objs.size + 1) (o := .ins C s.heap.objs.size []) (t' := s.toks) (fun b u q => Heap.get?_push_of_some _ q) (Nat.le_of_eq (Heap.size_push _ _)) ?_
  have ne : s.heap.objs.size ≠ s.heap.objs.size + 1 := Nat.ne_of_lt (Nat.lt_succ_self _)
  refine ⟨by rw [upd_ne ne, upd_same], Nat.zero_le _, ne, e2, fun _ => none, (Heap.Ns1.of_empty e3).at fun o q => Heap.get?_push_of_some _ q, fun _ => True.intro, fun y hy => absurd rfl hy⟩
theorem attr_of {prog : Program} {w : World} {env : Env} {e : Expr} {f : Str} {pos : Pos} {s : Shared} {Q : Value → Shared → Prop} (hb : attributeBase e f env (eval e env) = eval e env)
    (h : wpAny (model prog w) A (eval e env) (fun o s₁ => wpAny (model prog w) A (getAttr o f true) Q E s₁) E s) : wpAny (model prog w) A (eval (.Attribute e f pos) env) Q E s :=
  Attribute_any_ h (by rw [arm_eval_Attribute, hb])
end
section
variable {X : Cx} {o e value : Expr} {f : Str} {pos pos' tpos : Pos} {ta tv : TE}
end
section
variable {X : Cx} {pins : List (Addr × Obj)} {σ : St} {H : Hp} {s : Shared} {A : Around} {E : Value → Shared → Prop} {Q : Value → Shared → Prop} {c : Value} {b : Bool}
inductive TyOf (K : PySem.W.Frag) (H : Hp) : V → Value → Prop where
  | non : TyOf K H .non (.type "NoneType")
  | bl (x : Bool) : TyOf K H (.bl x) (.type "bool")
  | int (i : Int) : TyOf K H (.int i) (.type "int")
  | str (x : Str) : TyOf K H (.str x) (.type "str")
  | flt (x : UInt64) : TyOf K H (.flt x) (.type "float")
  | lst {a : Addr} {xs : List V} (e : H a = some (.lst xs)) : TyOf K H (.ref a) (.type "list")
  | frz {a : Addr} {o : Obj} {xs : List V} (e : H a = some (.frz o (.lst xs))) : TyOf K H (.ref a) (.type "list")
  | tup {a : Addr} {xs : List V} (e : H a = some (.tup xs)) : TyOf K H (.ref a) (.type "tuple")
  | dK {a : Addr} {kvs : List (Key × V)} (e : H a = some (.dK kvs)) : TyOf K H (.ref a) (.type "dict")
  | dT {a : Addr} {kvs : List (List Key × V)} (e : H a = some (.dT kvs)) : TyOf K H (.ref a) (.type "dict")
  | ins {a C dx : Addr} {fs : List (Str × V)} (e : H a = some (.ins C dx fs)) (cl : Cls K C) (ha : PySem.W.findIn K (.ref C) "__class__" = some (some (.builtin "object.__class__")))
      (hn : PySem.W.specialIn K (.builtin "object.__class__") "__get__" = some (some (.builtin "getset_descriptor.__get__"))) (htk : PySem.W.takesIn K (.builtin "object.__class__") = some true)
      (hm : PySem.W.mroIn K C (.type "object") = some true) : TyOf K H (.ref a) (.ref C)
theorem isinst_ok {x : V} {u t : Value} (I : Inv X pins σ H s) (rx : RelV x u) (ty : TyOf X.K H x t) (e : PySem.W.kitOne X.K t c = some b) (h : ∀ tk, Q (.bool b) { s with toks := tk }) :
    wpAny (model X.prog X.w) A (call (.builtin "isinstance") [u, c]) Q E s := by
  cases ty with
  | non => cases (show u = Value.none from rx); exact PySem.W.kia_one PySem.W.kitx_none I.kIn True.intro e (fun z => nomatch z) h
  | bl y => cases (show u = Value.bool y from rx); exact PySem.W.kia_one PySem.W.kitx_bool I.kIn True.intro e (fun z => nomatch z) h
  | int i => obtain ⟨t, q⟩ := (show ∃ t, u = Value.int i t from rx); cases q; exact PySem.W.kia_one PySem.W.kitx_int I.kIn True.intro e (fun z => nomatch z) h
  | str y => obtain ⟨t, q⟩ := (show ∃ t, u = Value.str y t from rx); cases q; exact PySem.W.kia_one PySem.W.kitx_str I.kIn True.intro e (fun z => nomatch z) h
  | flt y => obtain ⟨t, q⟩ := (show ∃ t, u = Value.float y t from rx); cases q; exact PySem.W.kia_one PySem.W.kitx_float I.kIn True.intro e (fun z => nomatch z) h
  | @lst a xs ea =>
    cases (show u = Value.ref a from rx)
    obtain ⟨_, _, n, _, h1⟩ := (show ObjOk X.prog X.w H s.heap a (.lst xs) from I.hok a _ ea)
    exact PySem.W.kia_one PySem.W.kitx_list I.kIn ⟨_, h1, rfl⟩ e (fun z => nomatch z) h
  | @frz a ob xs ea =>
    cases (show u = Value.ref a from rx)
    obtain ⟨_, _, _, n, _, h1⟩ := (show ObjOk X.prog X.w H s.heap a (.frz ob (.lst xs)) from I.hok a _ ea)
    exact PySem.W.kia_one PySem.W.kitx_list I.kIn ⟨_, h1, rfl⟩ e (fun z => nomatch z) h
  | @tup a xs ea =>
    cases (show u = Value.ref a from rx)
    obtain ⟨_, _, _, p⟩ := (show ObjOk X.prog X.w H s.heap a (.tup xs) from I.hok a _ ea)
    obtain ⟨o, h1, h2, _⟩ := p
    exact PySem.W.kia_one PySem.W.kitx_tuple I.kIn ⟨o, h1, h2⟩ e (fun z => nomatch z) h
  | @dK a kvs ea =>
    cases (show u = Value.ref a from rx)
    obtain ⟨_, _, vs, _, p⟩ := (show ObjOk X.prog X.w H s.heap a (.dK kvs) from I.hok a _ ea)
    obtain ⟨o, es, ep, h1, h2, _⟩ := p
    exact PySem.W.kia_one PySem.W.kitx_dict I.kIn ⟨o, h1, h2.1⟩ e (fun z => nomatch z) h
  | @dT a kvs ea =>
    cases (show u = Value.ref a from rx)
    obtain ⟨_, _, xs, _, o, es, ep, h1, h2, _⟩ := (show ObjOk X.prog X.w H s.heap a (.dT kvs) from I.hok a _ ea)
    exact PySem.W.kia_one PySem.W.kitx_dict I.kIn ⟨o, h1, h2.1⟩ e (fun z => nomatch z) h
  | @ins a C dx fs ea cl ha hn htk hm =>
    cases (show u = Value.ref a from rx)
    obtain ⟨mA, O, _⟩ := ins_get I.hok ea
    obtain ⟨od, J, _⟩ := O.look
    exact PySem.W.kia_one (PySem.W.kitx_own (cl.get _) cl.hd ha hn htk hm) I.kIn J e (fun z => nomatch z) h
end
end L2
namespace L2
open PySem PySem.Spec PyProof.Rows
structure Room (k : Nat) (A : Around) : Prop where
  hd : A.handled = none
  dp : A.depth + 3 * k + 5 < recursionLimit
  un : A.units + 16 * k + 200 < cLine
theorem Room.mono {j k : Nat} {A : Around} (r : Room k A) (h : j ≤ k) : Room j A := ⟨r.hd, by have := r.dp; omega, by have := r.un; omega⟩
theorem Room.deeper {k : Nat} {A : Around} (r : Room (k + 1) A) (env : Env) : Room k (A.deeper env) :=
  ⟨r.hd, by have := r.dp; show A.depth + 1 + 3 * k + 5 < _; omega, by have := r.un; show A.units + 3 + 16 * k + 200 < _; omega⟩
theorem Room.in1 {k : Nat} {A : Around} (r : Room (k + 1) A) : Room k A.in1 :=
  ⟨r.hd, by have := r.dp; show A.depth + 3 * k + 5 < _; omega, by have := r.un; show A.units + 1 + 16 * k + 200 < _; omega⟩
theorem make_depth {A : Around} {C : Addr} {us : List Value} {kw : List (Str × Value)} : (A.under (.builtin "type.__call__" ⟨.ref C :: us, kw⟩)).depth = A.depth + 1 := by
  first | rfl | simp [Around.under, Code.weight, Code.isCreation, Code.isGuard, Code.isCaller, Code.frames, Code.isFrame, guardIds]
theorem make_units {A : Around} {C : Addr} {us : List Value} {kw : List (Str × Value)} : (A.under (.builtin "type.__call__" ⟨.ref C :: us, kw⟩)).units = A.units + 1 := by
  first | rfl | simp [Around.under, Code.cUnits, Code.frames, Code.isFrame]
theorem Room.make {k : Nat} {A : Around} (r : Room (k + 1) A) (C : Addr) (us : List Value) (kw : List (Str × Value)) : Room k (A.under (.builtin "type.__call__" ⟨.ref C :: us, kw⟩)) :=
  ⟨r.hd, by have := r.dp; rw [make_depth]; omega, by have := r.un; rw [make_units]; omega⟩
theorem Room.depth {k : Nat} {A : Around} (r : Room k A) : A.depth < recursionLimit := by have := r.dp; omega
theorem Room.units {k : Nat} {A : Around} (r : Room k A) : A.units + 64 < cLine := by have := r.un; omega
def tNil : TA := fun _ H Q => Q [] H
def tCons (ta : TE) (tr : TA) : TA := fun σ H Q => ta σ H fun x H1 => tr σ H1 fun xs H2 => Q (x :: xs) H2
section
variable {X : Cx} {e : Expr} {es : List Expr} {te : TE} {t : TA} {pos : Pos}
theorem pa_nil : PA X [] tNil := fun _ _ _ _ H Q I h => Calls.spliced_nil ⟨[], H, I, .nil, h⟩
theorem pa_cons (ha : PE X e te) (hr : PA X es t) (hs : starEach (e :: es) X.env = (false, eval e X.env) :: starEach es X.env := by rfl) : PA X (e :: es) (tCons te t) := by
  intro pos pins s σ H Q I h
  rw [hs]
  show wpAny _ _ (spliced ((false, eval e X.env) :: backTo pos (starEach es X.env))) _ _ s
  refine Calls.spliced_cons (thn (ha pins s σ H _ I h) fun u s1 ⟨x, H1, I1, r1, q1⟩ => ?_)
  exact thn (hr pos pins s1 σ H1 _ I1 q1) fun us s2 ⟨xs, H2, I2, r2, q2⟩ => ⟨x :: xs, H2, I2, .cons r1 r2, q2⟩
def tTup (t : TA) : TE := fun σ H Q => t σ H fun xs H1 => xs.length ≤ sizeLine ∧ ∀ p, H1 p = none → Q (.ref p) (upd H1 p (.tup xs))
def tLst (t : TA) : TE := fun σ H Q => t σ H fun xs H1 => xs.length ≤ sizeLine ∧ ∀ p, H1 p = none → Q (.ref p) (upd H1 p (.lst xs))
theorem pe_tup {x1} (h : PA X es t) : PE X (.Tuple es x1 pos) (tTup t) := by
  intro pins s σ H Q I hq
  refine wpAny_Tuple_spliced (thn (h pos pins s σ H _ I hq) fun us s1 ⟨xs, H1, I1, r, z, q⟩ => ⟨by rw [← r.length]; exact z, ?_⟩)
  have hf : H1 s1.heap.objs.size = none := I1.hok.fresh (Nat.le_refl _)
  refine ⟨.ref s1.heap.objs.size, upd H1 s1.heap.objs.size (.tup xs), I1.laid (t' := s1.toks) (fun b u e => Heap.get?_push_of_some _ e) (Nat.le_refl _) ?_, rfl, q _ hf⟩
  exact ⟨z, us, r, ⟨_, Heap.get?_push_size _ rfl, rfl, _, rfl⟩⟩
theorem pe_lst (h : PA X es t) : PE X (.List es pos) (tLst t) := by
  intro pins s σ H Q I hq
  refine wpAny_List_spliced (thn (h pos pins s σ H _ I hq) fun us s1 ⟨xs, H1, I1, r, z, q⟩ => ⟨by rw [← r.length]; exact z, ?_⟩)
  have hf : H1 s1.heap.objs.size = none := I1.hok.fresh (Nat.le_refl _)
  refine ⟨.ref s1.heap.objs.size, upd H1 s1.heap.objs.size (.lst xs), I1.laid (t' := s1.toks) (fun b u e => Heap.get?_push_of_some _ e) (Nat.le_refl _) ?_, rfl, q _ hf⟩
  exact ⟨z, us, 0, r, Heap.get?_push_size _ rfl⟩
end
abbrev Sp := List V → Hp → VK → XK → Prop
abbrev CXT := List Env → Hp → Shared → XK → Value → Shared → Prop
structure Env0 (P : Program) (w : World) (K : PySem.W.Frag) (mg : Str → Option Value) (base : Heap) (A : Around) (outer : List Env) (s : Shared) (H : Hp) : Prop where
  frames : A.frames = some outer
  mod : Mod K mg base
  bs : ∀ b o, base.get? b = some o → s.heap.get? b = some o ∧ H b = none
  bsz : base.objs.size ≤ s.heap.objs.size
  funs : s.heap.FunFrames base outer
  frf : ∀ b ∈ frs outer, H b = none
  hok : HOk P w H s.heap
  bare : AllBare s.gens
def CE (outer : List Env) (P : Program) (w : World) (H : Hp) (s : Shared) (Q : VK) (u : Value) (s' : Shared) : Prop :=
  ∃ v H', s'.os = s.os ∧ AllBare s'.gens ∧ Un (frs outer) [] H H' s.heap s'.heap ∧ HOk P w H' s'.heap ∧ RelV v u ∧ Q v H'
def CR (CX : CXT) (outer : List Env) (P : Program) (w : World) (H : Hp) (s : Shared) (Q : VK) (E : XK) (r : Result) (s' : Shared) : Prop :=
  match r with
  | .ok (.ret u) => CE outer P w H s Q u s'
  | .ok _ => False
  | .error e => CX outer H s E e s'
structure FnOk (P : Program) (w : World) (K : PySem.W.Frag) (mg : Str → Option Value) (base : Heap) (CX : CXT) (k : Nat) (f : Addr) (fd : FuncData) (ps : List Str) (sp : Sp) : Prop where
  len : ∀ vs H Q E, sp vs H Q E → vs.length = ps.length
  run : ∀ (A : Around) (outer : List Env) (s : Shared) (H : Hp) (args : Args) (us : List Value) (vs : List V) (Q : VK) (E : XK), Room k A → Env0 P w K mg base A outer s H → BindsTo s fd args (ps.zip us) → Vals vs us → sp vs H Q E →
    codeAny (model P w) A (.call (.ref f) args) (CR CX outer P w H s Q E) s
theorem FnOk.mono {P : Program} {w : World} {K : PySem.W.Frag} {mg : Str → Option Value} {base : Heap} {CX : CXT} {j k : Nat} {f : Addr} {fd : FuncData} {ps : List Str} {sp : Sp} (F : FnOk P w K mg base CX j f fd ps sp) (h : j ≤ k) :
    FnOk P w K mg base CX k f fd ps sp := ⟨F.len, fun A outer s H args us vs Q E hr => F.run A outer s H args us vs Q E (hr.mono h)⟩
theorem FnOk.imp {P : Program} {w : World} {K : PySem.W.Frag} {mg : Str → Option Value} {base : Heap} {CX : CXT} {k : Nat} {f : Addr} {fd : FuncData} {ps : List Str} {sp sp' : Sp} (F : FnOk P w K mg base CX k f fd ps sp)
    (h : ∀ vs H Q E, sp' vs H Q E → sp vs H Q E) : FnOk P w K mg base CX k f fd ps sp' :=
  ⟨fun vs H Q E q => F.len vs H Q E (h _ _ _ _ q), fun A outer s H args us vs Q E hr he hb hv hs => F.run A outer s H args us vs Q E hr he hb hv (h _ _ _ _ hs)⟩
theorem Env0.make {P : Program} {w : World} {K : PySem.W.Frag} {mg : Str → Option Value} {base : Heap} {A : Around} {outer : List Env} {s : Shared} {H : Hp} (e : Env0 P w K mg base A outer s H) (C : Addr) (us : List Value) (kw : List (Str × Value)) :
    Env0 P w K mg base (A.under (.builtin "type.__call__" ⟨.ref C :: us, kw⟩)) outer s H := ⟨by first | exact e.frames | (simpa [Around.under, Code.envs, Code.isFrame, pushEnvs] using e.frames), e.mod, e.bs, e.bsz, e.funs, e.frf, e.hok, e.bare⟩
theorem Env0.in1 {P : Program} {w : World} {K : PySem.W.Frag} {mg : Str → Option Value} {base : Heap} {A : Around} {outer : List Env} {s : Shared} {H : Hp} (e : Env0 P w K mg base A outer s H) :
    Env0 P w K mg base A.in1 outer s H := ⟨e.frames, e.mod, e.bs, e.bsz, e.funs, e.frf, e.hok, e.bare⟩
section
variable {X : Cx} {pins : List (Addr × Obj)} {σ : St} {H : Hp} {s s' : Shared}
theorem Inv.env0 (I : Inv X pins σ H s) : Env0 X.prog X.w X.K X.mg X.base X.A X.stack s H :=
  ⟨I.ok.frames, I.ok.mod, I.bs, Nat.le_trans I.ok.bsz I.sz, I.stack, I.stkFree, I.hok, I.bare⟩
theorem Inv.after {Q : VK} {u : Value} (I : Inv X pins σ H s) (h : CE X.stack X.prog X.w H s Q u s') : EP X pins σ Q u s' := by
  obtain ⟨v, H', os, bare, un, hok, r, q⟩ := h
  obtain ⟨hh, g, d, t, os'⟩ := s'
  obtain rfl : os' = s.os := os
  exact ⟨v, H', I.call (h' := hh) (g' := g) (d' := d) (t' := t) (ch := []) un hok bare (fun b z => absurd z (by simp)), r, q⟩
end
def tCall (sp : Sp) (dvs : List V) (E : XK) (t : TA) : TE := fun σ H Q => t σ H fun vs H1 => sp (vs ++ dvs) H1 Q E
def Binds (K : PySem.W.Frag) (fd : FuncData) (ps : List Str) (ds : List Value) : Prop :=
  ∀ (s : Shared) (us : List Value), K.In s.heap → (us ++ ds).length = ps.length → BindsTo s fd ⟨us, []⟩ (ps.zip (us ++ ds))
theorem Binds.all {K : PySem.W.Frag} {fd : FuncData} {ps : List Str} (h : ∀ us : List Value, us.length = ps.length → bindArgs fd ⟨us, []⟩ = pure (ps.zip us)) : Binds K fd ps [] := fun s us _ hl => by
  rw [List.append_nil] at hl ⊢
  exact .of_eq (h us hl)
def Passes (CX : CXT) (X : Cx) (E : XK) : Prop := ∀ (pins : List (Addr × Obj)) (σ : St) (H : Hp) (s : Shared) (e : Value) (s' : Shared), Inv X pins σ H s → CX X.stack H s E e s' → X.xe e s'
section
variable {X : Cx} {CX : CXT} {k : Nat} {f C : Addr} {fd : FuncData} {ps : List Str} {sp : Sp} {dvs : List V} {ds : List Value} {E : XK} {x m : Str} {p pos apos : Pos} {e o : Expr} {es : List Expr} {ta : TE} {t : TA}
theorem run_fn {pins : List (Addr × Obj)} {σ : St} {H : Hp} {s : Shared} {Q : VK} {us : List Value} {vs : List V} (F : FnOk X.prog X.w X.K X.mg X.base CX k f fd ps sp) (hr : Room k X.A) (hb : Binds X.K fd ps ds) (hd : Vals dvs ds) (hx : Passes CX X E)
    (I : Inv X pins σ H s) (r : Vals vs us) (h : sp (vs ++ dvs) H Q E) : wpAny (model X.prog X.w) X.A (call (.ref f) us) (EP X pins σ Q) X.xe s := by
  have r2 : Vals (vs ++ dvs) (us ++ ds) := r.append hd
  have hl : (us ++ ds).length = ps.length := by rw [← r2.length]; exact F.len _ _ _ _ h
  refine wpAny_call (codeAny_mono (F.run X.A X.stack s H ⟨us, []⟩ (us ++ ds) (vs ++ dvs) Q E hr I.env0 (hb s us I.kIn hl) r2 h) fun r s' hq => ?_)
  cases r with
  | error e => exact hx pins σ H s e s' I hq
  | ok fl =>
    cases fl with
    | ret u => exact I.after hq
    | next => exact False.elim hq
    | brk => exact False.elim hq
    | cont => exact False.elim hq
theorem pe_call (F : FnOk X.prog X.w X.K X.mg X.base CX k f fd ps sp) (hr : Room k X.A) (hg : Gl X x) (hm : X.mg x = some (.ref f)) (hk : PySem.W.keepIn X.K (.ref f) = true) (hb : Binds X.K fd ps ds) (hd : Vals dvs ds) (hx : Passes CX X E)
    (ha : PA X (e :: es) t) (hdb : (x == ("__debug__" : Str)) = false := by decide) (he : starEach (e :: es) X.env = (false, eval e X.env) :: starEach es X.env := by rfl) (hpl : (backTo pos (starEach es X.env)).any (·.1) = false := by rfl) :
    PE X (.Call (.Name x p) (e :: es) [] pos) (tCall sp dvs E t) := by
  intro pins s σ H Q I h
  refine wpAny_Call_Name_kw (ld_glob I hg hm ?_ hdb)
  refine PySem.W.callWith_K (h₀ := X.base) I.ok.mod.kin hk (thn (ha pos pins s σ H _ I h) fun us s1 ⟨vs, H1, I1, r, q⟩ => ⟨I1.kIn, ?_⟩) he hpl
  exact run_fn F hr hb hd hx I1 r q
structure Mk (K : PySem.W.Frag) (C f : Addr) : Prop where
  makes : PySem.W.makesIn K C = true
  init : PySem.W.findIn K (.ref C) "__init__" = some (some (.ref f))
  fn : PySem.W.isFn K (.ref f) = true
  kp : PySem.W.keepIn K (.ref C) = true
end
section
variable {X : Cx} {CX : CXT} {k : Nat} {f C : Addr} {fd : FuncData} {ps ks : List Str} {sp : Sp} {E : XK} {x m : Str} {p pos apos kpos : Pos} {e o : Expr} {es : List Expr} {kws : List Keyword} {te ta : TE} {t tk : TA} {nm : Option Str}
structure KBinds (K : PySem.W.Frag) (fd : FuncData) (ps ks : List Str) (g : List Value → List Value → List Value) (gV : List V → List V → List V) : Prop where
  to : ∀ (s : Shared) (us ws : List Value), K.In s.heap → (g us ws).length = ps.length → BindsTo s fd ⟨us, ks.zip ws⟩ (ps.zip (g us ws))
  rel : ∀ {vs : List V} {us : List Value} {zs : List V} {ws : List Value}, Vals vs us → Vals zs ws → Vals (gV vs zs) (g us ws)
variable {g : List Value → List Value → List Value} {gV : List V → List V → List V}
end
structure FnScope (N P : List Str) (sc : Scope) : Prop where
  kind : sc.kind = .function
  co : sc.isCoroutine = false
  gen : sc.isGenerator = false
  nd : N.Nodup
  pre : N.take P.length = P
  par : ∀ x ∈ P, sc.names.lookup x = some .local ∨ sc.names.lookup x = some .cell
  nofree : ∀ y ∈ sc.names, y.2 ≠ .free
theorem bindL_out {kindOf : Str → Option NameKind} {x : Str} : ∀ {binds : List (Str × Value)} {m : Str → Option Value}, (∀ v, (x, v) ∉ binds) → bindL kindOf binds m x = m x
  | [], _, _ => rfl
  | (n, v) :: r, m, h => by
    unfold bindL
    rw [bindL_out fun w hw => h w (List.mem_cons_of_mem _ hw)]
    split
    · have : x ≠ n := by rintro rfl; exact h v List.mem_cons_self
      simp [this]
    · rfl
theorem bindC_out {kindOf : Str → Option NameKind} {x : Str} : ∀ {binds : List (Str × Value)} {m : Str → Option Value}, (∀ v, (x, v) ∉ binds) → bindC kindOf binds m x = m x
  | [], _, _ => rfl
  | (n, v) :: r, m, h => by
    unfold bindC
    rw [bindC_out fun w hw => h w (List.mem_cons_of_mem _ hw)]
    split
    · rfl
    · have : x ≠ n := by rintro rfl; exact h v List.mem_cons_self
      simp [this]
theorem bindL_get {kindOf : Str → Option NameKind} {x : Str} {v : Value} : ∀ {P : List Str} {vs : List Value} {i : Nat} {m : Str → Option Value}, P.Nodup → P[i]? = some x → vs[i]? = some v → kindOf x = some .local →
    bindL kindOf (P.zip vs) m x = some v
  | [], _, _, _, _, h, _, _ => by simp at h
  | _ :: _, [], _, _, _, _, h, _ => by simp at h
  | p :: P, w :: vs, 0, m, nd, h1, h2, hk => by
    simp at h1 h2; subst h1; subst h2
    show bindL kindOf ((p, w) :: P.zip vs) m p = _
    unfold bindL
    rw [bindL_out fun v hv => (List.nodup_cons.mp nd).1 (List.of_mem_zip hv).1, if_pos hk]
    simp
  | p :: P, w :: vs, i + 1, m, nd, h1, h2, hk => by
    show bindL kindOf ((p, w) :: P.zip vs) m x = _
    unfold bindL
    exact bindL_get (i := i) (List.nodup_cons.mp nd).2 (by simpa using h1) (by simpa using h2) hk
theorem bindC_get {kindOf : Str → Option NameKind} {x : Str} {v : Value} : ∀ {P : List Str} {vs : List Value} {i : Nat} {m : Str → Option Value}, P.Nodup → P[i]? = some x → vs[i]? = some v → kindOf x ≠ some .local →
    bindC kindOf (P.zip vs) m x = some v
  | [], _, _, _, _, h, _, _ => by simp at h
  | _ :: _, [], _, _, _, _, h, _ => by simp at h
  | p :: P, w :: vs, 0, m, nd, h1, h2, hk => by
    simp at h1 h2; subst h1; subst h2
    show bindC kindOf ((p, w) :: P.zip vs) m p = _
    unfold bindC
    rw [bindC_out fun v hv => (List.nodup_cons.mp nd).1 (List.of_mem_zip hv).1, if_neg hk]
    simp
  | p :: P, w :: vs, i + 1, m, nd, h1, h2, hk => by
    show bindC kindOf ((p, w) :: P.zip vs) m x = _
    unfold bindC
    exact bindC_get (i := i) (List.nodup_cons.mp nd).2 (by simpa using h1) (by simpa using h2) hk
def start (N : List Str) (vs : List V) : St := vs.map some ++ List.replicate (N.length - vs.length) none
def cxOf (CX : CXT) (P : Program) (w : World) (K : PySem.W.Frag) (mg : Str → Option Value) (base : Heap) (N : List Str) (qual : Str) (scope : Scope) (f : Addr) (cd : Value) (A : Around) (outer : List Env) (s : Shared) (H : Hp) (E : XK) : Cx where
  prog := P
  w := w
  K := K
  mg := mg
  base := base
  A := A.deeper (envOfC qual scope s.heap.objs.size f cd)
  N := N
  s_0 := s
  H_0 := H
  env := envOfC qual scope s.heap.objs.size f cd
  outer := outer
  stack := envOfC qual scope s.heap.objs.size f cd :: outer
  ex := []
  calm := true
  fn := fun _ => true
  pn := []
  xe := fun e s' => wpAny (model P w) (A.deeper (envOfC qual scope s.heap.objs.size f cd)) (leaving (envOfC qual scope s.heap.objs.size f cd) e) (fun _ s'' => CX outer H s E e s'') (fun e' s'' => CX outer H s E e' s'') s'
theorem cell_has {sc : Scope} {n : Nat} {x : Str} (h : sc.names.lookup x = some .cell) : ∃ c, (cellsFrom n sc.names []).lookup x = some c := by
  have q := PySem.W.cellsFrom_some sc.names n [] (.inl h)
  exact Option.isSome_iff_exists.mp q
theorem inv_start {CX : CXT} {P : Program} {w : World} {K : PySem.W.Frag} {mg : Str → Option Value} {base : Heap} {N ps : List Str} {qual : Str} {scope : Scope} {f : Addr} {cd : Value} {A : Around} {outer : List Env} {s s1 : Shared} {H : Hp} {E : XK} {us : List Value} {vs : List V}
    (S : FnScope N ps scope) (hd : A.handled = none) (e0 : Env0 P w K mg base A outer s H) (hl : vs.length = ps.length) (r : Vals vs us)
    (x : InCallC s s.heap.objs.size (bindL (envOfC qual scope s.heap.objs.size f cd).kindOf (ps.zip us) fun _ => none) (cellsFrom (s.heap.objs.size + 1) scope.names []) (bindC (envOfC qual scope s.heap.objs.size f cd).kindOf (ps.zip us) fun _ => none) s1) :
    Inv (cxOf CX P w K mg base N qual scope f cd A outer s H E) [] (start N vs) H s1 := by
  have hpl : ps.length ≤ N.length := by have := congrArg List.length S.pre; rw [List.length_take] at this; omega
  obtain ⟨h1, tk, rfl, hk⟩ := x.done
  have noA : ∀ b : Addr, b ∉ (cxOf CX P w K mg base N qual scope f cd A outer s H E).ex := fun b z => absurd (show b ∈ ([] : List Addr) from z) (by simp)
  refine ⟨⟨e0.mod, S.kind, rfl, rfl, Nat.le_refl _, fun y z c h1 h2 => ?_, fun y hy => ?_, fun y c _ h => ?_, fun _ => hd, Around.frames_deeper e0.frames, .inr ⟨rfl, rfl⟩, fun b z => absurd z (noA b), e0.bs, e0.bsz, fun b _ _ => noA b, fun b z => absurd z (noA b), e0.funs, e0.frf⟩,
    rfl, e0.bare, Un.kept hk, ⟨_, x.toInCall.ns, fun i y v h1 h2 h3 => ?_⟩, fun y c h => ⟨_, x.cell y c h⟩, e0.hok.fresh (Nat.le_refl _), fun y c h => ?_, fun p hp => absurd (show p ∈ ([] : List (Addr × Obj)) from hp) (by simp), e0.hok.kept hk, ?_⟩
  · exact name_of_addr x.apart (PySem.mem_of_lookup h1) (PySem.mem_of_lookup h2)
  · have hy : scope.names.lookup y = some .cell ∨ scope.names.lookup y = some .free := hy
    rcases hy with hy | hy
    · exact cell_has hy
    · exact absurd rfl (S.nofree _ (PySem.mem_of_lookup hy))
  · exact Nat.le_of_lt (x.above y c (PySem.mem_of_lookup h))
  · have hi : i < vs.length := by
      unfold start at h2
      by_cases hi : i < vs.length
      · exact hi
      · rw [List.getElem?_append_right (by simpa using hi)] at h2
        rw [List.getElem?_replicate] at h2
        split at h2 <;> cases h2
    have ha : vs[i]? = some v := by
      unfold start at h2
      rw [List.getElem?_append_left (by simpa using hi), List.getElem?_map] at h2
      cases e : vs[i]? with
      | none => rw [e] at h2; cases h2
      | some a => rw [e] at h2; cases h2; rfl
    obtain ⟨u, hu, rv⟩ := r.get ha
    have hp : ps[i]? = some y := by
      rw [← S.pre, List.getElem?_take_of_lt (by omega)]; exact h1
    have ndP : ps.Nodup := by rw [← S.pre]; exact S.nd.sublist (List.take_sublist _ _)
    refine ⟨u, rv, ?_⟩
    rcases S.par y (List.mem_of_getElem? hp) with k | k
    · exact .inl ⟨k, bindL_get ndP hp hu k⟩
    · obtain ⟨c, e⟩ := cell_has (n := s.heap.objs.size + 1) k
      refine .inr ⟨.inl k, c, e, ?_⟩
      have q := x.cell y c e
      rw [bindC_get ndP hp hu (by show scope.names.lookup y ≠ _; rw [k]; decide)] at q
      exact q
  · exact e0.hok.fresh (Nat.le_of_lt (x.above y c (PySem.mem_of_lookup h)))
  · unfold start
    show _ = N.length
    rw [List.length_append, List.length_map, List.length_replicate]
    omega
theorem fn_of {CX : CXT} {P : Program} {w : World} {K : PySem.W.Frag} {mg : Str → Option Value} {base : Heap} {k : Nat} {f : Addr} {name qual : Str} {params : Arguments} {body : List Stmt} {scope : Scope} {dV kV doc pm cdv ct oc : Value} {an od : Option Addr}
    {osl : Array (Option Value)} {N ps : List Str} {sp : Sp} (lk : K.lookup f = some ⟨oc, od, .func (PySem.W.fnOf name qual params body scope dV kV doc pm an cdv ct), osl⟩) (hcd : PySem.W.codeIn K cdv qual = true) (S : FnScope N ps scope)
    (len : ∀ vs H Q E, sp vs H Q E → vs.length = ps.length)
    (hbody : ∀ (A : Around) (outer : List Env) (s : Shared) (H : Hp) (vs : List V) (Q : VK) (E : XK), Room k (A.deeper (envOfC qual scope s.heap.objs.size f cdv)) → sp vs H Q E →
      ∃ t, PSs (cxOf CX P w K mg base N qual scope f cdv A outer s H E) body t ∧ t { nx := fun _ H' => Q .non H', rt := Q } (start N vs) H) :
    FnOk P w K mg base CX (k + 1) f (PySem.W.fnOf name qual params body scope dV kV doc pm an cdv ct) ps sp := by
  refine ⟨len, fun A outer s H args us vs Q E hr e0 hb r hsp => ?_⟩
  have hl := len _ _ _ _ hsp
  have KX : K.In s.heap := e0.mod.kin.keeps fun b o e => (e0.bs b o e).1
  have lim : s.heap.NoLimit := e0.mod.nolimit.keeps fun b o e => (e0.bs b o e).1
  have hkind : ∀ y ∈ ps.zip us, scope.names.lookup y.1 = some .local ∨ (scope.names.lookup y.1 = some .cell ∧ ((cellsFrom (s.heap.objs.size + 1) scope.names []).lookup y.1).isSome = true) := fun ⟨n, v⟩ hy => by
    rcases S.par n (List.of_mem_zip hy).1 with q | q
    · exact .inl q
    · exact .inr ⟨q, PySem.W.cellsFrom_some _ _ _ (.inl q)⟩
  refine codeAny_call_function hr.depth (KX _ _ lk) rfl S.co S.gen rfl (PySem.W.codeRec_of KX hcd) (hb _ _ _ _ ?_)
  refine wpAny_newFunctionEnv_cells S.kind hkind fun env he s1 x => ?_
  subst he
  refine ⟨lim.keeps x.toInCall.keep, codeAny_func ?_⟩
  obtain ⟨t, ht, hq⟩ := hbody A outer s H vs Q E (hr.deeper _) hsp
  have I : Inv (cxOf CX P w K mg base N qual scope f cdv A outer s H E) [] (start N vs) H s1 := inv_start S hr.hd e0 hl r x
  refine wpAny_mono (ht [] s1 (start N vs) H _ I hq) (fun fl s' hs => ?_) fun e s' hs => hs
  have fin : ∀ {σ' : St} {H' : Hp} {v : V} {u : Value}, Inv (cxOf CX P w K mg base N qual scope f cdv A outer s H E) [] σ' H' s' → RelV v u → Q v H' → CE outer P w H s Q u s' :=
    fun {σ' H' v u} J rv q => ⟨v, H', J.os, J.bare, J.base, J.hok, rv, q⟩
  cases fl with
  | ret u =>
    obtain ⟨v, σ', H', J, rv, q⟩ := hs
    exact fin J rv q
  | next =>
    obtain ⟨σ', H', J, q⟩ := hs
    exact fin (v := V.non) (u := Value.none) J rfl q
  | brk =>
    obtain ⟨_, _, _, q⟩ := hs
    exact False.elim q
  | cont =>
    obtain ⟨_, _, _, q⟩ := hs
    exact False.elim q
end L2
namespace L2
open PySem PySem.Spec PyProof.Rows
section
variable {X : Cx} {x : Str} {p pos : Pos} {e : Expr} {es : List Expr} {t : TA} {id T : String} {r : List V → Hp → VK → Prop}
def tCB (r : List V → Hp → VK → Prop) (t : TA) : TE := fun σ H Q => t σ H fun vs H1 => r vs H1 Q
theorem pe_callB (hc : CallR X (.builtin id) r) (hg : Gl X x) (hm : X.mg x = none) (hv : bootBuiltins x = some (.builtin id)) (ha : PA X (e :: es) t) (hn : x ≠ "__name__" := by decide) (hdb : (x == ("__debug__" : Str)) = false := by decide)
    (he : starEach (e :: es) X.env = (false, eval e X.env) :: starEach es X.env := by rfl) (hpl : (backTo pos (starEach es X.env)).any (·.1) = false := by rfl) : PE X (.Call (.Name x p) (e :: es) [] pos) (tCB r t) := by
  intro pins s σ H Q I h
  refine wpAny_Call_Name_kw (ld_blt I hg hm hv ?_ hn hdb)
  exact PyProof.Rows.callWith_builtin1 (thn (ha pos pins s σ H _ I h) fun us s1 ⟨vs, H1, I1, r1, q1⟩ => hc pins s1 σ H1 vs us Q I1 r1 q1) he hpl
theorem pe_callTy (hc : CallR X (.type T) r) (hg : Gl X x) (hm : X.mg x = none) (hv : bootBuiltins x = some (.type T)) (ha : PA X (e :: es) t) (hn : x ≠ "__name__" := by decide) (hdb : (x == ("__debug__" : Str)) = false := by decide)
    (he : starEach (e :: es) X.env = (false, eval e X.env) :: starEach es X.env := by rfl) (hpl : (backTo pos (starEach es X.env)).any (·.1) = false := by rfl) : PE X (.Call (.Name x p) (e :: es) [] pos) (tCB r t) := by
  intro pins s σ H Q I h
  refine wpAny_Call_Name_kw (ld_blt I hg hm hv ?_ hn hdb)
  exact PyProof.Rows.callWith_type1 (thn (ha pos pins s σ H _ I h) fun us s1 ⟨vs, H1, I1, r1, q1⟩ => hc pins s1 σ H1 vs us Q I1 r1 q1) he hpl
end
end L2
namespace HT
open PySem PyProof.Rows
def lexLt : List Int → List Int → Bool
  | [], [] => false
  | [], _ :: _ => true
  | _ :: _, [] => false
  | x :: xs, y :: ys => if x = y then lexLt xs ys else decide (x < y)
theorem lexLt_cons (x y : Int) (xs ys : List Int) : lexLt (x :: xs) (y :: ys) = if x = y then lexLt xs ys else decide (x < y) := rfl
theorem lexLt_nil_nil : lexLt [] [] = false := rfl
theorem lexLt_nil_cons (y : Int) (ys : List Int) : lexLt [] (y :: ys) = true := rfl
theorem eqAt_int (A : Around) (s : Shared) (a : Int) (t : Tok) (c : Int) (u : Tok) : ∃ e, SeqAt.EqAt A s (.int a t) (.int c u) e ∧ (e = true ↔ a = c) :=
  ⟨(a == c), SeqAt.EqAt.int_int a t c u, by simp⟩
theorem rcLt_int (A : Around) (s : Shared) (a : Int) (t : Tok) (c : Int) (u : Tok) (prog : Program) (w : World) (E : Value → Shared → Prop) (Q : Value → Shared → Prop) (h : Q (.bool (decide (a < c))) s) :
    wpAny (model prog w) A (richCompare .Lt (.int a t) (.int c u)) Q E s :=
  (PyProof.Rows.lt_int h : wpAny (model prog w) A (compareOp .Lt (.int a t) (.int c u)) Q E s)
section
open PySem.SeqAt
open PySem.AutoSeq1 (wpAny_loadPart')
open PySem.MeetsSeq PySem.MeetsSeq2 PySem.MeetsSeq3
end
section
variable {prog : Program} {w : World} {A : Around} {E : Value → Shared → Prop} {s : Shared}
theorem cat_tup {t b : Addr} {vs ws : List Value} {Q : Value → Shared → Prop} (ht : IsTup s.heap t vs.toArray) (hb : IsTup s.heap b ws.toArray) (hv : vs ≠ [])
    (h1 : ws = [] → Q (.ref t) s) (h2 : ws ≠ [] → Q (.ref s.heap.objs.size) { s with heap := s.heap.push { cls := .type "tuple", data := .seq (vs ++ ws).toArray } })
    (hsz : vs.length + ws.length ≤ sizeLine) : wpAny (model prog w) A (binaryOp .Add (.ref t) (.ref b)) Q E s := by
  obtain ⟨⟨cls, dd, data, sl⟩, ho, hc, n, hd⟩ := id ht
  obtain ⟨⟨cls2, dd2, data2, sl2⟩, ho2, hc2, n2, hd2⟩ := id hb
  simp only at hc hd hc2 hd2
  subst hc hd hc2 hd2
  have e : vs.toArray ++ ws.toArray = (vs ++ ws).toArray := by simp
  by_cases hw : ws = []
  · exact concat_meets ⟨_, ho, rfl⟩ ⟨_, ho2, rfl⟩ noFill_tuple_add seq_tuple_add PySem.F.slot_tuple_add PySem.F.entry_tuple_add (PySem.F.args_tuple_add_2 _ _)
      (tuple_addW1 t b vs.toArray ws.toArray n n2 dd dd2 sl sl2 (by simpa using hv) (by simp [hw])) ⟨ho, ho2, h1 hw⟩
  · refine concat_meets ⟨_, ho, rfl⟩ ⟨_, ho2, rfl⟩ noFill_tuple_add seq_tuple_add PySem.F.slot_tuple_add PySem.F.entry_tuple_add (PySem.F.args_tuple_add_2 _ _)
      (tuple_addW2 t b vs.toArray ws.toArray n n2 dd dd2 sl sl2 (by simpa using hv) (by simpa using hw) (by rw [List.size_toArray, List.size_toArray]; exact hsz)) ⟨ho, ho2, ?_⟩
    rw [e]
    exact h2 hw
def sIx (n d : Nat) : Option Int → Nat
  | none => d
  | some v => if v < 0 then (v + (n : Int)).toNat else min v.toNat n
end
end HT
namespace L2
open PySem PySem.Spec PyProof.Rows
abbrev TO := St → Hp → (Option Int → Hp → Prop) → Prop
def PO (X : Cx) (e : Option Expr) (t : TO) : Prop :=
  ∀ (pins : List (Addr × Obj)) (s : Shared) (σ : St) (H : Hp) (Q : Option Int → Hp → Prop), Inv X pins σ H s → t σ H Q →
    wpAny (model X.prog X.w) X.A (evalPart e X.env) (fun u s' => ∃ o H', Inv X pins σ H' s' ∧ IsPart u o ∧ Q o H') X.xe s
def tNoPart : TO := fun _ H Q => Q none H
def tPart (t : TE) : TO := fun σ H Q => t σ H fun x H1 => ∃ i, x = .int i ∧ Q (some i) H1
theorem intsAre_of {ns : List Int} : ∀ {us : List Value}, Vals (ns.map V.int) us → IntsAre us ns := by
  induction ns with
  | nil => intro us r; rw [List.map_nil] at r; cases r; exact .nil
  | cons n ns ih =>
    intro us r
    rw [List.map_cons] at r
    cases r with
    | cons r1 r2 =>
      obtain ⟨t, e⟩ := r1
      subst e
      exact .cons n t (ih r2)
section
variable {X : Cx} {e : Expr} {te : TE} {lo hi : Option Expr} {tl th : TO} {pos p2 : Pos}
theorem po_none : PO X none tNoPart := by
  intro pins s σ H Q I h
  rw [evalPart_none]
  exact wpAny_pure ⟨none, H, I, .none, h⟩
theorem po_some (h : PE X e te) : PO X (some e) (tPart te) := by
  intro pins s σ H Q I hw
  rw [evalPart_some]
  refine thn (h pins s σ H _ I hw) fun u s1 ⟨x, H1, I1, r1, q1⟩ => ?_
  obtain ⟨i, rfl, q⟩ := q1
  obtain ⟨t, rfl⟩ := r1
  exact ⟨some i, H1, I1, .int i t, q⟩
def SlR (X : Cx) (r : V → Option Int → Option Int → Hp → VK → Prop) : Prop :=
  ∀ (pins : List (Addr × Obj)) (s : Shared) (σ : St) (H : Hp) (x : V) (v vl vu : Value) (lo hi : Option Int) (sl : Addr) (Q : VK), Inv X pins σ H s → RelV x v → s.heap.IsSliceOf sl vl vu .none → IsPart vl lo → IsPart vu hi → r x lo hi H Q →
    ∃ T id, typeLookup (.type T) "__getitem__" = pure (some (.builtin id)) ∧ s.TypeIs v T ∧ wpAny (model X.prog X.w) X.A (getItem v (.ref sl)) (EP X pins σ Q) X.xe s
theorem SlR.or {r r' : V → Option Int → Option Int → Hp → VK → Prop} (h : SlR X r) (h' : SlR X r') : SlR X (fun x lo hi H Q => r x lo hi H Q ∨ r' x lo hi H Q) := by
  intro pins s σ H x v vl vu lo hi sl Q I rx hs pl pu q
  rcases q with q | q
  · exact h pins s σ H x v vl vu lo hi sl Q I rx hs pl pu q
  · exact h' pins s σ H x v vl vu lo hi sl Q I rx hs pl pu q
def tSl (r : V → Option Int → Option Int → Hp → VK → Prop) (te : TE) (tl th : TO) : TE := fun σ H Q => te σ H fun x H1 => tl σ H1 fun l H2 => th σ H2 fun u H3 => r x l u H3 Q
theorem pe_slice {r : V → Option Int → Option Int → Hp → VK → Prop} (hr : SlR X r) (he : PE X e te) (hl : PO X lo tl) (hu : PO X hi th) : PE X (.Subscript e (.Slice lo hi none p2) pos) (tSl r te tl th) := by
  intro pins s σ H Q I h
  refine Subscript_ (thn (he pins s σ H _ I h) fun v s1 ⟨x, H1, I1, r1, q1⟩ => ?_)
  refine wpAny_Slice (thn (hl pins s1 σ H1 _ I1 q1) fun vl s2 ⟨l, H2, I2, pl, q2⟩ => thn (hu pins s2 σ H2 _ I2 q2) fun vu s3 ⟨u, H3, I3, pu, q3⟩ => ?_)
  rw [evalPart_none]
  refine wpAny_pure ?_
  have I4 : Inv X pins σ H3 { s3 with heap := s3.heap.push { cls := .type "slice", data := .fields #[vl, vu, .none] } } := I3.kept (t' := s3.toks) fun b ob q => Heap.get?_push_of_some _ q
  obtain ⟨T, id, hT, ht, hg⟩ := hr pins { s3 with heap := s3.heap.push { cls := .type "slice", data := .fields #[vl, vu, .none] } } σ H3 x v vl vu l u s3.heap.objs.size Q I4 r1 (Heap.IsSliceOf.new ..) pl pu q3
  show wpAny (model X.prog X.w) X.A (subscriptTail e (.Slice lo hi none p2) v (.ref s3.heap.objs.size)) (EP X pins σ Q) X.xe { s3 with heap := s3.heap.push { cls := .type "slice", data := .fields #[vl, vu, .none] } }
  exact tail_any (ops := [.ref s3.heap.objs.size, v]) ht hT hg (by with_unfolding_all rfl)
def cutV (xs : List V) (lo hi : Option Int) : List V := (xs.drop (HT.sIx xs.length 0 lo)).take (HT.sIx xs.length xs.length hi - HT.sIx xs.length 0 lo)
theorem cutV_length (xs : List V) (lo hi : Option Int) : (cutV xs lo hi).length ≤ xs.length := by
  unfold cutV
  rw [List.length_take, List.length_drop]
  omega
def rCatT (K : PySem.W.Frag) : R2 := fun x y H Q => ∃ a b xs ys, x = .ref a ∧ y = .ref b ∧ SqT K H a xs ∧ SqT K H b ys ∧ xs ≠ [] ∧ xs.length + ys.length ≤ sizeLine ∧
  (ys = [] → Q (.ref a) H) ∧ (ys ≠ [] → ∀ p, H p = none → Q (.ref p) (upd H p (.tup (xs ++ ys))))
theorem Vals.nil_iff {xs : List V} {us : List Value} (r : Vals xs us) : us = [] ↔ xs = [] := by
  cases r with
  | nil => simp
  | cons _ _ => simp
theorem op_catT : OpR X (binaryOp .Add) (rCatT X.K) := by
  intro pins s σ H x y v u Q I rx ry h
  obtain ⟨a, b, xs, ys, rfl, rfl, ha, hb, hx, hz, q1, q2⟩ := h
  cases rx
  cases ry
  obtain ⟨its, r1, p1, _⟩ := I.tuple ha
  obtain ⟨its2, r2, p2, _⟩ := I.tuple hb
  refine HT.cat_tup p1 p2 (fun z => hx (r1.nil_iff.mp z)) (fun z => ⟨.ref a, H, I, rfl, q1 (r2.nil_iff.mp z)⟩) (fun z => ?_) (by rw [← r1.length, ← r2.length]; exact hz)
  refine ⟨.ref s.heap.objs.size, _, I.laid (t' := s.toks) (o := .tup (xs ++ ys)) (fun b ob q => Heap.get?_push_of_some _ q) (Nat.le_refl _) ?_, rfl, q2 (fun w => z (r2.nil_iff.mpr w)) _ (I.hok.fresh (Nat.le_refl _))⟩
  exact ⟨by rw [List.length_append]; exact hz, _, r1.append r2, IsTup.new _ _⟩
end
end L2
namespace L2
open PySem PySem.Spec PyProof.Rows
def ixN (n : Nat) (i : Int) : Option Nat := if 0 ≤ i then (if i < n then some i.toNat else none) else if -(n : Int) ≤ i then some (i + n).toNat else none
def atI {α : Type} (xs : List α) (i : Int) : Option α := (ixN xs.length i).bind fun j => xs[j]?
theorem ixN_seq {n : Nat} {i : Int} {j : Nat} (h : ixN n i = some j) : seqIndex? i n = some j ∧ j < n ∧ -(n : Int) ≤ i ∧ i < n := by
  unfold ixN at h
  by_cases h0 : 0 ≤ i
  · rw [if_pos h0] at h
    by_cases h1 : i < n
    · rw [if_pos h1] at h
      have e : i.toNat = j := Option.some.inj h
      exact ⟨by rw [seqIndex_of h0 h1, e], by omega, by omega, h1⟩
    · rw [if_neg h1] at h; cases h
  · rw [if_neg h0] at h
    by_cases h1 : -(n : Int) ≤ i
    · rw [if_pos h1] at h
      have e : (i + n).toNat = j := Option.some.inj h
      exact ⟨by rw [seqIndex_neg (by omega) h1, e], by omega, h1, by omega⟩
    · rw [if_neg h1] at h; cases h
theorem atI_get {α : Type} {xs : List α} {i : Int} {v : α} (h : atI xs i = some v) : ∃ j, seqIndex? i xs.length = some j ∧ xs[j]? = some v ∧ j < xs.length ∧ -(xs.length : Int) ≤ i ∧ i < xs.length := by
  unfold atI at h
  cases e : ixN xs.length i with
  | none => rw [e] at h; cases h
  | some j =>
    rw [e] at h
    obtain ⟨h1, h2, h3, h4⟩ := ixN_seq e
    exact ⟨j, h1, h, h2, h3, h4⟩
theorem atI_nat {α : Type} {xs : List α} {j : Nat} {v : α} (h : xs[j]? = some v) : atI xs (j : Int) = some v := by
  have hj : j < xs.length := (List.getElem?_eq_some_iff.mp h).1
  have e : ixN xs.length (j : Int) = some j := by
    unfold ixN
    rw [if_pos (by omega), if_pos (by omega)]; simp
  unfold atI; rw [e]; exact h
def PlainIx (b : Expr) : Prop := ∀ o i, subscripted b false o i = operate [o, i] (getItem o i)
def IxR (X : Cx) (r : R2) : Prop :=
  ∀ (value slice : Expr) (pins : List (Addr × Obj)) (s : Shared) (σ : St) (H : Hp) (x y : V) (v u : Value) (Q : VK), Inv X pins σ H s → RelV x v → RelV y u → r x y H Q →
    subscripted slice false v u = operate [v, u] (getItem v u) → wpAny (model X.prog X.w) X.A (subscriptTail value slice v u) (EP X pins σ Q) X.xe s
def MtR (X : Cx) (id : String) (r : V → List V → Hp → VK → Prop) : Prop :=
  ∀ (pins : List (Addr × Obj)) (s : Shared) (σ : St) (H : Hp) (x : V) (xs : List V) (v : Value) (us : List Value) (Q : VK), Inv X pins σ H s → RelV x v → Vals xs us → r x xs H Q →
    wpAny (model X.prog X.w) X.A (call (.builtin id) (v :: us)) (EP X pins σ Q) X.xe s
section
variable {X : Cx} {a b : Expr} {ta tb : TE} {pos : Pos}
theorem IxR.or {r r' : R2} (h : IxR X r) (h' : IxR X r') : IxR X (fun x y H Q => r x y H Q ∨ r' x y H Q) := by
  intro value slice pins s σ H x y v u Q I rx ry q hs
  rcases q with q | q
  · exact h value slice pins s σ H x y v u Q I rx ry q hs
  · exact h' value slice pins s σ H x y v u Q I rx ry q hs
theorem MtR.or {id : String} {r r' : V → List V → Hp → VK → Prop} (h : MtR X id r) (h' : MtR X id r') : MtR X id (fun x xs H Q => r x xs H Q ∨ r' x xs H Q) := by
  intro pins s σ H x xs v us Q I rx rs q
  rcases q with q | q
  · exact h pins s σ H x xs v us Q I rx rs q
  · exact h' pins s σ H x xs v us Q I rx rs q
theorem pe_ix {r : R2} (hr : IxR X r) (ha : PE X a ta) (hb : PE X b tb) (hs : PlainIx b) : PE X (.Subscript a b pos) (tOp r ta tb) := by
  intro pins s σ H Q I h
  exact Subscript_ (binT ha hb I h fun v u s2 x y H2 I2 rx ry q => hr a b pins s2 σ H2 x y v u Q I2 rx ry q (hs _ _))
def rIxL (K : PySem.W.Frag) : R2 := fun x y H Q => ∃ p xs i v, x = .ref p ∧ y = .int i ∧ SqL K H p xs ∧ atI xs i = some v ∧ Q v H
def rIxT (K : PySem.W.Frag) : R2 := fun x y H Q => ∃ p xs i v, x = .ref p ∧ y = .int i ∧ SqT K H p xs ∧ atI xs i = some v ∧ Q v H
def rIxS : R2 := fun x y H Q => ∃ z i c, x = .str z ∧ y = .int i ∧ z.length ≤ sizeLine ∧ atI z.cps.toList i = some c ∧ Q (.str ⟨#[c]⟩) H
theorem ix_list : IxR X (rIxL X.K) := by
  intro value slice pins s σ H x y v u Q I rx ry h hs
  obtain ⟨p, xs, i, z, rfl, rfl, hq, he, q⟩ := h
  cases rx
  obtain ⟨t, rfl⟩ := ry
  obtain ⟨its, r, pl, hz⟩ := I.list hq
  obtain ⟨j, h1, h2, h3, h4, h5⟩ := atI_get he
  obtain ⟨w, ew, rw'⟩ := r.get h2
  have hl := r.length
  have hn := line63
  have fin : EP X pins σ Q w s := ⟨z, H, I, rw', q⟩
  by_cases h0 : 0 ≤ i
  · have hj : i.toNat = j := by
      rw [seqIndex_of h0 h5] at h1
      exact Option.some.inj h1
    exact item_listR pl.isList h0 (by omega) (by rw [hj]; simpa using ew) fin hs
  · have hj : (i + (its.toArray.size : Int)).toNat = j := by
      rw [seqIndex_neg (by omega) h4] at h1
      rw [List.size_toArray, ← hl]
      exact Option.some.inj h1
    exact subscriptTail_builtinR (x := w) pl.isList.typeIs slot_list_getitem.lookup
      (wpAny_getItem_list_neg (Q := fun r s' => r = w ∧ EP X pins σ Q r s') pl.isList (by omega) (by rw [List.size_toArray] <;> omega) (by omega) (by rw [hj]; simpa using ew) ⟨rfl, fin⟩) hs
theorem ix_tup : IxR X (rIxT X.K) := by
  intro value slice pins s σ H x y v u Q I rx ry h hs
  obtain ⟨p, xs, i, z, rfl, rfl, hq, he, q⟩ := h
  cases rx
  obtain ⟨t, rfl⟩ := ry
  obtain ⟨its, r, pl, hz⟩ := I.tuple hq
  obtain ⟨j, h1, h2, h3, h4, h5⟩ := atI_get he
  obtain ⟨w, ew, rw'⟩ := r.get h2
  have hl := r.length
  have hn := line63
  have fin : EP X pins σ Q w s := ⟨z, H, I, rw', q⟩
  exact subscriptTail_builtinR (x := w) pl.typeIs slot_tuple_getitem.lookup
    (getItem_tuple (j := j) (Q := fun r s' => r = w ∧ EP X pins σ Q r s') pl (by omega) (by omega) (by rw [List.size_toArray, ← hl]; exact h1) (by simpa using ew) ⟨rfl, fin⟩) hs
theorem ix_str : IxR X rIxS := by
  intro value slice pins s σ H x y v u Q I rx ry h hs
  obtain ⟨z, i, c, rfl, rfl, hz, he, q⟩ := h
  obtain ⟨t, rfl⟩ := rx
  obtain ⟨t', rfl⟩ := ry
  obtain ⟨j, h1, h2, h3, h4, h5⟩ := atI_get he
  have hl : z.cps.toList.length = z.length := by simp [Str.length]
  rw [hl] at h1 h4 h5
  have hn := line63
  exact tail_any (typeIs_str s z t) slot_str_getitem.lookup (getItem_str (c := c) (by
    have e1 : decide (i < -(2 ^ 63 : Int)) = false := decide_eq_false (by omega)
    have e2 : decide (i ≥ 2 ^ 63) = false := decide_eq_false (by omega)
    rw [e1, e2, Bool.or_false]) (by rw [h1]; simpa using h2) ⟨.str ⟨#[c]⟩, H, I.tok _, ⟨_, rfl⟩, q⟩) hs
def rIx (K : PySem.W.Frag) : R2 := fun x y H Q => rIxL K x y H Q ∨ rIxT K x y H Q ∨ rIxS x y H Q
theorem ix_seq : IxR X (rIx X.K) := ix_list.or (ix_tup.or ix_str)
theorem mapSeq_set (its : List Value) (n j : Nat) (u : Value) : Obj.mapSeq (·.setIfInBounds j u) { cls := .type "list", data := .seq its.toArray n } = { cls := .type "list", data := .seq (its.set j u).toArray n } := by
  simp [Obj.mapSeq]
theorem Inv.lst {pins : List (Addr × Obj)} {σ : St} {H : Hp} {s : Shared} {p : Addr} {xs : List V} (I : Inv X pins σ H s) (h : H p = some (.lst xs)) :
    ∃ (its : List Value) (n : Nat), Vals xs its ∧ s.heap.get? p = some { cls := .type "list", data := .seq its.toArray n } ∧ xs.length ≤ sizeLine := by
  obtain ⟨z, its, n, r, e⟩ := I.hok p _ h
  exact ⟨its, n, r, e, z⟩
theorem Inv.lstUpd {pins : List (Addr × Obj)} {σ : St} {H : Hp} {s : Shared} {p : Addr} {xs ys : List V} {its its' : List Value} {n n' : Nat} {f : Obj → Obj} (I : Inv X pins σ H s) (h : H p = some (.lst xs))
    (ho : s.heap.get? p = some { cls := .type "list", data := .seq its.toArray n }) (hf : f { cls := .type "list", data := .seq its.toArray n } = { cls := .type "list", data := .seq its'.toArray n' }) (r : Vals ys its') (hz : ys.length ≤ sizeLine) (t : Nat) :
    Inv X pins σ (upd H p (.lst ys)) { s with heap := s.heap.update p f, toks := t } := by
  have e : (s.heap.update p f).get? p = some { cls := .type "list", data := .seq its'.toArray n' } := by
    rw [Heap.get?_update_self f ho (by rw [hf] <;> rfl), hf]
  refine I.write (x := p) (e := p) (by rw [h]; trivial) (.inl rfl) (fun b u hb q => (Heap.get?_update_other _ _ (Ne.symm hb)).trans q) ⟨_, e⟩ ?_
  exact ⟨hz, its', n', r, e⟩
def rSetL : V → V → V → Hp → (Hp → Prop) → Prop := fun o i v H Q => ∃ p xs k j, o = .ref p ∧ i = .int k ∧ H p = some (.lst xs) ∧ ixN xs.length k = some j ∧ Q (upd H p (.lst (xs.set j v)))
theorem set_list : PSet X rSetL := by
  intro pins s σ H o i v ov iv u Q I ro ri rv h
  obtain ⟨p, xs, k, j, rfl, rfl, hp, hj, q⟩ := h
  cases ro
  obtain ⟨t, rfl⟩ := ri
  obtain ⟨its, n, r, ho, hz⟩ := I.lst hp
  obtain ⟨h1, h2, h3, h4⟩ := ixN_seq hj
  have hl := r.length
  have hn := line63
  have I' : Inv X pins σ (upd H p (.lst (xs.set j v))) { s with heap := s.heap.update p (Obj.mapSeq (·.setIfInBounds j u)) } :=
    I.lstUpd hp ho (mapSeq_set its n j u) (r.set rv j) (by rw [List.length_set]; exact hz) s.toks
  by_cases h0 : 0 ≤ k
  · have hk : k.toNat = j := by
      rw [seqIndex_of h0 h4] at h1
      exact Option.some.inj h1
    exact PySem.W.ki_setAt ho h0 (by omega) (by rw [List.size_toArray, ← hl]; exact h4) (by rw [hk]; exact ⟨_, I', q⟩)
  · have hk : (k + (its.toArray.size : Int)).toNat = j := by
      rw [seqIndex_neg (by omega) h3] at h1
      rw [List.size_toArray, ← hl]
      exact Option.some.inj h1
    exact PySem.W.ki_setBack ho (by omega) (by rw [List.size_toArray, ← hl]; exact h3) (by omega) (by rw [hk]; exact ⟨_, I', q⟩)
theorem slice_bounds (lo hi : Option Int) (n : Nat) : (sliceBounds lo hi none n).1 = ((HT.sIx n 0 lo : Nat) : Int) ∧ (sliceBounds lo hi none n).2.1 = ((HT.sIx n n hi : Nat) : Int) ∧ (sliceBounds lo hi none n).2.2 = 1 := by
  refine ⟨?_, ?_, rfl⟩
  · cases lo with
    | none => simp [sliceBounds, HT.sIx]
    | some i =>
      simp only [sliceBounds, HT.sIx, Option.getD_none, show (1 : Int) > 0 by decide, if_true]
      by_cases h : i < 0
      · simp only [h, if_true] <;> omega
      · simp only [h, if_false] <;> omega
  · cases hi with
    | none => simp [sliceBounds, HT.sIx]
    | some i =>
      simp only [sliceBounds, HT.sIx, Option.getD_none, show (1 : Int) > 0 by decide, if_true]
      by_cases h : i < 0
      · simp only [h, if_true] <;> omega
      · simp only [h, if_false] <;> omega
theorem slicePick_cut (its : List Value) (lo hi : Option Int) : slicePick its.toArray lo hi none = ((its.drop (HT.sIx its.length 0 lo)).take (HT.sIx its.length its.length hi - HT.sIx its.length 0 lo)).toArray := by
  obtain ⟨h1, h2, h3⟩ := slice_bounds lo hi its.toArray.size
  unfold slicePick
  rw [h1, h2, h3]
  simp only [sliceRange_one, pick_run, List.size_toArray] <;> rfl
def rSlL (K : PySem.W.Frag) : V → Option Int → Option Int → Hp → VK → Prop := fun x lo hi H Q => ∃ a xs, x = .ref a ∧ SqL K H a xs ∧ ∀ p, H p = none → Q (.ref p) (upd H p (.lst (cutV xs lo hi)))
theorem sl_list : SlR X (rSlL X.K) := by
  intro pins s σ H x v vl vu lo hi sl Q I rx hs pl pu h
  obtain ⟨a, xs, rfl, hx, q⟩ := h
  cases rx
  obtain ⟨its, r, ht, hz⟩ := I.list hx
  have hlen := r.length
  refine ⟨"list", _, slot_list_getitem.lookup, ht.isList.typeIs, ?_⟩
  refine wpAny_getItem_list_slice ht.isList hs pl pu .none (by simp) ?_ (by rw [List.size_toArray] <;> omega)
  rw [slicePick_cut, ← hlen]
  refine ⟨.ref s.heap.objs.size, _, I.laid (t' := s.toks) (o := .lst (cutV xs lo hi)) (fun b ob q => Heap.get?_push_of_some _ q) (Nat.le_refl _) ?_, rfl, q _ (I.hok.fresh (Nat.le_refl _))⟩
  exact ⟨Nat.le_trans (cutV_length xs lo hi) hz, _, 0, (r.drop (HT.sIx xs.length 0 lo)).take (HT.sIx xs.length xs.length hi - HT.sIx xs.length 0 lo), Heap.get?_push_size _ rfl⟩
def flatV : V → Bool
  | .non => true
  | .bl _ => true
  | .int _ => true
  | .str _ => true
  | _ => false
def eqV : V → V → Bool
  | .non, .non => true
  | .bl a, .bl b => a == b
  | .bl a, .int b => (if a then 1 else 0) == b
  | .int a, .bl b => a == (if b then 1 else 0)
  | .int a, .int b => a == b
  | .str a, .str b => a == b
  | _, _ => false
theorem eqAt_V {A : Around} {s : Shared} {y x : V} {u v : Value} (ry : RelV y u) (rx : RelV x v) (fy : flatV y = true) (fx : flatV x = true) : SeqAt.EqAt A s u v (eqV y x) := by
  cases y with
  | non =>
    cases ry
    cases x with
    | non => cases rx; exact SeqAt.EqAt.same _
    | bl b => cases rx; exact SeqAt.EqAt.none_bool b
    | int b => obtain ⟨t, rfl⟩ := rx; exact SeqAt.EqAt.none_int b t
    | str b => obtain ⟨t, rfl⟩ := rx; exact SeqAt.EqAt.none_str b t
    | _ => exact absurd (show false = true from fx) Bool.false_ne_true
  | bl a =>
    cases ry
    cases x with
    | non => cases rx; exact SeqAt.EqAt.bool_none a
    | bl b => cases rx; exact SeqAt.EqAt.bool_bool a b
    | int b => obtain ⟨t, rfl⟩ := rx; exact SeqAt.EqAt.bool_int a b t
    | str b => obtain ⟨t, rfl⟩ := rx; exact SeqAt.EqAt.bool_str a b t
    | _ => exact absurd (show false = true from fx) Bool.false_ne_true
  | int a =>
    obtain ⟨t', rfl⟩ := ry
    cases x with
    | non => cases rx; exact SeqAt.EqAt.int_none a t'
    | bl b => cases rx; exact SeqAt.EqAt.int_bool a t' b
    | int b => obtain ⟨t, rfl⟩ := rx; exact SeqAt.EqAt.int_int a t' b t
    | str b => obtain ⟨t, rfl⟩ := rx; exact SeqAt.EqAt.int_str a t' b t
    | _ => exact absurd (show false = true from fx) Bool.false_ne_true
  | str a =>
    obtain ⟨t', rfl⟩ := ry
    cases x with
    | non => cases rx; exact SeqAt.EqAt.str_none a t'
    | bl b => cases rx; exact SeqAt.EqAt.str_bool a t' b
    | int b => obtain ⟨t, rfl⟩ := rx; exact SeqAt.EqAt.str_int a t' b t
    | str b => obtain ⟨t, rfl⟩ := rx; exact SeqAt.EqAt.str_str a t' b t
    | _ => exact absurd (show false = true from fx) Bool.false_ne_true
  | _ => exact absurd (show false = true from fy) Bool.false_ne_true
def eqU (x : V) (u : Value) : Bool := match u with
  | .none => eqV .non x
  | .bool b => eqV (.bl b) x
  | .int i _ => eqV (.int i) x
  | .str z _ => eqV (.str z) x
  | _ => false
theorem eqU_of {x y : V} {u : Value} (r : RelV y u) (f : flatV y = true) : eqU x u = eqV y x := by
  cases y with
  | non => cases r; rfl
  | bl b => cases r; rfl
  | int i => obtain ⟨t, rfl⟩ := r; rfl
  | str z => obtain ⟨t, rfl⟩ := r; rfl
  | _ => exact absurd (show false = true from f) Bool.false_ne_true
theorem any_eqU {x : V} : ∀ {xs : List V} {us : List Value}, Vals xs us → xs.all flatV = true → us.any (eqU x) = xs.any fun y => eqV y x
  | _, _, .nil, _ => rfl
  | y :: xs, u :: us, .cons r t, f => by
    rw [List.all_cons, Bool.and_eq_true] at f
    rw [List.any_cons, List.any_cons, eqU_of r f.1, any_eqU t f.2]
theorem mem_eqAt {A : Around} {s : Shared} {x : V} {v : Value} (rx : RelV x v) (fx : flatV x = true) : ∀ {xs : List V} {us : List Value}, Vals xs us → xs.all flatV = true → ∀ u ∈ us, SeqAt.EqAt A s u v (eqU x u)
  | _, _, .nil, _ => fun u hu => by cases hu
  | y :: xs, u :: us, .cons r t, f => fun u' hu => by
    rw [List.all_cons, Bool.and_eq_true] at f
    rcases List.mem_cons.mp hu with rfl | hu
    · rw [eqU_of r f.1]; exact eqAt_V r rx f.1 fx
    · exact mem_eqAt rx fx t f.2 u' hu
def inV (x : V) (xs : List V) : Bool := xs.any fun y => eqV y x
def rIn (K : PySem.W.Frag) (neg : Bool) : R2 := fun x y H Q => ∃ p xs, y = .ref p ∧ (SqL K H p xs ∨ SqT K H p xs) ∧ flatV x = true ∧ xs.all flatV = true ∧ Q (.bl (if neg then !inV x xs else inV x xs)) H
theorem op_in_seq : OpR X (compareOp .In) (rIn X.K false) := by
  intro pins s σ H x y v u Q I rx ry h
  obtain ⟨p, xs, rfl, hq, fx, fs, q⟩ := h
  cases ry
  rcases hq with hq | hq
  · obtain ⟨its, r, pl, hz⟩ := I.list hq
    refine SeqAt.in_listAt (eqU x) pl.isList (fun w hw => mem_eqAt rx fx r fs w (by simpa using hw)) ⟨.bl _, H, I, rfl, ?_⟩
    rw [show its.toArray.any (eqU x) = its.any (eqU x) by simp, any_eqU r fs]
    exact q
  · obtain ⟨its, r, pl, hz⟩ := I.tuple hq
    refine SeqAt.in_tupleAt (eqU x) pl (fun w hw => mem_eqAt rx fx r fs w (by simpa using hw)) ⟨.bl _, H, I, rfl, ?_⟩
    rw [show its.toArray.any (eqU x) = its.any (eqU x) by simp, any_eqU r fs]
    exact q
theorem call_len_seq : CallR X (.builtin "len") (fun xs H Q => ∃ p ys, xs = [.ref p] ∧ (SqL X.K H p ys ∨ SqT X.K H p ys) ∧ Q (.int ys.length) H) := by
  intro pins s σ H xs us Q I r h
  obtain ⟨p, ys, rfl, hq, q⟩ := h
  obtain ⟨u, rfl, rx⟩ := vals1 r
  cases rx
  have hn := line63
  rcases hq with hq | hq
  · obtain ⟨its, r', pl, hz⟩ := I.list hq
    have hlen := r'.length
    exact Calls.call_len_list pl.isList (by simp only [List.size_toArray] <;> omega) ⟨.int ys.length, H, I.tok _, ⟨s.toks + 1, by rw [List.size_toArray, hlen]⟩, q⟩
  · obtain ⟨its, r', pl, hz⟩ := I.tuple hq
    have hlen := r'.length
    exact len_tuple pl (by simp only [List.size_toArray] <;> omega) ⟨.int ys.length, H, I.tok _, ⟨s.toks + 1, by rw [List.size_toArray, hlen]⟩, q⟩
theorem CallR.or {f : Value} {r r' : List V → Hp → VK → Prop} (h : CallR X f r) (h' : CallR X f r') : CallR X f (fun xs H Q => r xs H Q ∨ r' xs H Q) := by
  intro pins s σ H xs us Q I rs q
  rcases q with q | q
  · exact h pins s σ H xs us Q I rs q
  · exact h' pins s σ H xs us Q I rs q
def tyV (K : PySem.W.Frag) (T : String) (x : V) (H : Hp) : Prop := match x with
  | .str _ => T = "str"
  | .int _ => T = "int"
  | .ref p => (T = "list" ∧ ∃ xs, SqL K H p xs) ∨ (T = "tuple" ∧ ∃ o, K.lookup p = some o ∧ o.cls = .type "tuple" ∧ o.dict = none) ∨
      (T = "dict" ∧ ((∃ kvs, H p = some (.dK kvs)) ∨ ∃ kvs, H p = some (.dT kvs))) ∨ (T = "set" ∧ ∃ S n, H p = some (.set S n))
  | _ => False
theorem tyV_is {pins : List (Addr × Obj)} {σ : St} {H : Hp} {s : Shared} {T : String} {x : V} {v : Value} (I : Inv X pins σ H s) (r : RelV x v) (ty : tyV X.K T x H) :
    s.TypeIs v T ∧ ∀ a, v = .ref a → ∃ ob, s.heap.get? a = some ob ∧ ob.dict = none := by
  cases x with
  | str z =>
    obtain ⟨t, rfl⟩ := r
    cases (show T = "str" from ty)
    exact ⟨typeIs_str s z t, fun _ e => nomatch e⟩
  | int i =>
    obtain ⟨t, rfl⟩ := r
    cases (show T = "int" from ty)
    exact ⟨typeIs_int s i t, fun _ e => nomatch e⟩
  | ref p =>
    cases r
    rcases ty with ⟨rfl, xs, hq⟩ | ⟨rfl, o, hk, hc, hd⟩ | ⟨rfl, hk⟩ | ⟨rfl, S, n, hk⟩
    · obtain ⟨its, _, pl, _⟩ := I.list hq
      refine ⟨pl.isList.typeIs, fun a e => ?_⟩
      cases e
      obtain ⟨o, n, e, c, hd, _⟩ := pl
      exact ⟨o, e, hd⟩
    · refine ⟨⟨o, I.kIn p o hk, hc⟩, fun a e => ?_⟩
      cases e
      exact ⟨o, I.kIn _ o hk, hd⟩
    · have z : ∃ o, s.heap.get? p = some o ∧ o.ExactDict := by
        rcases hk with ⟨kvs, hk⟩ | ⟨kvs, hk⟩
        · obtain ⟨_, _, _, _, o, _, _, e, ex, _⟩ := I.hok p _ hk
          exact ⟨o, e, ex⟩
        · obtain ⟨_, _, _, _, o, _, _, e, ex, _⟩ := I.hok p _ hk
          exact ⟨o, e, ex⟩
      obtain ⟨o, e, ex⟩ := z
      refine ⟨⟨o, e, ex.1⟩, fun a e2 => ?_⟩
      cases e2
      exact ⟨o, e, ex.2.1⟩
    · obtain ⟨o, _, _, _, e, ex, _⟩ := I.hok p _ hk
      refine ⟨⟨o, e, ex.1⟩, fun a e2 => ?_⟩
      cases e2
      exact ⟨o, e, ex.2.1⟩
  | _ => exact False.elim ty
def tBM0 (K : PySem.W.Frag) (T : String) (r : V → List V → Hp → VK → Prop) (to : TE) : TE := fun σ H Q => to σ H fun x H1 => tyV K T x H1 ∧ r x [] H1 Q
def tBM (K : PySem.W.Frag) (T : String) (r : V → List V → Hp → VK → Prop) (to : TE) (t : TA) : TE := fun σ H Q => to σ H fun x H1 => tyV K T x H1 ∧ t σ H1 fun xs H2 => r x xs H2 Q
variable {o e : Expr} {es : List Expr} {to : TE} {t : TA} {name : Str} {apos cpos : Pos} {T id : String} {r : V → List V → Hp → VK → Prop}
theorem pe_bm (pa : PlainAttrs T) (slot : Slot T name id) (hty : typeOf (.builtin id) = pure (.type "method_descriptor")) (hm : MtR X id r) (ho : PE X o to) (ha : PA X (e :: es) t)
    (hbase : attributeBase o name X.env (eval o X.env) = eval o X.env := by rfl)
    (hfew : ((backTo cpos (starEach (e :: es) X.env)).all (fun x => !x.1) && (backToKw cpos (keywordEach [] X.env)).all (fun x => x.1.isSome)
      && decide ((e :: es).length + ([] : List Keyword).length + (if ([] : List Keyword).isEmpty then 0 else 1) < 30)) = true := by rfl)
    (hline : (apos.endLine == cpos.line) = true := by rfl) (hs : starEach (e :: es) X.env = (false, eval e X.env) :: starEach es X.env := by rfl) (hplain : (backTo cpos (starEach es X.env)).any (·.1) = false := by rfl) :
    PE X (.Call (.Attribute o name apos) (e :: es) [] cpos) (tBM X.K T r to t) := by
  intro pins s σ H Q I h
  refine wpAny_Call_method_late hbase hfew hline rfl (thn (ho pins s σ H _ I h) fun v s1 ⟨x, H1, I1, r1, ty, q1⟩ => ?_)
  obtain ⟨h1, h2⟩ := tyV_is I1 r1 ty
  refine ⟨T, id, pa, slot, hty, h1, h2, ?_⟩
  have hA := ha cpos pins s1 σ H1 _ I1 q1
  rw [hs] at hA ⊢
  refine Calls.callWith_builtin (by show (false || (backTo cpos (starEach es X.env)).any (·.1)) = false; rw [hplain] <;> rfl) (Calls.evalArgs_plain ?_)
  exact thn hA fun us s2 ⟨vs, H2, I2, r2, q2⟩ => hm pins s2 σ H2 x vs v us Q I2 r1 r2 q2
end
end L2
namespace L2
open PySem PySem.Spec PyProof.Rows
def MtM (X : Cx) (id : String) (r : V → List V → Hp → VK → Prop) : Prop :=
  ∀ (pins : List (Addr × Obj)) (s : Shared) (σ : St) (H : Hp) (x : V) (xs : List V) (v : Value) (us : List Value) (Q : VK), Inv X pins σ H s → RelV x v → Vals xs us → r x xs H Q →
    wpAny (model X.prog X.w) X.A (call (.builtin id) (v :: us)) (EP X pins σ Q) X.xe s
theorem Vals.one : ∀ {x : V} {us : List Value}, Vals [x] us → ∃ u, us = [u] ∧ RelV x u
  | _, _, .cons r .nil => ⟨_, rfl, r⟩
theorem Vals.two : ∀ {x y : V} {us : List Value}, Vals [x, y] us → ∃ u v, us = [u, v] ∧ RelV x u ∧ RelV y v
  | _, _, _, .cons r (.cons q .nil) => ⟨_, _, rfl, r, q⟩
theorem Vals.zero : ∀ {us : List Value}, Vals [] us → us = []
  | _, .nil => rfl
theorem Vals.dropLast {xs : List V} {us : List Value} (h : Vals xs us) : Vals xs.dropLast us.dropLast := by
  induction h with
  | nil => exact .nil
  | cons r t ih =>
    cases t with
    | nil => exact .nil
    | cons q t' => exact .cons r ih
theorem Vals.reverse {xs : List V} {us : List Value} (h : Vals xs us) : Vals xs.reverse us.reverse := by
  induction h with
  | nil => exact .nil
  | cons r t ih => rw [List.reverse_cons, List.reverse_cons]; exact Vals.append ih (.cons r .nil)
theorem Vals.rep {xs : List V} {us : List Value} (h : Vals xs us) : ∀ k : Nat, Vals (List.replicate k xs).flatten (List.replicate k us).flatten
  | 0 => .nil
  | k + 1 => by
    rw [List.replicate_succ, List.replicate_succ, List.flatten_cons, List.flatten_cons]
    exact Vals.append h (Vals.rep h k)
theorem foldl_rep (its : List Value) : ∀ (k : Nat) (acc : List Value),
    List.foldl (fun x1 x2 => x1 ++ x2) acc.toArray (List.replicate k its.toArray) = (acc ++ (List.replicate k its).flatten).toArray
  | 0, acc => by simp
  | k + 1, acc => by
    have e : acc.toArray ++ its.toArray = (acc ++ its).toArray := by simp
    have e2 : (acc ++ its) ++ (List.replicate k its).flatten = acc ++ (List.replicate (k + 1) its).flatten := by
      rw [List.replicate_succ, List.flatten_cons, List.append_assoc]
    rw [← e2, ← foldl_rep its k (acc ++ its), ← e, List.replicate_succ, List.foldl_cons]
section
variable {X : Cx} {pins : List (Addr × Obj)} {σ : St} {H : Hp} {s : Shared} {l b : Addr} {xs ys zs : List V}
theorem Inv.lset {its its' : List Value} {n : Nat} {f : Array Value → Array Value} {t' : Nat} (I : Inv X pins σ H s) (hH : H l = some (.lst xs))
    (e : s.heap.get? l = some { cls := .type "list", data := .seq its.toArray n }) (hf : f its.toArray = its'.toArray) (hv : Vals ys its') (hz : ys.length ≤ sizeLine) :
    Inv X pins σ (upd H l (.lst ys)) { s with heap := s.heap.update l (Obj.mapSeq f), toks := t' } := by
  have q := PySem.IsL.update e f
  rw [hf] at q
  refine I.write (x := l) (e := l) (by rw [hH]; exact trivial) (.inl rfl) (fun b' u hb hu => (Heap.get?_update_other s.heap (Obj.mapSeq f) (Ne.symm hb)).trans hu) ⟨_, q⟩ ?_
  exact ⟨hz, its', _, hv, q⟩
theorem Inv.lnew {its : List Value} {t' : Nat} (I : Inv X pins σ H s) (hv : Vals ys its) (hz : ys.length ≤ sizeLine) :
    Inv X pins σ (upd H s.heap.objs.size (.lst ys)) { s with heap := s.heap.push { cls := .type "list", data := .seq its.toArray }, toks := t' } :=
  I.laid (fun _ _ q => Heap.get?_push_of_some _ q) (Nat.le_refl _) ⟨hz, its, 0, hv, Heap.get?_push_size _ rfl⟩
theorem Inv.fresh (I : Inv X pins σ H s) : H s.heap.objs.size = none := I.hok.fresh (Nat.le_refl _)
theorem Inv.lstM (I : Inv X pins σ H s) (hH : H l = some (.lst xs)) : xs.length ≤ sizeLine ∧ ∃ (its : List Value) (n : Nat), Vals xs its ∧ xs.length = its.length ∧ s.heap.get? l = some { cls := .type "list", data := .seq its.toArray n } := by
  obtain ⟨z, its, n, r, e⟩ := I.hok l _ hH
  exact ⟨z, its, n, r, r.length, e⟩
theorem notLongL {n : Nat} (h : n ≤ sizeLine) : Builtin.List.listTooLong n = false := by
  unfold Builtin.List.listTooLong
  exact decide_eq_false (by omega)
end
section
variable {X : Cx}
def rAppend : V → List V → Hp → VK → Prop := fun x vs H Q => ∃ l xs y, x = .ref l ∧ vs = [y] ∧ H l = some (.lst xs) ∧ xs.length < sizeLine ∧ Q .non (upd H l (.lst (xs ++ [y])))
theorem mt_append : MtM X "list.append" rAppend := by
  intro pins s σ H x vs v us Q I rx rv h
  obtain ⟨l, xs, y, rfl, rfl, hH, hz, q⟩ := h
  cases rx
  obtain ⟨u, rfl, ru⟩ := rv.one
  obtain ⟨z, its, n, r, hl, e⟩ := I.lstM hH
  refine call_meets F.slot_list_append ⟨_, e, rfl⟩ F.entry_list_append (F.args_list_append_2 _ _) (PySem.list_append l its.toArray n u (by rw [List.size_toArray]; omega)) ⟨e, ?_⟩
  refine ⟨.non, _, I.lset (its' := its ++ [u]) hH e (by simp) (r.append (.cons ru .nil)) ?_, rfl, q⟩
  rw [List.length_append, List.length_singleton]
  omega
def rCat : R2 := fun x y H Q => ∃ l b xs zs, x = .ref l ∧ y = .ref b ∧ H l = some (.lst xs) ∧ H b = some (.lst zs) ∧ xs.length + zs.length ≤ sizeLine ∧ ∀ p, H p = none → Q (.ref p) (upd H p (.lst (xs ++ zs)))
theorem op_cat : OpR X (binaryOp .Add) rCat := by
  intro pins s σ H x y v u Q I rx ry h
  obtain ⟨l, b, xs, zs, rfl, rfl, hH, hB, hz, q⟩ := h
  cases rx
  cases ry
  obtain ⟨z, its, n, r, hl, e⟩ := I.lstM hH
  obtain ⟨z2, its2, n2, r2, hl2, e2⟩ := I.lstM hB
  refine PySem.P.add_list e e2 ?_ (by rw [List.size_toArray, List.size_toArray]; omega)
  have ea : its.toArray ++ its2.toArray = (its ++ its2).toArray := by simp
  rw [ea]
  exact ⟨.ref _, _, I.lnew (t' := s.toks) (r.append r2) (by rw [List.length_append]; omega), rfl, q _ I.fresh⟩
def rRep : R2 := fun x y H Q => ∃ l k xs, x = .ref l ∧ y = .int k ∧ H l = some (.lst xs) ∧ -(2 ^ 63) ≤ k ∧ k < 2 ^ 63 ∧ xs.length * k.toNat ≤ sizeLine ∧
  ∀ p, H p = none → Q (.ref p) (upd H p (.lst (List.replicate k.toNat xs).flatten))
theorem len_rep {α : Type} (xs : List α) (k : Nat) : (List.replicate k xs).flatten.length = k * xs.length := by
  induction k with
  | zero => simp
  | succ k ih => rw [List.replicate_succ, List.flatten_cons, List.length_append, ih, Nat.succ_mul, Nat.add_comm]
theorem op_rep : OpR X (binaryOp .Mult) rRep := by
  intro pins s σ H x y v u Q I rx ry h
  obtain ⟨l, k, xs, rfl, rfl, hH, h1, h2, hz, q⟩ := h
  cases rx
  obtain ⟨t, rfl⟩ := ry
  obtain ⟨z, its, n, r, hl, e⟩ := I.lstM hH
  have hlen : its.toArray.size * k.toNat ≤ sizeLine := by rw [List.size_toArray, ← hl]; exact hz
  have hcap : ¬ its.toArray.size * k.toNat > (2 ^ 63 - 1) / 8 := by
    have : (sizeLine : Nat) ≤ (2 ^ 63 - 1) / 8 := by decide
    omega
  have hfit : ¬ (!Builtin.List.listFitsIndex k) = true := by
    rw [fitsIndex_both h1 h2]
    exact Bool.false_ne_true
  have hlong : ¬ Builtin.List.listTooLong (its.toArray.size * k.toNat) = true := by
    rw [notLongL hlen]
    exact Bool.false_ne_true
  have hnew : List.foldl (fun x1 x2 => x1 ++ x2) #[] (List.replicate (if its.toArray.isEmpty = true then 0 else k.toNat) its.toArray) = (List.replicate k.toNat its).flatten.toArray := by
    have f0 : ∀ m : Nat, List.foldl (fun x1 x2 => x1 ++ x2) #[] (List.replicate m its.toArray) = (List.replicate m its).flatten.toArray := fun m => by
      have := foldl_rep its m []
      rw [List.nil_append] at this
      exact this
    rw [f0]
    cases its with
    | nil => simp
    | cons a r' => rw [if_neg (by simp)]
  refine wpAny_binaryOp_repeat_ref (T := "list") (U := "int") (by decide) ⟨_, e, rfl⟩ (fun s' => typeIs_int s' k t) noFill_list_mul F.fills_int_mul F.slot_int_rmul repeat_list F.slot_int_index.lookup
    (call_meets F.slot_int_rmul (typeIs_int s k t) F.entry_int_rmul (F.args_int_rmul_2 _ _) (int___rmul___int_list k t l its.toArray n)
      ⟨e, rfl, ⟨_, e, rfl⟩, call_meets F.slot_list_mul ⟨_, e, rfl⟩ F.entry_list_mul (F.args_list_mul_2 _ _) (AutoListH.list___mul___list_int_3 l its.toArray n k t hfit hcap hlong) ⟨e, ?_⟩⟩)
  rw [hnew]
  exact ⟨.ref _, _, I.lnew (t' := s.toks) (r.rep k.toNat) (by rw [len_rep, Nat.mul_comm]; exact hz), rfl, q _ I.fresh⟩
end
section
variable {prog : Program} {w : World} {A : Around} {E : Value → Shared → Prop} {s : Shared}
end
section
variable {X : Cx}
end
end L2
namespace L2
open PySem PySem.Spec PyProof.Rows
theorem Vals.ints : ∀ {ns : List Int} {us : List Value}, Vals (ns.map V.int) us → IntsAre us ns
  | [], us, h => by
    rw [List.map_nil] at h
    cases h
    exact IntsAre.nil
  | n :: ns, us, h => by
    rw [List.map_cons] at h
    cases h with
    | cons r t =>
      obtain ⟨k, rfl⟩ := r
      exact IntsAre.cons n k (Vals.ints t)
theorem vals_of_ints : ∀ {us : List Value} {ns : List Int}, IntsAre us ns → Vals (ns.map V.int) us
  | _, _, .nil => by rw [List.map_nil]; exact Paired.nil
  | _, _, .cons n t h => by rw [List.map_cons]; exact Paired.cons (show RelV (V.int n) (Value.int n t) from ⟨t, rfl⟩) (vals_of_ints h)
theorem Vals.strs : ∀ {xs : List Str} {us : List Value}, Vals (xs.map V.str) us → StrsAre us xs
  | [], us, h => by
    rw [List.map_nil] at h
    cases h
    exact StrsAre.nil
  | x :: xs, us, h => by
    rw [List.map_cons] at h
    cases h with
    | cons r t =>
      obtain ⟨k, rfl⟩ := r
      exact StrsAre.cons x k (Vals.strs t)
theorem Vals.ref1 {a : Addr} {us : List Value} (r : Vals [V.ref a] us) : us = [Value.ref a] := by
  cases r with
  | cons r t =>
    cases t
    cases r
    rfl
section
variable {prog : Program} {w : World} {A : Around} {E : Value → Shared → Prop} {s : Shared} {l : Addr} {its : List Value} {ns : List Int} {Q : Value → Shared → Prop}
theorem sum_raw (hh : A.handled = none) (hl : s.heap.IsList l its.toArray) (hi : IntsAre its ns)
    (h : ∀ h' tk t', (∀ b o, s.heap.get? b = some o → h'.get? b = some o) → Q (.int ns.sum t') { s with heap := h', toks := tk }) : wpAny (model prog w) A (call (.builtin "sum") [.ref l]) Q E s := by
  obtain ⟨xs, e⟩ := hi.allInts.items
  have hn : numsOf (intItems xs).toList = ns := by rw [← e]; exact hi.numsOf
  rw [nums_intItems] at hn
  rw [e] at hl
  refine PySem.sum_intListG hh hl fun h' tk t' hk => ?_
  have := h h' tk t' hk
  rw [preSum_eq, List.take_of_length_le (by simp), hn]; exact this
end
section
variable {X : Cx}
def rSum (K : PySem.W.Frag) : List V → Hp → VK → Prop := fun vs H Q => ∃ (a : Addr) (ns : List Int), vs = [V.ref a] ∧ SqL K H a (ns.map V.int) ∧ Q (.int ns.sum) H
theorem cr_sum (hc : X.calm = true) : CallR X (.builtin "sum") (rSum X.K) := by
  intro pins s σ H vs us Q I r h
  obtain ⟨a, ns, rfl, hs, q⟩ := h
  obtain ⟨its, rv, hl, _⟩ := I.list hs
  rw [Vals.ref1 r]
  exact sum_raw (I.ok.hd hc) hl.isList rv.ints fun h' tk t' hk => ⟨.int _, H, I.kept hk, ⟨_, rfl⟩, q⟩
def rSorted (K : PySem.W.Frag) : List V → Hp → VK → Prop := fun vs H Q => ∃ (a : Addr) (ns : List Int), vs = [V.ref a] ∧ SqL K H a (ns.map V.int) ∧ ns.length < 64 ∧
  ∀ (ns' : List Int) (p : Addr), ns'.Perm ns → ns'.Pairwise (· ≤ ·) → H p = none → Q (.ref p) (upd H p (.lst (ns'.map V.int)))
theorem small64 {n : Nat} (h : n < 64) : n ≤ sizeLine := by rw [sizeLine_eq]; omega
theorem cr_sorted : CallR X (.builtin "sorted") (rSorted X.K) := by
  intro pins s σ H vs us Q I r h
  obtain ⟨a, ns, rfl, hs, h64, q⟩ := h
  obtain ⟨its, rv, hl, _⟩ := I.list hs
  rw [Vals.ref1 r]
  have hi := rv.ints
  refine PyProof.Rows.sorted_ints hl.isList hi (by rw [hi.length]; exact h64) fun out ns' h1 h2 h3 => ?_
  obtain ⟨ep, he'⟩ := PyProof.Rows.sortedAll_at s.heap its out
  have hlen : (ns'.map V.int).length ≤ sizeLine := by rw [List.length_map, h2.length_eq]; exact small64 h64
  exact ⟨.ref _, upd H (s.heap.objs.size + 1) (.lst (ns'.map V.int)), I.laid (t' := s.toks) (fun _ _ => PyProof.Rows.sortedAll_old) (Nat.le_succ _) ⟨hlen, out.toList, ep, vals_of_ints h1, he'⟩, rfl, q ns' _ h2 h3 (I.hok.fresh (Nat.le_succ _))⟩
end
section
variable {X : Cx}
def rIndex (K : PySem.W.Frag) : V → List V → Hp → VK → Prop := fun x xs H Q => ∃ (a : Addr) (ys : List V) (y : V) (j : Nat) (z : V), x = V.ref a ∧ xs = [y] ∧ SqL K H a ys ∧ flatV y = true ∧ ys.all flatV = true ∧ ys[j]? = some z ∧ eqV z y = true ∧
  (∀ (m : Nat) (z' : V), m < j → ys[m]? = some z' → eqV z' y = false) ∧ Q (.int (j : Nat)) H
theorem flat_at {ys : List V} (f : ys.all flatV = true) {j : Nat} {z : V} (h : ys[j]? = some z) : flatV z = true := List.all_eq_true.mp f z (List.mem_of_getElem? h)
theorem mt_index : MtR X "list.index" (rIndex X.K) := by
  intro pins s σ H x xs v us Q I rx rxs h
  obtain ⟨a, ys, y, j, z, rfl, rfl, hs, fy, fys, hz, hzj, hno, q⟩ := h
  cases rx
  cases rxs with
  | cons ry rt =>
    rename_i uy ut
    cases rt
    obtain ⟨its, rv, ⟨⟨cls, dd, data, sl⟩, n, ho, hc, hdn, hd⟩, hlen⟩ := I.list hs
    simp only at hc hd
    subst hc hd
    obtain ⟨u, hu, ru⟩ := rv.get hz
    obtain ⟨hjl, hje⟩ := List.getElem?_eq_some_iff.mp hu
    have hvl := rv.length
    have hj : j < its.toArray.size := by simpa using hjl
    have hsl := sizeLine_eq
    refine call_meets PySem.F.slot_list_index ⟨_, ho, rfl⟩ PySem.F.entry_list_index (PySem.F.args_list_index_2 _ _)
      (SeqAt.list_indexAt a its.toArray n dd sl uy (eqU y) j hj (by omega) ?_ ?_) ⟨ho, fun u' hu' => mem_eqAt ry fy rv fys u' (by simpa using hu'), ?_⟩
    · have e1 : its.toArray[j] = u := by simpa using hje
      rw [e1, eqU_of ru (flat_at fys hz)]
      exact hzj
    · intro m hm hmj
      have hml : m < its.length := by simpa using hm
      have hmy : m < ys.length := by omega
      have hy' : ys[m]? = some ys[m] := List.getElem?_eq_getElem hmy
      obtain ⟨u2, hu2, ru2⟩ := rv.get hy'
      obtain ⟨_, hme⟩ := List.getElem?_eq_some_iff.mp hu2
      have e1 : its.toArray[m] = u2 := by simpa using hme
      rw [e1, eqU_of ru2 (flat_at fys hy')]
      exact hno m _ hmj hy'
    · exact ⟨.int (j : Nat), H, I.tok _, ⟨_, rfl⟩, q⟩
end
section
variable {X : Cx}
end
section
variable {X : Cx}
end
mutual
inductive Dp (K : PySem.W.Frag) (H : Hp) : V → PyData → Prop
  | non : Dp K H .non .none
  | bl (b : Bool) : Dp K H (.bl b) (.bool b)
  | int (i : Int) : Dp K H (.int i) (.int i)
  | str (x : Str) : Dp K H (.str x) (.str x)
  | lst {a : Addr} {xs : List V} {ds : List PyData} : SqL K H a xs → DpAll K H xs ds → Dp K H (.ref a) (.list ds)
  | tup {a : Addr} {xs : List V} {ds : List PyData} : SqT K H a xs → DpAll K H xs ds → Dp K H (.ref a) (.tuple ds)
inductive DpAll (K : PySem.W.Frag) (H : Hp) : List V → List PyData → Prop
  | nil : DpAll K H [] []
  | cons {v : V} {vs : List V} {d : PyData} {ds : List PyData} : Dp K H v d → DpAll K H vs ds → DpAll K H (v :: vs) (d :: ds)
end
section
variable {X : Cx} {pins : List (Addr × Obj)} {σ : St} {H : Hp} {s : Shared}
mutual
theorem Dp.reads (I : Inv X pins σ H s) : ∀ (d : PyData) (v : V) (u : Value), Dp X.K H v d → RelV v u → ∃ as, Reads s.heap u d as
  | .none, _, _, h, r => by
    cases h
    cases r
    exact ⟨_, Reads.none⟩
  | .bool b, _, _, h, r => by
    cases h
    cases r
    exact ⟨_, Reads.bool b⟩
  | .int i, _, _, h, r => by
    cases h
    obtain ⟨t, rfl⟩ := r
    exact ⟨_, Reads.int i t⟩
  | .str x, _, _, h, r => by
    cases h
    obtain ⟨t, rfl⟩ := r
    exact ⟨_, Reads.str x t⟩
  | .list ds, _, _, h, r => by
    cases h with
    | lst hs ha =>
      cases r
      obtain ⟨its, rv, ⟨o, n, ho, hc, _, hd⟩, _⟩ := I.list hs
      obtain ⟨as, hr⟩ := Dp.readsAll I ds _ its ha rv
      exact ⟨_, Reads.list ho hc hd hr⟩
  | .tuple ds, _, _, h, r => by
    cases h with
    | tup hs ha =>
      cases r
      obtain ⟨its, rv, ⟨o, ho, hc, n, hd⟩, _⟩ := I.tuple hs
      obtain ⟨as, hr⟩ := Dp.readsAll I ds _ its ha rv
      exact ⟨_, Reads.tuple ho hc hd hr⟩
  | .dict _, _, _, h, _ => by cases h
theorem Dp.readsAll (I : Inv X pins σ H s) : ∀ (ds : List PyData) (vs : List V) (us : List Value), DpAll X.K H vs ds → Vals vs us → ∃ as, ReadsAll s.heap us ds as
  | [], _, _, h, r => by
    cases h
    cases r
    exact ⟨_, ReadsAll.nil⟩
  | d :: ds, _, _, h, r => by
    cases h with
    | cons h1 h2 =>
      cases r with
      | cons r1 r2 =>
        obtain ⟨as, q1⟩ := Dp.reads I d _ _ h1 r1
        obtain ⟨bs, q2⟩ := Dp.readsAll I ds _ _ h2 r2
        exact ⟨_, ReadsAll.cons q1 q2⟩
end
end
section
variable {X : Cx}
def rEqD (K : PySem.W.Frag) : R2 := fun x y H Q => ∃ d e, Dp K H x d ∧ Dp K H y e ∧ SeqAt.shaped d = true ∧ SeqAt.shaped e = true ∧ Q (.bl (PyData.eqv d e)) H
theorem op_eqD (hu : X.A.units + 64 < cLine) : OpR X (compareOp .Eq) (rEqD X.K) := by
  intro pins s σ H x y v u Q I rx ry h
  obtain ⟨d, e, hd, he, sd, se, q⟩ := h
  obtain ⟨as, r1⟩ := Dp.reads I d x v hd rx
  obtain ⟨bs, r2⟩ := Dp.reads I e y u he ry
  exact SeqAt.compareEq_shaped r1 r2 sd se hu ⟨.bl _, H, I, rfl, q⟩
end
end L2
namespace L2
open PySem PySem.Spec PyProof.Rows
abbrev CellAt (h : Heap) (c : Addr) (v : Option Value) : Prop := h.IsCell c v
def relS (scope sc : Scope) : Scope :=
  { scope with names := scope.names.map fun (n, k) => if (k == .free && sc.kind == .function && sc.names.lookup n == some .cell) then (n, .cell) else (n, k) }
def cloFrom (cells : List (Str × Addr)) : List (Str × NameKind) → List (Str × Addr) → List (Str × Addr)
  | [], acc => acc
  | (n, k) :: r, acc => if k == .free then cloFrom cells r ((n, (cells.lookup n).getD 0) :: acc) else cloFrom cells r acc
theorem closure_loop (env : Env) (f : Str × NameKind → List (Str × Addr) → Sem (ForInStep (List (Str × Addr))))
    (hf : ∀ n k c, f (n, k) c = if k == .free then (do let a ← cellOf env n; pure (.yield ((n, a) :: c))) else pure (.yield c)) :
    ∀ (names : List (Str × NameKind)) (acc : List (Str × Addr)), (∀ y ∈ names, y.2 = .free → ∃ c, env.cells.lookup y.1 = some c) → forIn names acc f = pure (cloFrom env.cells names acc)
  | [], acc, _ => by rw [List.forIn_nil]; rfl
  | (n, k) :: r, acc, h => by
    rw [List.forIn_cons, hf]
    have ih := fun acc => closure_loop env f hf r acc fun y hy => h y (List.mem_cons_of_mem _ hy)
    unfold cloFrom
    by_cases hk : (k == NameKind.free) = true
    · rw [if_pos hk, if_pos hk]
      obtain ⟨c, hc⟩ := h (n, k) List.mem_cons_self (by simpa using hk)
      have e : cellOf env n = pure c := by unfold cellOf; rw [hc]
      rw [e]
      have e2 : (env.cells.lookup n).getD 0 = c := by rw [hc]; rfl
      rw [e2]
      exact ih _
    · rw [if_neg hk, if_neg hk]
      exact ih _
theorem closure_ok {scope : Scope} {env : Env} (h : ∀ y ∈ scope.names, y.2 = .free → ∃ c, env.cells.lookup y.1 = some c) : closureFor scope env = pure (cloFrom env.cells scope.names []) := by
  simp only [closureFor]
  rw [closure_loop env _ (fun n k c => rfl) scope.names [] h]
  rfl
theorem mem_lookup {α : Type} : ∀ {l : List (Str × α)} {n : Str} {c : α}, (n, c) ∈ l → ∃ c', l.lookup n = some c'
  | (k, v) :: r, n, c, h => by
    rw [List.lookup_cons]
    cases hb : n == k with
    | true => exact ⟨_, rfl⟩
    | false =>
      rcases List.mem_cons.mp h with e | h
      · cases e; simp at hb
      · exact mem_lookup h
theorem cloFrom_mem {cells : List (Str × Addr)} : ∀ {names : List (Str × NameKind)} {acc : List (Str × Addr)} {n : Str} {c : Addr}, (n, c) ∈ cloFrom cells names acc → (n, c) ∈ acc ∨ ((n, .free) ∈ names ∧ c = (cells.lookup n).getD 0)
  | [], _, _, _, h => .inl h
  | (m, k) :: r, acc, n, c, h => by
    unfold cloFrom at h
    split at h
    · rename_i hk
      have hk : k = .free := by simpa using hk
      rcases cloFrom_mem h with h | ⟨h1, h2⟩
      · rcases List.mem_cons.mp h with e | h
        · cases e; exact .inr ⟨hk ▸ List.mem_cons_self, rfl⟩
        · exact .inl h
      · exact .inr ⟨List.mem_cons_of_mem _ h1, h2⟩
    · rcases cloFrom_mem h with h | ⟨h1, h2⟩
      · exact .inl h
      · exact .inr ⟨List.mem_cons_of_mem _ h1, h2⟩
theorem cloFrom_acc {cells : List (Str × Addr)} : ∀ {names : List (Str × NameKind)} {acc : List (Str × Addr)} {p : Str × Addr}, p ∈ acc → p ∈ cloFrom cells names acc
  | [], _, _, h => h
  | (m, k) :: r, acc, p, h => by
    unfold cloFrom
    split
    · exact cloFrom_acc (List.mem_cons_of_mem _ h)
    · exact cloFrom_acc h
theorem cloFrom_has {cells : List (Str × Addr)} : ∀ {names : List (Str × NameKind)} {acc : List (Str × Addr)} {n : Str}, (n, .free) ∈ names → (n, (cells.lookup n).getD 0) ∈ cloFrom cells names acc
  | (m, k) :: r, acc, n, h => by
    unfold cloFrom
    rcases List.mem_cons.mp h with e | h
    · cases e
      exact cloFrom_acc List.mem_cons_self
    · split
      · exact cloFrom_has h
      · exact cloFrom_has h
theorem cells_mem : ∀ {names : List (Str × NameKind)} {h : Heap} {acc : List (Str × Addr)} {x : Str} {c : Addr}, (x, c) ∈ cellsFrom h.objs.size names acc →
    (x, c) ∈ acc ∨ ((x, .cell) ∈ names ∧ h.objs.size ≤ c ∧ CellAt (pushCells h names) c none)
  | [], _, _, _, _, h => .inl h
  | (n, k) :: r, h, acc, x, c, hm => by
    unfold cellsFrom at hm
    unfold pushCells
    split at hm
    · rename_i hk
      rw [if_pos hk]
      have hk : k = .cell := by simpa using hk
      rw [← Heap.size_push h { cls := .type "cell", data := .cell none }] at hm
      rcases cells_mem hm with hm | ⟨h1, h2, h3⟩
      · rcases List.mem_cons.mp hm with e | hm
        · cases e
          exact .inr ⟨hk ▸ List.mem_cons_self, Nat.le_refl _, _, pushCells_keeps r _ _ _ (Heap.get?_push_size _ rfl), rfl⟩
        · exact .inl hm
      · rw [Heap.size_push] at h2
        exact .inr ⟨List.mem_cons_of_mem _ h1, Nat.le_of_succ_le h2, h3⟩
    · rename_i hk
      rw [if_neg hk]
      rcases cells_mem hm with hm | ⟨h1, h2, h3⟩
      · exact .inl hm
      · exact .inr ⟨List.mem_cons_of_mem _ h1, h2, h3⟩
theorem cells_acc : ∀ {names : List (Str × NameKind)} {n : Nat} {acc : List (Str × Addr)} {p : Str × Addr}, p ∈ acc → p ∈ cellsFrom n names acc
  | [], _, _, _, h => h
  | (m, k) :: r, n, acc, p, h => by
    unfold cellsFrom
    split
    · exact cells_acc (List.mem_cons_of_mem _ h)
    · exact cells_acc h
theorem cells_has : ∀ {names : List (Str × NameKind)} {n : Nat} {acc : List (Str × Addr)} {x : Str}, (x, .cell) ∈ names → ∃ c, (x, c) ∈ cellsFrom n names acc
  | (m, k) :: r, n, acc, x, h => by
    unfold cellsFrom
    rcases List.mem_cons.mp h with e | h
    · cases e
      exact ⟨n, cells_acc List.mem_cons_self⟩
    · split
      · exact cells_has h
      · exact cells_has h
theorem cells_inj : ∀ {names : List (Str × NameKind)} {h : Heap} {acc : List (Str × Addr)} {x y : Str} {c : Addr}, (∀ p ∈ acc, p.2 < h.objs.size) → (∀ x y c, (x, c) ∈ acc → (y, c) ∈ acc → x = y) →
    (x, c) ∈ cellsFrom h.objs.size names acc → (y, c) ∈ cellsFrom h.objs.size names acc → x = y
  | [], _, _, _, _, _, _, hi, h1, h2 => hi _ _ _ h1 h2
  | (n, k) :: r, h, acc, x, y, c, hl, hi, h1, h2 => by
    unfold cellsFrom at h1 h2
    split at h1
    · rename_i hk
      rw [if_pos hk] at h2
      rw [← Heap.size_push h { cls := .type "cell", data := .cell none }] at h1 h2
      refine cells_inj (h := h.push _) (fun p hp => ?_) (fun x y c a b => ?_) h1 h2
      · rw [Heap.size_push]
        rcases List.mem_cons.mp hp with rfl | hp
        · exact Nat.lt_succ_self _
        · exact Nat.lt_succ_of_lt (hl p hp)
      · rcases List.mem_cons.mp a with e | a <;> rcases List.mem_cons.mp b with e' | b
        · cases e; cases e'; rfl
        · cases e; exact absurd (hl _ b) (Nat.lt_irrefl _)
        · cases e'; exact absurd (hl _ a) (Nat.lt_irrefl _)
        · exact hi _ _ _ a b
    · rename_i hk
      rw [if_neg hk] at h2
      exact cells_inj hl hi h1 h2
theorem newEnv_comp {M : Model} {A : Around} {E : Value → Shared → Prop} {s : Shared} {scope : Scope} {globals : Addr} {closure : List (Str × Addr)} {qual : Str} {func : Option Addr} {code : Value} {around : Env} {builtins : Addr} {Q : Env → Shared → Prop}
    (h : Q (newEnv scope s.heap.objs.size globals (cellsFrom (s.heap.objs.size + 1) scope.names closure) qual func code (some around) builtins)
      { s with heap := pushCells (s.heap.push { cls := .type "dict", data := .dict #[] }) scope.names }) :
    wpAny M A (newFunctionEnv scope globals closure [] qual func code (some around) builtins) Q E s := by
  simp only [newFunctionEnv, Option.isSome_some, if_true]
  refine wpAny_bind (wpAny_alloc ?_)
  refine wpAny_bind (wpAny_layCells _ (fun n k c => rfl) scope.names closure _ _ ?_)
  rw [show ({ s with heap := s.heap.push { cls := .type "dict", data := .dict #[] } } : Shared).heap.objs.size = s.heap.objs.size + 1 from Heap.size_push ..]
  rw [List.forIn_nil]
  exact wpAny_bind (wpAny_pure (wpAny_pure h))
theorem lookup_relS {sc : Scope} : ∀ {names : List (Str × NameKind)} {x : Str} {k : NameKind},
    (names.map fun (n, k) => if (k == NameKind.free && sc.kind == .function && sc.names.lookup n == some .cell) then (n, NameKind.cell) else (n, k)).lookup x = some k →
    ∃ k', names.lookup x = some k' ∧ (k = k' ∨ (k' = .free ∧ k = .cell))
  | [], _, _, h => by simp at h
  | (n, k₀) :: r, x, k, h => by
    have ih := @lookup_relS sc r x k
    have h' : List.lookup x ((if (k₀ == NameKind.free && sc.kind == .function && sc.names.lookup n == some .cell) = true then (n, NameKind.cell) else (n, k₀)) :: (r.map _)) = some k := h
    cases hx : x == n with
    | true =>
      simp only [List.lookup_cons, hx]
      by_cases hc : (k₀ == NameKind.free && sc.kind == .function && sc.names.lookup n == some .cell) = true
      · rw [if_pos hc] at h'
        simp only [List.lookup_cons, hx] at h'
        cases h'
        simp only [Bool.and_eq_true, beq_iff_eq] at hc
        exact ⟨k₀, rfl, .inr ⟨hc.1.1, rfl⟩⟩
      · rw [if_neg hc] at h'
        simp only [List.lookup_cons, hx] at h'
        cases h'
        exact ⟨_, rfl, .inl rfl⟩
    | false =>
      simp only [List.lookup_cons, hx]
      by_cases hc : (k₀ == NameKind.free && sc.kind == .function && sc.names.lookup n == some .cell) = true
      · rw [if_pos hc] at h'
        simp only [List.lookup_cons, hx] at h'
        exact ih h'
      · rw [if_neg hc] at h'
        simp only [List.lookup_cons, hx] at h'
        exact ih h'
structure BlkOk (N : List Str) (sc scope : Scope) (own : List (Str × Nat)) : Prop where
  kind : scope.kind = .function
  uniq : ∀ y ∈ scope.names, scope.names.lookup y.1 = some y.2
  ix : ∀ p ∈ own, N[p.2]? = some p.1
  free : ∀ y ∈ scope.names, y.2 = .free → sc.names.lookup y.1 = some .cell ∨ sc.names.lookup y.1 = some .free
  own : ∀ y ∈ scope.names, y.2 = .local ∨ y.2 = .cell → y.1 ∈ own.map (·.1) ∨ y.1 ∉ N
def wipe (σ : St) : List Nat → St
  | [] => σ
  | v :: vs => (wipe σ vs).set v none
theorem wipe_length (σ : St) : ∀ vs : List Nat, (wipe σ vs).length = σ.length
  | [] => rfl
  | v :: vs => by unfold wipe; rw [List.length_set, wipe_length σ vs]
theorem wipe_some {σ : St} {i : Nat} {x : V} : ∀ {vs : List Nat}, (wipe σ vs)[i]? = some (some x) → σ[i]? = some (some x) ∧ i ∉ vs
  | [], h => ⟨h, by simp⟩
  | v :: vs, h => by
    unfold wipe at h
    by_cases hi : v = i
    · subst hi
      by_cases hv : v < (wipe σ vs).length
      · rw [List.getElem?_set_self hv] at h; cases h
      · rw [List.getElem?_eq_none (by simpa using hv)] at h; cases h
    · rw [List.getElem?_set_ne hi] at h
      obtain ⟨h1, h2⟩ := wipe_some h
      exact ⟨h1, by simp only [List.mem_cons, not_or]; exact ⟨fun e => hi e.symm, h2⟩⟩
abbrev Cx.blk (X : Cx) (s : Shared) (H : Hp) (scope : Scope) (cenv : Env) (fp : List Addr) : Cx := { X with s_0 := s, H_0 := H, env := cenv, outer := X.stack, ex := fp, fn := fun x => scope.names.lookup x == some .cell, pn := [], xe := fun _ _ => False }
section
variable {X : Cx} {pins : List (Addr × Obj)} {σ : St} {H : Hp} {s : Shared}
theorem block_start {scope : Scope} {own : List (Str × Nat)} {fp : List Addr} (I : Inv X pins σ H s) (ok : BlkOk X.N X.env.scope scope own) (hN : X.N.Nodup) (hfp : ∀ b ∈ fp, FpOk X pins H b ∧ b < s.heap.objs.size) :
    Inv (X.blk s H scope (compEnvC scope (cellsFrom (s.heap.objs.size + 1) scope.names (cloFrom X.env.cells scope.names [])) s.heap.objs.size X.env) fp) [] (wipe σ (own.map (·.2))) H { s with heap := pushCells (s.heap.push { cls := .type "dict", data := .dict #[] }) scope.names } := by
  have hfree : ∀ y ∈ scope.names, y.2 = .free → ∃ c, X.env.cells.lookup y.1 = some c := fun y hy e => by
    rcases ok.free y hy e with k | k
    · exact I.ok.has _ (.inl k)
    · exact I.ok.has _ (.inr k)
  generalize hcenv : compEnvC scope (cellsFrom (s.heap.objs.size + 1) scope.names (cloFrom X.env.cells scope.names [])) s.heap.objs.size X.env = cenv
  have kp : ∀ b o, s.heap.get? b = some o → (pushCells (s.heap.push { cls := .type "dict", data := .dict #[] }) scope.names).get? b = some o := fun b o e => pushCells_keeps _ _ _ _ (Heap.get?_push_of_some _ e)
  have hL : cenv.locals = s.heap.objs.size := by rw [← hcenv]; rfl
  have hcl : cenv.cells = cellsFrom (s.heap.objs.size + 1) scope.names (cloFrom X.env.cells scope.names []) := by rw [← hcenv]; rfl
  have hsc : cenv.scope = relS scope X.env.scope := by rw [← hcenv]; rfl
  rw [← Heap.size_push s.heap { cls := .type "dict", data := .dict #[] }] at hcl
  have cm : ∀ {y c}, (y, c) ∈ cloFrom X.env.cells scope.names [] → X.env.cells.lookup y = some c ∧ c < s.heap.objs.size := fun {y c} hm => by
    rcases cloFrom_mem hm with hm | ⟨h1, rfl⟩
    · cases hm
    · obtain ⟨c, hc⟩ := hfree _ h1 rfl
      rw [hc]
      obtain ⟨w, z⟩ := I.cell _ _ hc
      exact ⟨rfl, z.lt⟩
  have mem : ∀ {y c}, cenv.cells.lookup y = some c → (X.env.cells.lookup y = some c ∧ c < s.heap.objs.size) ∨ (s.heap.objs.size + 1 ≤ c ∧ CellAt (pushCells (s.heap.push { cls := .type "dict", data := .dict #[] }) scope.names) c none) := fun {y c} e => by
    rw [hcl] at e
    rcases cells_mem (PySem.mem_of_lookup e) with hm | ⟨_, h2, h3⟩
    · exact .inl (cm hm)
    · rw [Heap.size_push] at h2; exact .inr ⟨h2, h3⟩
  have look : ∀ {y}, scope.names.lookup y = some .free → ∃ c, cenv.cells.lookup y = some c ∧ X.env.cells.lookup y = some c := fun {y} hl => by
    have hy : (y, NameKind.free) ∈ scope.names := PySem.mem_of_lookup hl
    obtain ⟨c', e'⟩ := mem_lookup (cells_acc (names := scope.names) (n := (s.heap.push { cls := .type "dict", data := .dict #[] }).objs.size) (cloFrom_has (cells := X.env.cells) (acc := []) hy))
    rw [← hcl] at e'
    refine ⟨c', e', ?_⟩
    rw [hcl] at e'
    rcases cells_mem (PySem.mem_of_lookup e') with hm | ⟨h1, _, _⟩
    · exact (cm hm).1
    · have := ok.uniq _ h1
      rw [hl] at this; cases this
  have okB : (X.blk s H scope cenv fp).Ok := by
    refine ⟨I.ok.mod, by show cenv.scope.kind = _; rw [hsc]; exact ok.kind, by show cenv.globals = _; rw [← hcenv]; exact I.ok.glob, by show cenv.builtins = _; rw [← hcenv]; exact I.ok.blt, by show s.heap.objs.size ≤ cenv.locals; rw [hL]; exact Nat.le_refl _,
      fun y z c e1 e2 => ?_, fun y hy => ?_, fun y c z e => ?_, I.ok.hd, I.ok.frames, .inl rfl, fun b hb => ⟨?_, fun y c e z => ?_⟩, I.bs, Nat.le_trans I.ok.bsz I.sz, fun b o e hb => ?_, fun b hb z => ?_, I.stack, I.stkFree⟩
    · have e1 : cenv.cells.lookup y = some c := e1
      have e2 : cenv.cells.lookup z = some c := e2
      rw [hcl] at e1 e2
      refine cells_inj (fun p hp => ?_) (fun y z c a b => I.ok.inj y z c (cm a).1 (cm b).1) (PySem.mem_of_lookup e1) (PySem.mem_of_lookup e2)
      rw [Heap.size_push]
      exact Nat.lt_succ_of_lt (cm (y := p.1) (c := p.2) hp).2
    · show ∃ c, cenv.cells.lookup y = some c
      have key : ∀ k, cenv.kindOf y = some k → (k = .cell ∨ k = .free) → ∃ c, cenv.cells.lookup y = some c := fun k hk hk' => by
        unfold Env.kindOf at hk
        rw [hsc] at hk
        obtain ⟨k', e, r⟩ := lookup_relS hk
        have : k' = .cell ∨ k' = .free := by
          rcases r with rfl | ⟨rfl, _⟩
          · exact hk'
          · exact .inr rfl
        rcases this with rfl | rfl
        · obtain ⟨c, hm⟩ := cells_has (n := (s.heap.push { cls := .type "dict", data := .dict #[] }).objs.size) (acc := cloFrom X.env.cells scope.names []) (PySem.mem_of_lookup e)
          obtain ⟨c', e'⟩ := mem_lookup hm
          exact ⟨c', by rw [hcl]; exact e'⟩
        · obtain ⟨c, h1, _⟩ := look e
          exact ⟨c, h1⟩
      rcases hy with hy | hy
      · exact key _ hy (.inl rfl)
      · exact key _ hy (.inr rfl)
    · have z : (scope.names.lookup y == some NameKind.cell) = true := z
      have z : scope.names.lookup y = some .cell := by simpa using z
      have e : cenv.cells.lookup y = some c := e
      rw [hcl] at e
      rcases cells_mem (PySem.mem_of_lookup e) with hm | ⟨_, h2, _⟩
      · rcases cloFrom_mem hm with hm | ⟨h1, _⟩
        · cases hm
        · have q := ok.uniq _ h1
          rw [z] at q; cases q
      · rw [Heap.size_push] at h2
        exact Nat.le_of_succ_le h2
    · show b ≠ cenv.locals
      rw [hL]; exact Nat.ne_of_lt (hfp b hb).2
    · have e : cenv.cells.lookup y = some c := e
      rcases mem e with ⟨h1, _⟩ | ⟨h1, _⟩
      · exact (hfp b hb).1.2.2.2.2.1 y c h1 z
      · have h2 : s.heap.objs.size + 1 ≤ b := by rw [← z]; exact h1
        exact absurd (Nat.lt_of_lt_of_le (hfp b hb).2 (Nat.le_of_succ_le h2)) (Nat.lt_irrefl _)
    · rcases (hfp b hb).1.2.2.2.1 with z | z
      · exact I.ok.noex b o e z
      · exact absurd (Nat.lt_of_lt_of_le (Heap.lt_size e) (Nat.le_trans I.ok.bsz z)) (Nat.lt_irrefl _)
    · rcases List.mem_cons.mp (I.stkSub b z) with z | z
      · exact (hfp b hb).1.2.1 z
      · exact (hfp b hb).1.2.2.1 z
  refine ⟨okB, rfl, I.bare, Un.kept kp, ⟨fun _ => none, ?_, fun i y av e1 e2 e3 => ?_⟩, fun y c e => ?_, ?_, fun y c e => ?_, fun p hp => ?_, I.hok.kept kp, by rw [wipe_length]; exact I.len⟩
  · show Heap.Ns _ cenv.locals _
    rw [hL]
    exact Heap.Ns.keeps (Heap.Ns.new ..) fun b o e => pushCells_keeps _ _ _ _ e
  · obtain ⟨e2, hne⟩ := wipe_some e2
    have hfr : scope.names.lookup y = some .free ∧ (cenv.kindOf y = some .cell ∨ cenv.kindOf y = some .free) := by
      have key : ∀ k, cenv.scope.names.lookup y = some k → k = .local ∨ k = .cell ∨ k = .free → scope.names.lookup y = some .free ∧ (cenv.kindOf y = some .cell ∨ cenv.kindOf y = some .free) := fun k hk hk' => by
        have hk0 := hk
        rw [hsc] at hk
        obtain ⟨k', e, r⟩ := lookup_relS hk
        have no : ¬ (k' = .local ∨ k' = .cell) := fun hh => by
          rcases ok.own _ (PySem.mem_of_lookup e) hh with e' | e'
          · obtain ⟨p, hp, hpy⟩ := List.mem_map.mp e'
            have e3 := ok.ix p hp
            have : p.1 = y := hpy
            rw [this] at e3
            exact hne (List.mem_map.mpr ⟨p, hp, nodup_ix hN e3 e1⟩)
          · exact e' (List.mem_of_getElem? e1)
        rcases r with rfl | ⟨rfl, rfl⟩
        · rcases hk' with rfl | rfl | rfl
          · exact absurd (.inl rfl) no
          · exact absurd (.inr rfl) no
          · exact ⟨e, .inr hk0⟩
        · exact ⟨e, .inl hk0⟩
      have e3 : Vis cenv.scope y := e3
      rcases e3 with e3 | e3 | e3
      · exact key _ e3 (.inl rfl)
      · exact key _ e3 (.inr (.inl rfl))
      · exact key _ e3 (.inr (.inr rfl))
    obtain ⟨m, hn, hl⟩ := I.loc
    have hvis : Vis X.env.scope y := (ok.free _ (PySem.mem_of_lookup hfr.1) rfl).elim (fun k => .inr (.inl k)) (fun k => .inr (.inr k))
    obtain ⟨w, r, q⟩ := hl i y av e1 e2 hvis
    refine ⟨w, r, .inr ⟨hfr.2, ?_⟩⟩
    obtain ⟨c, h1, h2⟩ := look hfr.1
    rcases q with ⟨k, _⟩ | ⟨_, c', e', z⟩
    · have k : X.env.scope.names.lookup y = some .local := k
      rcases ok.free _ (PySem.mem_of_lookup hfr.1) rfl with k' | k' <;> rw [show X.env.scope.names.lookup y = _ from k'] at k <;> cases k
    · rw [h2] at e'; cases e'
      exact ⟨c, h1, z.keeps kp⟩
  · have e : cenv.cells.lookup y = some c := e
    rcases mem e with ⟨h1, _⟩ | ⟨_, z⟩
    · obtain ⟨w, z⟩ := I.cell y c h1
      exact ⟨w, z.keeps kp⟩
    · exact ⟨_, z⟩
  · show H cenv.locals = none
    rw [hL]; exact I.hok.fresh (Nat.le_refl _)
  · have e : cenv.cells.lookup y = some c := e
    rcases mem e with ⟨h1, _⟩ | ⟨h1, _⟩
    · exact I.freeC y c h1
    · exact I.hok.fresh (Nat.le_of_succ_le h1)
  · exact absurd (show p ∈ ([] : List (Addr × Obj)) ++ [] from hp) (by simp)
theorem app_ok {E : Value → Shared → Prop} {D : Addr} {xs : List V} {y : V} {v : Value} {Q : Value → Shared → Prop} (I : Inv X pins σ H s) (hD : H D = some (.lst xs)) (hz : xs.length < sizeLine) (r : RelV y v)
    (h : ∀ s', Inv X pins σ (upd H D (.lst (xs ++ [y]))) s' → Q .none s') : wpAny (model X.prog X.w) X.A (call (.builtin "list.append") [.ref D, v]) Q E s := by
  obtain ⟨hz', its, n, ri, e⟩ := I.hok D _ hD
  have hl := ri.length
  refine append_at (hsz := by rw [List.size_toArray]; omega) e fun h' sb ho' => ?_
  refine h { s with heap := h' } (I.write (t' := s.toks) (by rw [hD]; trivial) (.inl rfl) (fun b u hb q => (sb.2 b hb).trans q) ⟨_, ho'⟩ ⟨by rw [List.length_append]; exact hz, its ++ [v], n + 1, ri.append (.cons r .nil), ?_⟩)
  rw [ho']
  simp
def PTs (X : Cx) (ifs : List Expr) (t : TT) : Prop :=
  ∀ (pins : List (Addr × Obj)) (s : Shared) (σ : St) (H : Hp) (Q : Bool → Hp → Prop), Inv X pins σ H s → t σ H Q →
    wpAny (model X.prog X.w) X.A (forIn ifs true fun c r => if r = true then do let ok ← isTrue c X.env (eval c X.env); pure (ForInStep.yield ok) else pure (ForInStep.yield r)) (TP X pins σ Q) X.xe s
def tYes : TT := fun _ H Q => Q true H
theorem pts_nil : PTs X [] tYes := fun _ _ _ H _ I h => wpAny_tests_nil ⟨H, I, h⟩
theorem pts_one {c : Expr} {t : TT} (h : PT X c t) : PTs X [c] t := fun pins s σ H Q I hw => wpAny_tests_one (h pins s σ H Q I hw)
end
theorem thnF {α : Type} {t : Sem α} {Q Q' : α → Shared → Prop} {M : Model} {A : Around} {E : Value → Shared → Prop} {s : Shared} (h : wpAny M A t Q (fun _ _ => False) s) (hQ : ∀ a s, Q a s → Q' a s) : wpAny M A t Q' E s := wpAny_mono h hQ fun _ _ z => False.elim z
theorem compLoop_any {prog : Program} {w : World} {A : Around} {R : Result → Shared → Prop} {s : Shared} {elt target iter : Expr} {ifs : List Expr} {scope : Scope} {pos : Pos} {it acc : Value} {env : Env} (I : Nat → Shared → Prop)
    (turn : ∀ n s, I n s → wpAny (model prog w) A (pyNext it) (fun r s₁ => match r with
      | none => R (.ok .next) s₁
      | some v => wpAny (model prog w) A (letOwnedTupleGo target it v) (fun _ s₁' => wpAny (model prog w) A (assign target env v) (fun _ s₂ =>
          wpAny (model prog w) A (forIn ifs true fun c r => if r = true then do let ok ← isTrue c env (eval c env); pure (ForInStep.yield ok) else pure (ForInStep.yield r)) (fun ok s₃ =>
            if ok = true then wpAny (model prog w) A (eval elt env) (fun x s₄ =>
              wpAny (model prog w) A (call (.builtin "list.append") [acc, x]) (fun _ s₅ => ∃ m, m < n ∧ I m s₅) (notedBy (model prog w) A env fun e s' => R (.error e) s') s₄) (notedBy (model prog w) A env fun e s' => R (.error e) s') s₃
            else ∃ m, m < n ∧ I m s₃) (notedBy (model prog w) A env fun e s' => R (.error e) s') s₂) (notedBy (model prog w) A env fun e s' => R (.error e) s') s₁') (notedBy (model prog w) A env fun e s' => R (.error e) s') s₁) (notedBy (model prog w) A env fun e s' => R (.error e) s') s)
    (n : Nat) (h : I n s) :
    codeAny (model prog w) A (.compLoop (.ListComp elt [⟨target, iter, ifs, 0⟩] scope pos) 0 it acc env) R s := by
  refine codeAny_loop rfl I (fun n s hI => ?_) n h
  show wpAny _ A ((compTurn (.ListComp elt [⟨target, iter, ifs, 0⟩] scope pos) 0 it acc env).onRaise (fun x => do noteFrame x env; theTreesLotGoes x)) _ _ s
  refine wpAny_noted ?_
  rw [compTurn_list]
  refine wpAny_bind (wpAny_standAt (wpAny_bind (wpAny_mono (turn n s hI) (fun r s₁ h₁ => ?_) fun _ _ h' => h')))
  cases r with
  | none => exact wpAny_pure h₁
  | some v =>
    refine wpAny_bind (wpAny_mono h₁ (fun _ s₁' h₁' => ?_) fun _ _ h' => h')
    refine wpAny_bind (wpAny_mono h₁' (fun _ s₂ h₂ => wpAny_bind (wpAny_mono h₂ (fun ok s₃ h₃ => ?_) fun _ _ h' => h')) fun _ _ h' => h')
    cases ok with
    | false => exact wpAny_pure ⟨rfl, h₃⟩
    | true =>
      exact wpAny_bind (wpAny_bind (wpAny_mono h₃ (fun x s₄ h₄ => wpAny_bind (wpAny_mono h₄ (fun _ s₅ h₅ => wpAny_pure (wpAny_pure ⟨rfl, h₅⟩)) fun _ _ h' => h')) fun _ _ h' => h'))
section
variable {X : Cx}
def tLc (wi : TI) (g : TG) (tt : TT) (te : TE) (vs : List Nat) : TE := fun σ H Q => wi σ H fun J H1 => ∀ D, H1 D = none → ∃ W : Nat → Nat → Hp → Prop, (∃ m, W 0 m (upd H1 D (.lst []))) ∧ ∀ i m H, W i m H →
  (J.stop i H ∧ Q (.ref D) H) ∨ (J.go i H ∧ ∃ Nx : Hp → Prop, (∀ H', Nx H' → ∃ m', m' < m ∧ W (i + 1) m' H') ∧ ∀ x H', J.yld i H x H' → g x (wipe σ vs) H' fun σ2 H2 => wipe σ2 vs = wipe σ vs ∧ tt σ2 H2 fun b H3 =>
    if b = true then te σ2 H3 fun y H4 => ∃ acc, H4 D = some (.lst acc) ∧ acc.length < sizeLine ∧ Nx (upd H4 D (.lst (acc ++ [y]))) else Nx H3)
theorem lc_core {pins : List (Addr × Obj)} {s : Shared} {σ : St} {H : Hp} {Q : VK} {elt tg iter : Expr} {ifs : List Expr} {scope : Scope} {own : List (Str × Nat)} {pos pos' : Pos} {wi : TI} {g : TG} {tt : TT} {te : TE} {use : Option (Value → Sem Unit)} {Qf : Value → Shared → Prop}
    (hc : X.calm = true) (hN : X.N.Nodup) (I : Inv X pins σ H s) (hi : PI X tg iter wi) (ok : BlkOk X.N X.env.scope scope own)
    (hg : ∀ (s : Shared) (H : Hp) (C : Addr) (cl : List (Str × Addr)) (fp : List Addr), PG (X.blk s H scope (compEnvC scope cl C X.env) fp) tg g) (ht : ∀ (s : Shared) (H : Hp) (C : Addr) (cl : List (Str × Addr)) (fp : List Addr), PTs (X.blk s H scope (compEnvC scope cl C X.env) fp) ifs tt)
    (he : ∀ (s : Shared) (H : Hp) (C : Addr) (cl : List (Str × Addr)) (fp : List Addr), PE (X.blk s H scope (compEnvC scope cl C X.env) fp) elt te) (hs : ∀ x, foldedSetIterable iter X.env x = pure x)
    (h : tLc wi g tt te (own.map (·.2)) σ H Q)
    (hRR : ∀ D C s' m H', Inv X pins σ H' s' → Q (.ref D) H' → s'.heap.Ns C m → FpOk X pins H' C → compPost (model X.prog X.w) X.A X.xe use Qf (.ref D) C (.ok .next) s') :
    wpAny (model X.prog X.w) X.A (comprehension (.ListComp elt [⟨tg, iter, ifs, 0⟩] scope pos) scope X.env pos' (newList []) false (eval iter X.env) use) Qf X.xe s := by
  have hfree : ∀ y ∈ scope.names, y.2 = .free → ∃ c, X.env.cells.lookup y.1 = some c := fun y hy e => by
    rcases ok.free y hy e with k | k
    · exact I.ok.has _ (.inl k)
    · exact I.ok.has _ (.inr k)
  refine wpAny_comprehension_free (use := use) rfl hs (closure_ok hfree) ok.kind (fun y hy e => by rw [ok.uniq y hy, e])
    (thn (hi pins s σ H _ I h) fun xv s1 hx => thn hx fun itv s2 h2 => ?_)
  obtain ⟨it, fp, tn, J, H2, e, I2, T, st2, f2, q⟩ := h2
  subst e
  refine wpAny_newObj_type (newEnv_comp ?_) (by show 0 ≤ sizeLine; decide)
  generalize hD : s2.heap.objs.size = D
  have hDn : H2 D = none := I2.hok.fresh (Nat.le_of_eq hD)
  obtain ⟨W, ⟨m0, w0⟩, turn⟩ := q D hDn
  generalize hs3 : ({ s2 with heap := s2.heap.push { cls := .type "list", data := .seq ([] : List Value).toArray } } : Shared) = s3
  have I3 : Inv X pins σ (upd H2 D (.lst [])) s3 := by
    rw [← hs3]
    refine I2.laid (t' := s2.toks) (fun b o e => Heap.get?_push_of_some _ e) (Nat.le_of_eq hD) ⟨Nat.zero_le _, [], 0, .nil, ?_⟩
    rw [← hD]
    exact Heap.get?_push_size _ rfl
  have h3 : s3.heap = s2.heap.push { cls := .type "list", data := .seq ([] : List Value).toArray } := by rw [← hs3]
  have sz : ∀ b ∈ fp, b < s2.heap.objs.size := fun b hb => by
    obtain ⟨o, e, _⟩ := T.obj _ _ st2 b hb
    exact Heap.lt_size e
  have f3 : ∀ b ∈ fp, FpOk X pins (upd H2 D (.lst [])) b ∧ b < s3.heap.objs.size := fun b hb => by
    have hlt := sz b hb
    refine ⟨⟨?_, (f2 b hb).2⟩, by rw [h3, Heap.size_push]; exact Nat.lt_succ_of_lt hlt⟩
    rw [upd_ne (by rw [← hD]; exact Nat.ne_of_lt hlt)]
    exact (f2 b hb).1
  have st3 : tn 0 s3.heap := T.keep _ _ _ st2 fun b _ o e => by rw [h3]; exact Heap.get?_push_of_some _ e
  have I4 := block_start I3 ok hN f3
  have pg := hg s3 (upd H2 D (.lst [])) s3.heap.objs.size (cellsFrom (s3.heap.objs.size + 1) scope.names (cloFrom X.env.cells scope.names [])) fp
  have pt := ht s3 (upd H2 D (.lst [])) s3.heap.objs.size (cellsFrom (s3.heap.objs.size + 1) scope.names (cloFrom X.env.cells scope.names [])) fp
  have pe := he s3 (upd H2 D (.lst [])) s3.heap.objs.size (cellsFrom (s3.heap.objs.size + 1) scope.names (cloFrom X.env.cells scope.names [])) fp
  show codeAny _ _ (.compStart (.ListComp elt [⟨tg, iter, ifs, 0⟩] scope pos) 0 (.ref it) (.ref D) (compEnvC scope (cellsFrom (s3.heap.objs.size + 1) scope.names (cloFrom X.env.cells scope.names [])) s3.heap.objs.size X.env)) (compPost (model X.prog X.w) X.A X.xe use Qf (.ref D) s3.heap.objs.size) { s3 with heap := pushCells (s3.heap.push { cls := .type "dict", data := .dict #[] }) scope.names }
  have nfp : ∀ b ∈ fp, (upd H2 D (.lst [])) b = none := fun b hb => (f3 b hb).1.1
  generalize hce : compEnvC scope (cellsFrom (s3.heap.objs.size + 1) scope.names (cloFrom X.env.cells scope.names [])) s3.heap.objs.size X.env = ce at I4 pg pt pe ⊢
  have cL : ce.locals = s3.heap.objs.size := by subst hce; rfl
  generalize hH3 : upd H2 D (.lst []) = H3 at I3 I4 pg pt pe w0 nfp f3
  generalize hs4 : ({ s3 with heap := pushCells (s3.heap.push { cls := .type "dict", data := .dict #[] }) scope.names } : Shared) = s4 at I4 ⊢
  have st4 : tn 0 s4.heap := T.keep _ _ _ st3 fun b _ o e => by rw [← hs4]; exact pushCells_keeps _ _ _ _ (Heap.get?_push_of_some _ e)
  have stat : ∀ {σ' : St} {H' : Hp} {s' : Shared}, Inv (X.blk s3 H3 scope ce fp) [] σ' H' s' → (∀ b ∈ fp, H' b = none) → ∀ b ∈ fp, FpOk (X.blk s3 H3 scope ce fp) [] H' b := fun {σ' H' s'} I' hn b hb =>
    ⟨hn b hb, (I'.ok.exf b hb).1, I'.ok.exfs b hb, .inl hb, fun x c e => (I'.ok.exf b hb).2 x c e, fun p hp => absurd (show p ∈ ([] : List (Addr × Obj)) ++ [] from hp) (by simp)⟩
  have loop : codeAny (model X.prog X.w) X.A (.compLoop (.ListComp elt [⟨tg, iter, ifs, 0⟩] scope pos) 0 (.ref it) (.ref D) ce) (compPost (model X.prog X.w) X.A X.xe use Qf (.ref D) s3.heap.objs.size) s4 := by
    refine compLoop_any (fun n s' => ∃ i H', Inv (X.blk s3 H3 scope ce fp) [] (wipe σ (own.map (·.2))) H' s' ∧ tn i s'.heap ∧ (∀ b ∈ fp, H' b = none) ∧ W i n H') ?_ m0 ⟨0, H3, I4, st4, nfp, w0⟩
    rintro n s5 ⟨i, H5, I5, st5, n5, w5⟩
    rcases turn i n H5 w5 with ⟨stop, qq⟩ | ⟨go, Nx, hNx, step⟩
    · have td := T.done (X.blk s3 H3 scope ce fp) rfl rfl rfl hc i [] s5 _ H5 (fun _ _ => False) I5 (stat I5 n5) st5 stop
      refine thnF td fun r s6 ⟨hr, I6⟩ => ?_
      subst hr
      have I7 : Inv X pins σ H5 s6 := I3.call' (ch := fp) I6.os I6.base I6.hok I6.bare fun b hb => ⟨(f3 b hb).1.2.2.2.1, (f3 b hb).1.2.1, (f3 b hb).1.2.2.2.2.1, (f3 b hb).1.2.2.2.2.2⟩
      have nC : H5 s3.heap.objs.size = none := by
        have z : H5 ce.locals = none := I6.free
        rw [cL] at z
        exact z
      obtain ⟨m, hn, _⟩ := I6.loc
      have hn : s6.heap.Ns ce.locals m := hn
      rw [cL] at hn
      exact hRR D s3.heap.objs.size s6 m H5 I7 qq hn (I3.fpOk (Nat.le_refl _) nC)
    · have ti := T.item (X.blk s3 H3 scope ce fp) rfl rfl rfl hc i [] s5 _ H5 (fun _ _ => False) I5 (stat I5 n5) st5 go
      refine thnF ti fun r s6 ⟨u, hr, h6⟩ => ?_
      subst hr
      refine thnF h6 fun _ s7 ⟨x, H7, I7, r7, y7, st7, n7⟩ => ?_
      have I7' := I7.pinned (stat I7 n7) (T.obj _ _ st7)
      refine thnF (pg _ s7 _ H7 x u _ I7' r7 (step x H7 y7)) fun _ s8 ⟨σ8, H8, I8, hw8, q8⟩ => ?_
      refine thnF (pt _ s8 σ8 H8 _ I8 q8) fun b s9 ⟨H9, I9, q9⟩ => ?_
      have fin : ∀ {s' : Shared} {H' : Hp}, Inv (X.blk s3 H3 scope ce fp) ([] ++ pinsAt fp s7.heap) σ8 H' s' → Nx H' → ∃ m, m < n ∧ ∃ i H', Inv (X.blk s3 H3 scope ce fp) [] (wipe σ (own.map (·.2))) H' s' ∧ tn i s'.heap ∧ (∀ b ∈ fp, H' b = none) ∧ W i m H' := fun {s' H'} I' nx => by
        obtain ⟨m', hm, w'⟩ := hNx H' nx
        have pin' : ∀ b ∈ fp, ∀ o, s7.heap.get? b = some o → s'.heap.get? b = some o ∧ H' b = none := fun b hb o e =>
          let z := I'.pin (b, o) (List.mem_append_right _ (List.mem_append_right _ (mem_pinsAt hb e)))
          ⟨z.1, z.2.1⟩
        have hl : (wipe σ (own.map (·.2))).length = σ8.length := by rw [← hw8, wipe_length]
        refine ⟨m', hm, i + 1, H', (I'.unpinned (pins := [])).weak hl (fun j v e => ?_), T.keep _ _ _ st7 fun b hb o e => (pin' b hb o e).1, fun b hb => ?_, w'⟩
        · rw [← hw8] at e
          exact (wipe_some e).1
        · obtain ⟨o, e, _⟩ := T.obj _ _ st7 b hb
          exact (pin' b hb o e).2
      cases b with
      | false =>
        simp only [Bool.false_eq_true, if_false] at q9 ⊢
        exact fin I9 q9
      | true =>
        simp only [if_true] at q9 ⊢
        refine thnF (pe _ s9 σ8 H9 _ I9 q9) fun z s10 ⟨yv, H10, I10, r10, acc, hD10, hz10, nx⟩ => ?_
        exact app_ok (X := X.blk s3 H3 scope ce fp) I10 hD10 hz10 r10 fun s11 I11 => fin I11 nx
  exact codeAny_compStart_list loop (T.self X.A 0 _ _ _ st4 loop)
theorem pe_lc {elt tg iter : Expr} {ifs : List Expr} {scope : Scope} {own : List (Str × Nat)} {pos : Pos} {wi : TI} {g : TG} {tt : TT} {te : TE} (hc : X.calm = true) (hN : X.N.Nodup) (hi : PI X tg iter wi) (ok : BlkOk X.N X.env.scope scope own)
    (hg : ∀ (s : Shared) (H : Hp) (C : Addr) (cl : List (Str × Addr)) (fp : List Addr), PG (X.blk s H scope (compEnvC scope cl C X.env) fp) tg g) (ht : ∀ (s : Shared) (H : Hp) (C : Addr) (cl : List (Str × Addr)) (fp : List Addr), PTs (X.blk s H scope (compEnvC scope cl C X.env) fp) ifs tt)
    (he : ∀ (s : Shared) (H : Hp) (C : Addr) (cl : List (Str × Addr)) (fp : List Addr), PE (X.blk s H scope (compEnvC scope cl C X.env) fp) elt te) (hs : ∀ x, foldedSetIterable iter X.env x = pure x := by intro _; rfl) :
    PE X (.ListComp elt [⟨tg, iter, ifs, 0⟩] scope pos) (tLc wi g tt te (own.map (·.2))) := by
  intro pins s σ H Q I h
  rw [eval_ListComp]
  refine lc_core hc hN I hi ok hg ht he hs h fun D C s' m H' I' q hn f => ⟨m, hn, fun h'' sb => ?_⟩
  obtain ⟨f0, f1, f2, f3, f4, f5⟩ := f
  exact ⟨.ref D, H', I'.turned (t' := s'.toks) (fun b o hb e => (sb.2 b hb).trans e) f0 f1 f3 f4 f5, rfl, q⟩
theorem ps_setLc {i : Nat} {y : Str} {py : Pos} {elt tg iter : Expr} {ifs : List Expr} {scope : Scope} {own : List (Str × Nat)} {pos spos : Pos} {wi : TI} {g : TG} {tt : TT} {te : TE} (hc : X.calm = true) (hN : X.N.Nodup) (hy : X.N[i]? = some y) (hyl : X.env.scope.names.lookup y = some .local)
    (hsw : swapsWith (.ListComp elt [⟨tg, iter, ifs, 0⟩] scope pos) (some (.Name y py)) spos.line X.env = pure true) (hi : PI X tg iter wi) (ok : BlkOk X.N X.env.scope scope own)
    (hg : ∀ (s : Shared) (H : Hp) (C : Addr) (cl : List (Str × Addr)) (fp : List Addr), PG (X.blk s H scope (compEnvC scope cl C X.env) fp) tg g) (ht : ∀ (s : Shared) (H : Hp) (C : Addr) (cl : List (Str × Addr)) (fp : List Addr), PTs (X.blk s H scope (compEnvC scope cl C X.env) fp) ifs tt)
    (he : ∀ (s : Shared) (H : Hp) (C : Addr) (cl : List (Str × Addr)) (fp : List Addr), PE (X.blk s H scope (compEnvC scope cl C X.env) fp) elt te) (hs : ∀ x, foldedSetIterable iter X.env x = pure x := by intro _; rfl) :
    PS X (.Assign [.Name y py] (.ListComp elt [⟨tg, iter, ifs, 0⟩] scope pos) spos) (tAsg (tLc wi g tt te (own.map (·.2))) (gName i)) := by
  intro pins s σ H D I h
  rw [exec_Assign_Name_used _ _ _ _ hsw]
  refine wpAny_bind (wpAny_standAt (wpAny_bind ?_))
  show wpAny _ X.A (do let _ ← comprehension (.ListComp elt [⟨tg, iter, ifs, 0⟩] scope pos) scope X.env (firstIterPos [⟨tg, iter, ifs, 0⟩] pos) (newList []) false (eval iter X.env) (some (assign (.Name y py) X.env))) _ _ s
  have h : tLc wi g tt te (own.map (·.2)) σ H (fun x H1 => gName i x σ H1 D.nx) := h
  refine wpAny_bind (thn (lc_core (Qf := fun _ s' => SP X pins D .next s') hc hN I hi ok hg ht he hs h fun L C s' m H' I' q hn f => ?_) fun _ s' hq => wpAny_pure (wpAny_pure hq))
  show wpAny _ _ (assign (.Name y py) X.env (.ref L)) _ _ _
  refine wpAny_assign_Name (store_ok2 (v := V.ref L) I' hN hy (.inl hyl) rfl (fun s2 I2 ⟨a, sb, ha⟩ => ?_) (.inr hyl))
  obtain ⟨f0, f1, f2, f3, f4, f5⟩ := f
  have haC : C ≠ a := by
    rcases ha with z | z
    · rw [z]; exact f1
    · exact fun e => f4 y a z e.symm
  refine ⟨m, hn.sameBut sb haC, fun h3 sb3 => ?_⟩
  exact ⟨_, H', I2.turned (t' := s2.toks) (fun b o hb e => (sb3.2 b hb).trans e) f0 f1 f3 f4 f5, q⟩
theorem sw_true {elt : Expr} {gs : List Comprehension} {scope : Scope} {pos py : Pos} {y : Str} {l : Nat} {env : Env} (hk : env.scope.kind = .function) (hy : env.scope.names.lookup y = some .local) (hl : (py.line == pos.line) = true)
    (ha : (scope.names.any fun (n, k) => n == y && (k == .local || k == .cell)) = false) : swapsWith (.ListComp elt gs scope pos) (some (.Name y py)) l env = pure true := by
  have ky : env.kindOf y = some .local := hy
  have hb : env.blockKind = .function := by unfold Env.blockKind; rw [hk]; rfl
  unfold swapsWith
  simp only [hb, ky, ha, Expr.pos, hl]
  rfl
end
theorem lc_range {lo : Int} {n : Nat} {g : TG} {tt : TT} {te : TE} {vs : List Nat} {σ : St} {H1 : Hp} {D : Addr} {Qd : Hp → Prop} (Pv : Nat → Hp → Prop) (h0 : Pv 0 (upd H1 D (.lst [])))
    (hs : ∀ i H, i < n → Pv i H → g (.int (lo + i)) (wipe σ vs) H fun σ2 H2 => wipe σ2 vs = wipe σ vs ∧ tt σ2 H2 fun b H3 =>
      if b = true then te σ2 H3 fun y H4 => ∃ acc, H4 D = some (.lst acc) ∧ acc.length < sizeLine ∧ Pv (i + 1) (upd H4 D (.lst (acc ++ [y]))) else Pv (i + 1) H3) (hd : ∀ H, Pv n H → Qd H) :
    ∃ W : Nat → Nat → Hp → Prop, (∃ m, W 0 m (upd H1 D (.lst []))) ∧ ∀ i m H, W i m H →
      ((Itr lo n).stop i H ∧ Qd H) ∨ ((Itr lo n).go i H ∧ ∃ Nx : Hp → Prop, (∀ H', Nx H' → ∃ m', m' < m ∧ W (i + 1) m' H') ∧ ∀ x H', (Itr lo n).yld i H x H' → g x (wipe σ vs) H' fun σ2 H2 => wipe σ2 vs = wipe σ vs ∧ tt σ2 H2 fun b H3 =>
        if b = true then te σ2 H3 fun y H4 => ∃ acc, H4 D = some (.lst acc) ∧ acc.length < sizeLine ∧ Nx (upd H4 D (.lst (acc ++ [y]))) else Nx H3) := by
  refine ⟨fun i m H => m = n - i ∧ i ≤ n ∧ Pv i H, ⟨n, by simp, Nat.zero_le _, h0⟩, ?_⟩
  rintro i m H ⟨rfl, hi, p⟩
  by_cases hlt : i < n
  · refine .inr ⟨hlt, Pv (i + 1), fun H' p' => ⟨n - (i + 1), by omega, rfl, hlt, p'⟩, fun x H' y => ?_⟩
    obtain ⟨e, y⟩ := y
    subst e y
    exact hs i _ hlt p
  · have e : i = n := by omega
    subst e
    exact .inl ⟨Nat.le_refl _, hd H p⟩
theorem lc_list {K : PySem.W.Frag} {a : Addr} {xs : List V} {g : TG} {tt : TT} {te : TE} {vs : List Nat} {σ : St} {H1 : Hp} {D : Addr} {Qd : Hp → Prop} (Pv : Nat → Hp → Prop) (h0 : Pv 0 (upd H1 D (.lst []))) (hl : ∀ i H, i ≤ xs.length → Pv i H → SqL K H a xs)
    (hs : ∀ i x H, xs[i]? = some x → Pv i H → g x (wipe σ vs) H fun σ2 H2 => wipe σ2 vs = wipe σ vs ∧ tt σ2 H2 fun b H3 =>
      if b = true then te σ2 H3 fun y H4 => ∃ acc, H4 D = some (.lst acc) ∧ acc.length < sizeLine ∧ Pv (i + 1) (upd H4 D (.lst (acc ++ [y]))) else Pv (i + 1) H3) (hd : ∀ H, Pv xs.length H → Qd H) :
    ∃ W : Nat → Nat → Hp → Prop, (∃ m, W 0 m (upd H1 D (.lst []))) ∧ ∀ i m H, W i m H →
      ((Itl K a).stop i H ∧ Qd H) ∨ ((Itl K a).go i H ∧ ∃ Nx : Hp → Prop, (∀ H', Nx H' → ∃ m', m' < m ∧ W (i + 1) m' H') ∧ ∀ x H', (Itl K a).yld i H x H' → g x (wipe σ vs) H' fun σ2 H2 => wipe σ2 vs = wipe σ vs ∧ tt σ2 H2 fun b H3 =>
        if b = true then te σ2 H3 fun y H4 => ∃ acc, H4 D = some (.lst acc) ∧ acc.length < sizeLine ∧ Nx (upd H4 D (.lst (acc ++ [y]))) else Nx H3) := by
  refine ⟨fun i m H => m = xs.length - i ∧ i ≤ xs.length ∧ Pv i H, ⟨xs.length, by simp, Nat.zero_le _, h0⟩, ?_⟩
  rintro i m H ⟨rfl, hi, p⟩
  have q := hl i H hi p
  by_cases hlt : i < xs.length
  · refine .inr ⟨⟨xs, xs[i], q, by simp [hlt]⟩, Pv (i + 1), fun H' p' => ⟨xs.length - (i + 1), by omega, rfl, hlt, p'⟩, fun x H' y => ?_⟩
    obtain ⟨e, y⟩ := y
    subst e
    exact hs i x _ (y xs q) p
  · have e : i = xs.length := by omega
    subst e
    exact .inl ⟨⟨xs, q, Nat.le_refl _⟩, hd H p⟩
def blkC (N : List Str) (sc scope : Scope) (own : List (Str × Nat)) : Bool :=
  (match scope.kind with | .function => true | _ => false) && (scope.names.all fun y => decide (scope.names.lookup y.1 = some y.2)) && (own.all fun p => decide (N[p.2]? = some p.1)) &&
    (scope.names.all fun y => match y.2 with
      | .free => (match sc.names.lookup y.1 with | some .cell => true | some .free => true | _ => false)
      | .local => decide (y.1 ∈ own.map (·.1)) || decide (y.1 ∉ N)
      | .cell => decide (y.1 ∈ own.map (·.1)) || decide (y.1 ∉ N)
      | _ => true)
theorem blkOk_by {N : List Str} {sc scope : Scope} {own : List (Str × Nat)} (h : blkC N sc scope own = true) : BlkOk N sc scope own := by
  unfold blkC at h
  simp only [Bool.and_eq_true, List.all_eq_true, decide_eq_true_eq] at h
  obtain ⟨⟨⟨h1, h2⟩, h3⟩, h4⟩ := h
  refine ⟨?_, h2, h3, fun y hy e => ?_, fun y hy e => ?_⟩
  · split at h1
    · assumption
    · cases h1
  · have q := h4 y hy
    simp only [e] at q
    split at q <;> first | exact .inl (by assumption) | exact .inr (by assumption) | cases q
  · have q := h4 y hy
    rcases e with e | e <;> (simp only [e, Bool.or_eq_true, decide_eq_true_eq] at q; exact q)
end L2
namespace L2
open PySem PySem.Spec PyProof.Rows
section
variable {prog : Program} {w : World} {A : Around} {R : Result → Shared → Prop} {s : Shared} {elt t0 i0 t1 i1 : Expr} {ifs0 ifs1 : List Expr} {scope : Scope} {pos : Pos} {it acc : Value} {env : Env}
end
section
variable {X : Cx}
end
end L2
namespace L2
open PySem PySem.Spec PyProof.Rows
section
variable {κ : Type} [DecidableEq κ]
def valV (kvs : List (κ × V)) (k : κ) : Option V := (kvs.find? fun kv => decide (kv.1 = k)).map (·.2)
def putK (kvs : List (κ × V)) (k : κ) (v : V) : List (κ × V) :=
  if (kvs.any fun kv => decide (kv.1 = k)) = true then kvs.map (fun kv => if kv.1 = k then (kv.1, v) else kv) else kvs ++ [(k, v)]
def dropK (kvs : List (κ × V)) (k : κ) : List (κ × V) := kvs.filter fun kv => decide (kv.1 ≠ k)
theorem valV_pos {p : κ × V} {r : List (κ × V)} {k : κ} (e : p.1 = k) : valV (p :: r) k = some p.2 := by simp [valV, List.find?_cons, e]
theorem valV_neg {p : κ × V} {r : List (κ × V)} {k : κ} (e : ¬ p.1 = k) : valV (p :: r) k = valV r k := by simp [valV, List.find?_cons, e]
theorem valV_any (k : κ) : ∀ kvs : List (κ × V), (kvs.any fun kv => decide (kv.1 = k)) = (valV kvs k).isSome
  | [] => rfl
  | p :: r => by
    rw [List.any_cons]
    by_cases e : p.1 = k
    · simp only [valV_pos e, decide_eq_true e, Bool.true_or, Option.isSome_some]
    · rw [valV_neg e, decide_eq_false e, Bool.false_or]; exact valV_any k r
theorem valV_map (k j : κ) (y : V) : ∀ kvs : List (κ × V), valV (kvs.map fun kv => if kv.1 = k then (kv.1, y) else kv) j = (valV kvs j).map fun x => if j = k then y else x
  | [] => rfl
  | p :: r => by
    have ih := valV_map k j y r
    rw [List.map_cons]
    by_cases h : p.1 = k
    · rw [if_pos h]
      by_cases e : p.1 = j
      · rw [valV_pos (p := (p.1, y)) e, valV_pos e, Option.map_some, if_pos (e.symm.trans h)]
      · rw [valV_neg (p := (p.1, y)) e, valV_neg e, ih]
    · rw [if_neg h]
      by_cases e : p.1 = j
      · rw [valV_pos (p := p) e, valV_pos e, Option.map_some, if_neg (fun z => h (e.trans z))]
      · rw [valV_neg (p := p) e, valV_neg e, ih]
theorem valV_snoc (k j : κ) (y : V) : ∀ kvs : List (κ × V), valV kvs k = none → valV (kvs ++ [(k, y)]) j = if j = k then some y else valV kvs j
  | [], _ => by
    by_cases e : k = j
    · rw [if_pos e.symm]; exact valV_pos (p := (k, y)) e
    · rw [if_neg (fun z => e z.symm)]; exact valV_neg (p := (k, y)) e
  | p :: r, hn => by
    rw [List.cons_append]
    have hk : ¬ p.1 = k := fun z => by rw [valV_pos z] at hn; cases hn
    rw [valV_neg hk] at hn
    have ih := valV_snoc k j y r hn
    by_cases e : p.1 = j
    · rw [valV_pos e, valV_pos e, if_neg (fun z => hk (e.trans z))]
    · rw [valV_neg e, valV_neg e, ih]
theorem valV_put (kvs : List (κ × V)) (k j : κ) (y : V) : valV (putK kvs k y) j = if j = k then some y else valV kvs j := by
  unfold putK
  by_cases a : (kvs.any fun kv => decide (kv.1 = k)) = true
  · rw [if_pos a, valV_map]
    rw [valV_any] at a
    by_cases e : j = k
    · obtain ⟨x, hx⟩ := Option.isSome_iff_exists.mp a
      rw [if_pos e, e, hx, Option.map_some, if_pos rfl]
    · rw [if_neg e]
      cases valV kvs j with
      | none => rfl
      | some x => rw [Option.map_some, if_neg e]
  · rw [if_neg a]
    refine valV_snoc k j y kvs ?_
    rw [valV_any] at a
    cases q : valV kvs k with
    | none => rfl
    | some x => rw [q] at a; exact (a rfl).elim
theorem length_putK (kvs : List (κ × V)) (k : κ) (v : V) : (putK kvs k v).length ≤ kvs.length + 1 := by
  unfold putK
  split
  · rw [List.length_map]; omega
  · rw [List.length_append, List.length_cons, List.length_nil]; omega
theorem RelO.isSome_eq {o : Option V} {u : Option Value} (r : RelO o u) : o.isSome = u.isSome := by
  cases o with
  | none => cases u with
    | none => rfl
    | some _ => exact (show False from r).elim
  | some _ => cases u with
    | none => exact (show False from r).elim
    | some _ => rfl
theorem RelO.getD {o : Option V} {u : Option Value} {d : V} {d' : Value} (r : RelO o u) (rd : RelV d d') : RelV (o.getD d) (u.getD d') := by
  cases o with
  | none => cases u with
    | none => exact rd
    | some _ => exact (show False from r).elim
  | some _ => cases u with
    | none => exact (show False from r).elim
    | some _ => exact r
theorem KV.val {kvs : List (κ × V)} {vs : List (κ × Value)} (r : KV kvs vs) (k : κ) : RelO (valV kvs k) (valueAt vs k) := by
  unfold KV at r
  induction r with
  | nil => exact True.intro
  | @cons p q ps qs h t ih =>
    obtain ⟨h1, h2⟩ := h
    by_cases e : p.1 = k
    · have e' : q.1 = k := h1.symm.trans e
      have b : valueAt (q :: qs) k = some q.2 := by simp [valueAt, List.find?_cons, e']
      rw [valV_pos e, b]; exact h2
    · have e' : ¬ q.1 = k := fun z => e (h1.trans z)
      have b : valueAt (q :: qs) k = valueAt qs k := by simp [valueAt, List.find?_cons, e']
      rw [valV_neg e, b]; exact ih
theorem KV.any {kvs : List (κ × V)} {vs : List (κ × Value)} (r : KV kvs vs) (k : κ) : (kvs.any fun kv => decide (kv.1 = k)) = vs.any fun kv => decide (kv.1 = k) := by
  unfold KV at r
  induction r with
  | nil => rfl
  | cons h t ih => rw [List.any_cons, List.any_cons, ih, h.1]
theorem KV.repl {kvs : List (κ × V)} {vs : List (κ × Value)} (r : KV kvs vs) (k : κ) {y : V} {u : Value} (ry : RelV y u) :
    KV (kvs.map fun kv => if kv.1 = k then (kv.1, y) else kv) (vs.map fun kv => if kv.1 = k then (kv.1, u) else kv) := by
  unfold KV at r ⊢
  induction r with
  | nil => exact .nil
  | @cons p q ps qs h t ih =>
    rw [List.map_cons, List.map_cons]
    refine .cons ?_ ih
    obtain ⟨h1, h2⟩ := h
    by_cases e : p.1 = k
    · rw [if_pos e, if_pos (h1.symm.trans e)]; exact ⟨h1, ry⟩
    · rw [if_neg e, if_neg (fun z => e (h1.trans z))]; exact ⟨h1, h2⟩
theorem KV.put {kvs : List (κ × V)} {vs : List (κ × Value)} (r : KV kvs vs) (k : κ) {y : V} {u : Value} (ry : RelV y u) : KV (putK kvs k y) (stored vs k u) := by
  unfold putK stored
  rw [r.any k]
  by_cases e : (vs.any fun kv => decide (kv.1 = k)) = true
  · rw [if_pos e, if_pos e]; exact r.repl k ry
  · rw [if_neg e, if_neg e]; exact Paired.snoc r ⟨rfl, ry⟩
theorem KV.drop {kvs : List (κ × V)} {vs : List (κ × Value)} (r : KV kvs vs) (k : κ) : KV (dropK kvs k) (without vs k) := by
  unfold KV at r ⊢
  unfold dropK without
  induction r with
  | nil => exact .nil
  | @cons p q ps qs h t ih =>
    obtain ⟨h1, h2⟩ := h
    rw [List.filter_cons, List.filter_cons]
    by_cases e : p.1 = k
    · have a : ¬ decide (p.1 ≠ k) = true := by simp [e]
      have b : ¬ decide (q.1 ≠ k) = true := by simp [h1.symm.trans e]
      rw [if_neg a, if_neg b]; exact ih
    · have e' : ¬ q.1 = k := fun z => e (h1.trans z)
      have a : decide (p.1 ≠ k) = true := by simp [e]
      have b : decide (q.1 ≠ k) = true := by simp [e']
      rw [if_pos a, if_pos b]; exact .cons ⟨h1, h2⟩ ih
theorem KV.length {kvs : List (κ × V)} {vs : List (κ × Value)} (r : KV kvs vs) : kvs.length = vs.length := Paired.length r
end
theorem kV_is {P : Program} {w : World} {k : Key} {u : Value} (r : RelV (kV k) u) : (mixKind P w).is k u = true := by
  cases k with
  | inl i => obtain ⟨t, e⟩ := (show ∃ t, u = Value.int i t from r); subst e; exact mixKind_int P w i t
  | inr x => obtain ⟨t, e⟩ := (show ∃ t, u = Value.str x t from r); subst e; exact mixKind_str P w x t
theorem items_are {P : Program} {w : World} : ∀ {ks : List Key} {us : List Value}, Vals (ks.map kV) us → ItemsAre (mixKind P w) ks us
  | [], _, r => by rw [List.map_nil] at r; cases r; exact .nil
  | k :: ks, _, r => by
    rw [List.map_cons] at r
    cases r with
    | cons h t => exact .cons (kV_is h) (items_are t)
abbrev KT (H : Hp) : List (List Key × V) → List (List Key × Addr × Value) → Prop := Paired fun p q => p.1 = q.1 ∧ H q.2.1 = some (.tup (p.1.map kV)) ∧ RelV p.2 q.2.2
theorem KT.val {H : Hp} {kvs : List (List Key × V)} {xs : List (List Key × Addr × Value)} (r : KT H kvs xs) (k : List Key) : RelO (valV kvs k) ((atKey xs k).map (·.2)) := by
  induction r with
  | nil => exact True.intro
  | @cons p q ps qs h t ih =>
    obtain ⟨h1, _, h2⟩ := h
    by_cases e : p.1 = k
    · have e' : q.1 = k := h1.symm.trans e
      have b : atKey (q :: qs) k = some q.2 := by simp [atKey, List.find?_cons, e']
      rw [valV_pos e, b]; exact h2
    · have e' : ¬ q.1 = k := fun z => e (h1.trans z)
      have b : atKey (q :: qs) k = atKey qs k := by simp [atKey, List.find?_cons, e']
      rw [valV_neg e, b]; exact ih
theorem KT.repl {H : Hp} {kvs : List (List Key × V)} {xs : List (List Key × Addr × Value)} (r : KT H kvs xs) (k : List Key) {y : V} {u : Value} (ry : RelV y u) :
    KT H (kvs.map fun kv => if kv.1 = k then (kv.1, y) else kv) (xs.map (putAt k u)) := by
  induction r with
  | nil => exact .nil
  | @cons p q ps qs h t ih =>
    rw [List.map_cons, List.map_cons]
    refine .cons ?_ ih
    obtain ⟨h1, h2, h3⟩ := h
    unfold putAt
    by_cases e : p.1 = k
    · rw [if_pos e, if_pos (h1.symm.trans e)]; exact ⟨h1, h2, ry⟩
    · rw [if_neg e, if_neg (fun z => e (h1.trans z))]; exact ⟨h1, h2, h3⟩
theorem KT.put {H : Hp} {kvs : List (List Key × V)} {xs : List (List Key × Addr × Value)} (r : KT H kvs xs) (k : List Key) {b : Addr} {y : V} {u : Value} (hb : H b = some (.tup (k.map kV))) (ry : RelV y u) :
    KT H (putK kvs k y) (storedH xs k b u) := by
  have e : (kvs.any fun kv => decide (kv.1 = k)) = (atKey xs k).isSome := by
    rw [valV_any, (r.val k).isSome_eq, Option.isSome_map]
  unfold putK storedH
  rw [e]
  by_cases q : (atKey xs k).isSome = true
  · rw [if_pos q, if_pos q]; exact r.repl k ry
  · rw [if_neg q, if_neg q]; exact Paired.snoc r ⟨rfl, hb, ry⟩
theorem KT.keeps {H H' : Hp} {kvs : List (List Key × V)} {xs : List (List Key × Addr × Value)} (r : KT H kvs xs) (ht : ∀ b ys, H b = some (.tup ys) → H' b = some (.tup ys)) : KT H' kvs xs :=
  Paired.mapP r fun _ _ z => ⟨z.1, ht _ _ z.2.1, z.2.2⟩
section
variable {P : Program} {w : World} {H : Hp} {h : Heap} {a : Addr}
theorem rd_of {u : HO} (ok : HOk P w H h) (e : Rd H a u) : ObjOk P w H h a u := e.ok ok
theorem dk_rd {kvs : List (Key × V)} (ok : HOk P w H h) (e : Rd H a (.dK kvs)) : kvs.length ≤ sizeLine ∧ (a == sysModules) = false ∧ ∃ vs, KV kvs vs ∧ h.DictOf (mixKind P w) a vs :=
  show ObjOk P w H h a (.dK kvs) from rd_of ok e
theorem dk_of {kvs : List (Key × V)} (ok : HOk P w H h) (e : H a = some (.dK kvs)) : kvs.length ≤ sizeLine ∧ (a == sysModules) = false ∧ ∃ vs, KV kvs vs ∧ h.DictOf (mixKind P w) a vs := dk_rd ok (.inl e)
theorem key_of {ks : List Key} (ok : HOk P w H h) (e : H a = some (.tup (ks.map kV))) : (tupleKind (mixKind P w)).is h ks a := by
  obtain ⟨_, its, r, o, h1, h2, n, h3⟩ := (show ObjOk P w H h a (.tup (ks.map kV)) from ok a _ e)
  exact ⟨o, its.toArray, n, h1, h2, h3, by simpa using items_are r⟩
theorem dt_rd {kvs : List (List Key × V)} (ok : HOk P w H h) (e : Rd H a (.dT kvs)) : kvs.length ≤ sizeLine ∧ (a == sysModules) = false ∧
    ∃ xs, KT H kvs xs ∧ h.DictOfH (tupleKind (mixKind P w)) a xs := by
  obtain ⟨z, y, xs, r, o, es, ep, h1, h2, h3, h4, h5⟩ := (show ObjOk P w H h a (.dT kvs) from rd_of ok e)
  refine ⟨z, y, xs, r, o, es, ep, h1, h2, h3, h4, fun x hx => ?_, h5⟩
  have all : ∀ {l : List (List Key × V)} {m : List (List Key × Addr × Value)}, KT H l m → ∀ x ∈ m, (tupleKind (mixKind P w)).is h x.1 x.2.1 := by
    intro l m q
    induction q with
    | nil => intro x hx; exact nomatch hx
    | @cons p q ps qs hq t ih =>
      intro x hx
      rcases List.mem_cons.mp hx with e | hx
      · subst e
        exact key_of ok (by rw [← hq.1]; exact hq.2.1)
      · exact ih x hx
  exact all r x hx
theorem dt_of {kvs : List (List Key × V)} (ok : HOk P w H h) (e : H a = some (.dT kvs)) : kvs.length ≤ sizeLine ∧ (a == sysModules) = false ∧
    ∃ xs, KT H kvs xs ∧ h.DictOfH (tupleKind (mixKind P w)) a xs := dt_rd ok (.inl e)
end
def DGet (H : Hp) (a : Addr) (y : V) (r : Option V) : Prop :=
  (∃ kvs k, Rd H a (.dK kvs) ∧ y = kV k ∧ r = valV kvs k) ∨ ∃ kvs k b, Rd H a (.dT kvs) ∧ y = .ref b ∧ H b = some (.tup (k.map kV)) ∧ r = valV kvs k
def DPut (H : Hp) (a : Addr) (y v : V) (H' : Hp) : Prop :=
  (∃ kvs k, H a = some (.dK kvs) ∧ y = kV k ∧ kvs.length < sizeLine ∧ H' = upd H a (.dK (putK kvs k v))) ∨
  ∃ kvs k b, H a = some (.dT kvs) ∧ y = .ref b ∧ H b = some (.tup (k.map kV)) ∧ kvs.length < sizeLine ∧ H' = upd H a (.dT (putK kvs k v))
theorem DGet.k {H : Hp} {a : Addr} {kvs : List (Key × V)} {k : Key} (e : H a = some (.dK kvs)) : DGet H a (kV k) (valV kvs k) := .inl ⟨kvs, k, .inl e, rfl, rfl⟩
theorem DGet.t {H : Hp} {a b : Addr} {kvs : List (List Key × V)} {k : List Key} (e : H a = some (.dT kvs)) (eb : H b = some (.tup (k.map kV))) : DGet H a (.ref b) (valV kvs k) := .inr ⟨kvs, k, b, .inl e, rfl, eb, rfl⟩
theorem DPut.k {H : Hp} {a : Addr} {kvs : List (Key × V)} {k : Key} {v : V} (e : H a = some (.dK kvs)) (hl : kvs.length < sizeLine) : DPut H a (kV k) v (upd H a (.dK (putK kvs k v))) := .inl ⟨kvs, k, e, rfl, hl, rfl⟩
theorem DPut.t {H : Hp} {a b : Addr} {kvs : List (List Key × V)} {k : List Key} {v : V} (e : H a = some (.dT kvs)) (eb : H b = some (.tup (k.map kV))) (hl : kvs.length < sizeLine) :
    DPut H a (.ref b) v (upd H a (.dT (putK kvs k v))) := .inr ⟨kvs, k, b, e, rfl, eb, hl, rfl⟩
section
variable {X : Cx} {pins : List (Addr × Obj)} {σ : St} {H : Hp} {s : Shared} {a : Addr} {y v : V} {u r : Value} {o : Option V} {A : Around} {E : Value → Shared → Prop}
theorem Inv.big (I : Inv X pins σ H s) : sysModules < s.heap.objs.size := by
  have h : mainGlobals < s.heap.objs.size := (I.mod.glob.keeps I.bk).lt
  exact Nat.lt_trans (by decide) h
theorem d_getItem {Q : Value → Shared → Prop} (hu : A.units + 1 < cLine) (I : Inv X pins σ H s) (g : DGet H a y (some v)) (ry : RelV y u) (h : ∀ w' s', Inv X pins σ H s' → RelV v w' → Q w' s') :
    wpAny (model X.prog X.w) A (getItem (.ref a) u) Q E s := by
  rcases g with ⟨kvs, k, e, ey, l⟩ | ⟨kvs, k, b, e, ey, eb, l⟩
  · subst ey
    obtain ⟨z, hd, vs, rel, dd⟩ := dk_rd I.hok e
    obtain ⟨w', hw, rw'⟩ := RelO.some_of (v := v) (o := valueAt vs k) (by rw [l]; exact rel.val k)
    exact wpAny_getItem_of (kV_is ry) dd.mapOf hw (h w' _ (I.tok _) rw')
  · subst ey
    cases (show u = Value.ref b from ry)
    obtain ⟨z, hd, xs, rel, dd⟩ := dt_rd I.hok e
    obtain ⟨w', hw, rw'⟩ := RelO.some_of (v := v) (o := (atKey xs k).map (·.2)) (by rw [l]; exact rel.val k)
    obtain ⟨p, hp, hp2⟩ := Option.map_eq_some_iff.mp hw
    refine wpAny_getItem_heap (tupleKind_room_in1 hu) (key_of I.hok eb) dd hp ?_
    rw [hp2]
    exact h w' _ (I.tok _) rw'
theorem d_write {h' : Heap} {t' : Nat} {ob : HO} (I : Inv X pins σ H s) (mu : Mut (H a)) (hs : Heap.SameBut a s.heap h') (he : ∃ q, h'.get? a = some q) (new : ObjOk X.prog X.w (upd H a ob) h' a ob) :
    Inv X pins σ (upd H a ob) { s with heap := h', toks := t' } :=
  I.write (x := a) (e := a) mu (.inl rfl) (fun b q hb z => (hs.2 b hb).trans z) he new
theorem dk_new {P : Program} {w : World} {H' : Hp} {h' : Heap} {kvs : List (Key × V)} {vs : List (Key × Value)} (z : kvs.length ≤ sizeLine) (hd : (a == sysModules) = false) (rel : KV kvs vs) (dd : h'.DictOf (mixKind P w) a vs) :
    ObjOk P w H' h' a (.dK kvs) := ⟨z, hd, vs, rel, dd⟩
theorem d_setItem {H' : Hp} {Q : Unit → Shared → Prop} (hu : A.units + 1 < cLine) (I : Inv X pins σ H s) (g : DPut H a y v H') (ry : RelV y u) (rv : RelV v r) (h : ∀ s', Inv X pins σ H' s' → Q () s') :
    wpAny (model X.prog X.w) A (setItem (.ref a) u r) Q E s := by
  rcases g with ⟨kvs, k, e, ey, l, eH⟩ | ⟨kvs, k, b, e, ey, eb, l, eH⟩
  · subst ey eH
    obtain ⟨z, hd, vs, rel, dd⟩ := dk_of I.hok e
    have hz : vs.length ≤ sizeLine := by rw [← rel.length]; exact z
    have hl : (putK kvs k v).length ≤ sizeLine := by have := length_putK kvs k v; omega
    refine wpAny_setItem_pairs (hsz := hz) (kV_is ry) dd fun h' dd' hs => h _ ?_
    have he : ∃ q, h'.get? a = some q := let ⟨q, _, _, hq, _⟩ := dd'; ⟨q, hq⟩
    exact d_write I (by rw [e]; exact True.intro) hs he (dk_new hl hd (rel.put k rv) dd')
  · subst ey eH
    cases (show u = Value.ref b from ry)
    obtain ⟨z, hd, xs, rel, dd⟩ := dt_of I.hok e
    have hz : xs.length ≤ sizeLine := by rw [← Paired.length rel]; exact z
    have hl : (putK kvs k v).length ≤ sizeLine := by have := length_putK kvs k v; omega
    refine wpAny_setItem_heap (hsz := hz) (tupleKind_room_in1 hu) (key_of I.hok eb) dd fun h' dd' hs => h _ ?_
    obtain ⟨q, es, ep, hq, h2, h3, h4, _, h5⟩ := dd'
    refine d_write I (by rw [e]; exact True.intro) hs ⟨q, hq⟩ ⟨hl, hd, _, (rel.put k eb rv).keeps fun c ys ec => ?_, q, es, ep, hq, h2, h3, h4, h5⟩
    rw [upd_ne (ne_of ec e (fun z => nomatch z))]
    exact ec
end
section
variable {X : Cx} {pins : List (Addr × Obj)} {σ : St} {H : Hp} {s : Shared} {a : Addr} {kvs : List (Key × V)} {k : Key} {u : Value} {A : Around} {E : Value → Shared → Prop}
end
def NoSl (i : Expr) : Prop := ∀ ov iv, subscripted i false ov iv = operate [ov, iv] (getItem ov iv)
theorem subD_of {prog : Program} {w : World} {A : Around} {E : Value → Shared → Prop} {s : Shared} {env : Env} {value slice : Expr} {pos : Pos} {T id : String} {Q : Value → Shared → Prop}
    (hl : typeLookup (.type T) "__getitem__" = pure (some (.builtin id))) (hs : NoSl slice)
    (h : wpAny (model prog w) A (eval value env) (fun o s₁ => wpAny (model prog w) A (eval slice env) (fun i s₂ => s₂.TypeIs o T ∧ wpAny (model prog w) A (getItem o i) Q E s₂) E s₁) E s) :
    wpAny (model prog w) A (eval (.Subscript value slice pos) env) Q E s := by
  refine Subscript_ (wpAny_mono h (fun o s₁ h₁ => wpAny_mono h₁ (fun i s₂ h₂ => ?_) fun _ _ x => x) fun _ _ x => x)
  obtain ⟨hT, h₂⟩ := h₂
  unfold subscriptTail
  refine wpAny_bind ?_
  rw [getitemInPython_of_ne hT.not_modules]
  refine wpAny_bind (wpAny_specialOf hT hl ?_)
  have fin : wpAny (model prog w) A (subscripted slice false o i) (fun r s₃ => wpAny (model prog w) A (letTemporaryGo value o r >>= fun _ => pure r) Q E s₃) E s₂ := by
    rw [hs o i]
    exact wpAny_operating (wpAny_mono h₂ (fun r s₃ h₃ => wpAny_bind (wpAny_letTemporaryGo (wpAny_pure h₃))) fun _ _ x => x)
  first
    | exact wpAny_pure (wpAny_bind fin)
    | exact wpAny_bind (wpAny_pure (wpAny_bind fin))
    | exact wpAny_bind fin
theorem dict_typeIs {X : Cx} {pins : List (Addr × Obj)} {σ : St} {H : Hp} {s : Shared} {a : Addr} {y : V} {o : Option V} (I : Inv X pins σ H s) (g : DGet H a y o) : s.TypeIs (.ref a) "dict" := by
  rcases g with ⟨kvs, k, e, _, _⟩ | ⟨kvs, k, b, e, _, _, _⟩
  · obtain ⟨_, _, vs, _, dd⟩ := dk_rd I.hok e
    exact dd.typeIs
  · obtain ⟨_, _, xs, _, dd⟩ := dt_rd I.hok e
    exact dd.typeIs
def tDGet (td ty : TE) : TE := fun σ H Q => td σ H fun x H1 => ty σ H1 fun y H2 => ∃ a v, x = .ref a ∧ DGet H2 a y (some v) ∧ Q v H2
def sDPut (td ty tv : TE) : TS := fun D σ H => tv σ H fun v H1 => td σ H1 fun x H2 => ty σ H2 fun y H3 => ∃ a H4, x = .ref a ∧ DPut H3 a y v H4 ∧ D.nx σ H4
section
variable {X : Cx} {o i e value : Expr} {pos pos' tpos : Pos} {td ty tv : TE}
theorem pe_dget (hu : X.A.units + 1 < cLine) (ho : PE X o td) (hi : PE X i ty) (hs : NoSl i) : PE X (.Subscript o i pos) (tDGet td ty) := by
  intro pins s σ H Q I h
  refine subD_of PySem.F.slot_dict_getitem.lookup hs (thn (ho pins s σ H _ I h) fun u s1 ⟨x, H1, I1, rx, q1⟩ => thn (hi pins s1 σ H1 _ I1 q1) fun iv s2 ⟨y, H2, I2, ry, a, v, ex, g, q2⟩ => ?_)
  subst ex
  obtain rfl : u = Value.ref a := rx
  exact ⟨dict_typeIs I2 g, d_getItem hu I2 g ry fun w' s3 I3 rw' => ⟨v, H2, I3, rw', q2⟩⟩
theorem ps_dput (hu : X.A.units + 1 < cLine) (ho : PE X o td) (hi : PE X i ty) (hv : PE X value tv) (hs : swapsWith value (some (.Subscript o i pos')) pos.line X.env = pure false) :
    PS X (.Assign [.Subscript o i pos'] value pos) (sDPut td ty tv) := by
  intro pins s σ H D I h
  refine wpAny_Assign_Subscript (thn (hv pins s σ H _ I h) fun r s1 ⟨v, H1, I1, rv, q1⟩ => thn (ho pins s1 σ H1 _ I1 q1) fun u s2 ⟨x, H2, I2, rx, q2⟩ => thn (hi pins s2 σ H2 _ I2 q2) fun iv s3 ⟨y, H3, I3, ry, a, H4, ex, g, q3⟩ => ?_) hs
  subst ex
  obtain rfl : u = Value.ref a := rx
  exact d_setItem hu I3 g ry rv fun s4 I4 => ⟨σ, H4, I4, q3⟩
end
theorem dk_empty {P : Program} {w : World} {H : Hp} (h : Heap) (hb : sysModules < h.objs.size) : ObjOk P w H (h.push { cls := .type "dict", data := .dict #[] }) h.objs.size (.dK []) :=
  ⟨Nat.zero_le _, beq_eq_false_iff_ne.mpr (Ne.symm (Nat.ne_of_lt hb)), [], .nil, Heap.DictOf.new h⟩
def tDNewK : TE := fun _ H Q => ∀ p, H p = none → Q (.ref p) (upd H p (.dK []))
section
variable {X : Cx} {pos : Pos}
theorem pe_dnewK : PE X (.Dict [] [] pos) tDNewK := fun pins s σ H Q I h =>
  wpAny_Dict_empty ⟨.ref s.heap.objs.size, _, I.laid (a := s.heap.objs.size) (o := .dK []) (t' := s.toks) (fun _ _ q => Heap.get?_push_of_some _ q) (Nat.le_refl _) (dk_empty s.heap I.big), rfl, h _ (I.hok.fresh (Nat.le_refl _))⟩
end
def tPairs : List (TE × TE) → St → Hp → (List (V × V) → Hp → Prop) → Prop
  | [], _, H, Q => Q [] H
  | (tk, tv) :: r, σ, H, Q => tk σ H fun x H1 => tv σ H1 fun y H2 => tPairs r σ H2 fun ps H3 => Q ((x, y) :: ps) H3
structure M1 (X : Cx) (o : Expr) (m : Str) (apos : Pos) (e : Expr) (cpos : Pos) : Prop where
  base : attributeBase o m X.env (eval o X.env) = eval o X.env
  few : ((backTo cpos (starEach [e] X.env)).all (fun x => !x.1) && (backToKw cpos (keywordEach [] X.env)).all (fun x => x.1.isSome)
    && decide (([e] : List Expr).length + ([] : List Keyword).length + (if ([] : List Keyword).isEmpty then 0 else 1) < 30)) = true
  line : (apos.endLine == cpos.line) = true
  trees : backTo cpos (starEach [e] X.env) = [(false, eval e X.env)]
structure M2 (X : Cx) (o : Expr) (m : Str) (apos : Pos) (e f : Expr) (cpos : Pos) : Prop where
  base : attributeBase o m X.env (eval o X.env) = eval o X.env
  few : ((backTo cpos (starEach [e, f] X.env)).all (fun x => !x.1) && (backToKw cpos (keywordEach [] X.env)).all (fun x => x.1.isSome)
    && decide (([e, f] : List Expr).length + ([] : List Keyword).length + (if ([] : List Keyword).isEmpty then 0 else 1) < 30)) = true
  line : (apos.endLine == cpos.line) = true
  trees : backTo cpos (starEach [e, f] X.env) = [(false, eval e X.env), (false, eval f X.env)]
section
variable {X : Cx} {pins : List (Addr × Obj)} {σ : St} {H : Hp} {s : Shared} {a : Addr} {y d : V} {u r : Value} {o : Option V} {A : Around} {E : Value → Shared → Prop}
end
section
variable {X : Cx} {o e f : Expr} {apos cpos : Pos} {td ty tx : TE}
end
section
variable {X : Cx} {pins : List (Addr × Obj)} {σ : St} {H : Hp} {s : Shared} {a : Addr} {kvs : List (Key × V)} {A : Around} {E : Value → Shared → Prop}
end
section
variable {X : Cx} {pins : List (Addr × Obj)} {σ : St} {H : Hp} {s : Shared} {a : Addr} {y : V} {u : Value} {A : Around} {E : Value → Shared → Prop}
end
end L2
namespace L2
open PySem PySem.Spec PyProof.Rows
section
variable {prog : Program} {w : World} {A : Around} {E : Value → Shared → Prop}
end
section
variable {X : Cx}
end
end L2
namespace L2
open PySem PySem.Spec PyProof.Rows
theorem boot_reversed5 : bootBuiltins "reversed" = some (.type "reversed") := by decide +kernel
section
variable {X : Cx} {pins : List (Addr × Obj)} {σ : St} {H : Hp} {s : Shared} {h' : Heap}
theorem Inv.turnedL {t' : Nat} {ch : List Addr} (I : Inv X pins σ H s) (k : ∀ b o, b ∉ ch → s.heap.get? b = some o → h'.get? b = some o) (hf : ∀ b ∈ ch, FpOk X pins H b) : Inv X pins σ H { s with heap := h', toks := t' } := by
  have nit : ∀ b u, H b = some u → b ∉ ch := fun b u e z => by
    have q := (hf b z).1
    rw [q] at e; cases e
  refine I.step (g' := s.gens) (d' := s.drawn) (ch := ch) (fun b hb => ⟨(hf b hb).2.2.2.1, (hf b hb).2.1, (hf b hb).2.2.2.2.1, (hf b hb).2.2.2.2.2⟩) (fun b o _ _ hc e _ => k b o hc e) (fun b o _ _ hc e _ => ⟨o.slots, k b o hc e⟩)
    (fun _ _ _ _ n => n) (fun b o hc e => ⟨o, k b o hc e⟩) (fun _ _ e => e) (fun _ _ _ e => e) (fun b ps e => ⟨#[], by rw [e]; simp⟩) (fun m hm => ?_) (fun b u e => ?_) I.bare
  · obtain ⟨o, es, ep, ho, r⟩ := hm
    exact ⟨o, es, ep, k _ o (fun z => (hf _ z).2.1 rfl) ho, r⟩
  · refine (I.hok b u e).stay (fun c v hc q => k c v ?_ q) (fun _ q => q) fun _ _ q => q
    rcases hc with z | z
    · rw [z]; exact nit b u e
    · exact nit c _ z
theorem Inv.turnedNew {t' : Nat} {ch : List Addr} {T : Addr} {ob : HO} (I : Inv X pins σ H s) (k : ∀ b o, b ∉ ch → s.heap.get? b = some o → h'.get? b = some o) (hf : ∀ b ∈ ch, FpOk X pins H b) (hT : s.heap.objs.size ≤ T)
    (new : ObjOk X.prog X.w (upd H T ob) h' T ob) : Inv X pins σ (upd H T ob) { s with heap := h', toks := t' } := by
  have hn : H T = none := I.hok.fresh hT
  have nit : ∀ b u, H b = some u → b ∉ ch := fun b u e z => by
    have q := (hf b z).1
    rw [q] at e; cases e
  refine I.step (g' := s.gens) (d' := s.drawn) (ch := ch) (fun b hb => ⟨(hf b hb).2.2.2.1, (hf b hb).2.1, (hf b hb).2.2.2.2.1, (hf b hb).2.2.2.2.2⟩) (fun b o _ _ hc e _ => k b o hc e) (fun b o _ _ hc e _ => ⟨o.slots, k b o hc e⟩)
    (fun b o _ e n => ?_) (fun b o hc e => ⟨o, k b o hc e⟩) (fun b xs e => ?_) (fun b o u e => ?_) (fun b ps e => ⟨#[], ?_⟩) (fun m hm => ?_) (fun b u e => ?_) I.bare
  · rw [upd_ne (Nat.ne_of_lt (Nat.lt_of_lt_of_le (Heap.lt_size e) hT))]; exact n
  · rw [upd_ne (ne_of_none e hn)]; exact e
  · rw [upd_ne (ne_of_none e hn)]; exact e
  · rw [upd_ne (ne_of_none e hn), e]; simp
  · obtain ⟨o, es, ep, ho, r⟩ := hm
    exact ⟨o, es, ep, k _ o (fun z => (hf _ z).2.1 rfl) ho, r⟩
  · by_cases hb : b = T
    · subst hb
      rw [upd_same] at e
      cases e
      exact new
    · rw [upd_ne hb] at e
      refine (I.hok b u e).stay (fun c v hc q => k c v ?_ q) (fun c q => by rw [upd_ne (ne_of_none q hn)]; exact q) fun c xs q => by rw [upd_ne (ne_of_none q hn)]; exact q
      rcases hc with z | z
      · rw [z]; exact nit b u e
      · exact nit c _ z
end
section
variable {X : Cx}
theorem pi_one {tg : Expr} {pins : List (Addr × Obj)} {σ : St} {H : Hp} {s : Shared} {R : It → Hp → Prop} {J : It} {tn : Nat → Heap → Prop} {tk : Nat} (I : Inv X pins σ H s) (o : Obj)
    (T : Turn X.prog X.w X.K tg J [s.heap.objs.size] s.heap.objs.size tn) (st : tn 0 (s.heap.push o)) (q : R J H) : PIE X pins σ tg R (.ref s.heap.objs.size) { s with heap := s.heap.push o, toks := tk } := by
  refine ⟨s.heap.objs.size, [s.heap.objs.size], tn, J, H, rfl, I.kept fun b ob e => Heap.get?_push_of_some _ e, T, st, fun b hb => ?_, q⟩
  have e : b = s.heap.objs.size := by simpa using hb
  subst e
  exact I.fpOk (Nat.le_refl _) (I.hok.fresh (Nat.le_refl _))
end
def Itc (lo c : Int) (n : Nat) : It := ⟨fun i _ => i < n, fun i H x H' => H' = H ∧ x = .int (lo + (i : Nat) * c), fun i _ => n ≤ i⟩
theorem turn_rangeC {P : Program} {w : World} {K : PySem.W.Frag} {tg : Expr} (it : Addr) (lo c : Int) (n : Nat) : Turn P w K tg (Itc lo c n) [it] it (fun i h => IsRangeIter h it (lo + (i : Nat) * c) ((n : Int) - (i : Nat)) c) where
  mem := by simp
  obj := fun i h st b hb => by
    have e : b = it := by simpa using hb
    subst e
    exact ⟨_, st, fun v z => nomatch z⟩
  keep := fun i h h' st k => k it (by simp) _ st
  item := by
    intro X hP hw hK hc i pins s σ H E I hf st hg
    subst hP hw hK
    obtain ⟨f0, f1, f2, f3, f4, f5⟩ := hf it (by simp)
    have W := Walks.range (prog := X.prog) (w := X.w) (I.ok.hd hc) it lo c n
    refine W.item i s _ _ hg st fun v h' tk hv st' kk => ?_
    obtain ⟨t, rfl⟩ := hv
    have I1 : Inv X pins σ H { s with heap := h', toks := tk } := I.turned (fun b o hb e => kk b o (by simpa using hb) e) f0 f1 f3 f4 f5
    exact ⟨_, rfl, go_of (s := { s with heap := h', toks := tk }) (n := "range_iterator") st' rfl rfl (by decide) ⟨.int (lo + (i : Nat) * c), H, I1, ⟨t, rfl⟩, ⟨rfl, rfl⟩, st', fun b hb => (hf b hb).1⟩⟩
  done := by
    intro X hP hw hK hc i pins s σ H E I hf st hg
    subst hP hw hK
    obtain ⟨f0, f1, f2, f3, f4, f5⟩ := hf it (by simp)
    exact wpAny_pyNext_range_end (I.ok.hd hc) st (by have : n ≤ i := hg; omega) fun h' eb => ⟨rfl, I.turned (t' := s.toks) (fun b o hb e => eb b o hb e) f0 f1 f3 f4 f5⟩
  self := fun A i s Q E st h => wpAny_pyIter_rangeiter st h
def RgC (i j c : Int) (n : Nat) : Prop := c ≠ 0 ∧ c.natAbs < 1073741824 ∧ Builtin.Range.small i j c = true ∧ Builtin.Range.rangeSize i j c = n
theorem RgC.neg {i j : Int} (ha : -(2 ^ 62) ≤ i) (ha' : i < 2 ^ 62) (hb : -(2 ^ 62) ≤ j) (hb' : j < 2 ^ 62) : RgC i j (-1) (i - j).toNat :=
  ⟨by decide, by decide, PySem.W.small_down ha ha' hb hb', PySem.W.rangeSize_downNat i j⟩
section
variable {X : Cx} {tg : Expr}
end
theorem for_rangeC {lo c : Int} {n : Nat} {g : TG} {tb : TS} {D : Ends} {σ : St} {H : Hp} (Pv : Nat → St → Hp → Prop) (h0 : Pv 0 σ H)
    (hs : ∀ i σ H, i < n → Pv i σ H → g (.int (lo + (i : Nat) * c)) σ H fun σ2 H2 => tb { D with nx := Pv (i + 1), ct := Pv (i + 1), bk := D.nx } σ2 H2) (hd : ∀ σ H, Pv n σ H → D.nx σ H) :
    ∃ W : Nat → Nat → St → Hp → Prop, (∃ m, W 0 m σ H) ∧ ∀ i m σ H, W i m σ H →
      ((Itc lo c n).stop i H ∧ D.nx σ H) ∨ ((Itc lo c n).go i H ∧ ∃ N : St → Hp → Prop, (∀ σ' H', N σ' H' → ∃ m', m' < m ∧ W (i + 1) m' σ' H') ∧ ∀ x H', (Itc lo c n).yld i H x H' → g x σ H' fun σ2 H2 => tb { D with nx := N, ct := N, bk := D.nx } σ2 H2) := by
  refine ⟨fun i m σ H => m = n - i ∧ i ≤ n ∧ Pv i σ H, ⟨n, by simp, Nat.zero_le _, h0⟩, ?_⟩
  rintro i m σ H ⟨rfl, hi, p⟩
  by_cases hlt : i < n
  · refine .inr ⟨hlt, Pv (i + 1), fun σ' H' p' => ⟨n - (i + 1), by omega, rfl, hlt, p'⟩, fun x H' y => ?_⟩
    obtain ⟨e, y⟩ := y
    subst e y
    exact hs i σ _ hlt p
  · have e : i = n := by omega
    subst e
    exact .inl ⟨Nat.le_refl _, hd σ H p⟩
section
variable {X : Cx} {tg : Expr}
end
section
variable {prog : Program} {w : World} {A : Around} {E : Value → Shared → Prop} {s : Shared}
end
section
variable {X : Cx} {pins : List (Addr × Obj)} {σ : St} {H : Hp} {s : Shared} {d : Addr} {o : Obj}
end
section
variable {P : Program} {w : World} {K : PySem.W.Frag} {tg : Expr} {d : Addr} {o : Obj} {es : Array DictEntry} {ep : Nat}
end
section
variable {X : Cx} {tg e : Expr} {td : TE} {apos cpos : Pos}
end
def Ite (K : PySem.W.Frag) (a : Addr) : It :=
  ⟨fun i H => ∃ (xs : List V) (x : V), SqL K H a xs ∧ xs[i]? = some x, fun i H v H' => ∃ T x, v = .ref T ∧ H T = none ∧ H' = upd H T (.tup [.int (i : Nat), x]) ∧ ∀ xs, SqL K H a xs → xs[i]? = some x, fun i H => ∃ xs : List V, SqL K H a xs ∧ xs.length ≤ i⟩
theorem turn_enum {P : Program} {w : World} {K : PySem.W.Frag} {elts : List Expr} {kk : Nat} {tpos : Pos} (a e it : Addr) :
    Turn P w K (.Tuple elts kk tpos) (Ite K a) [e, it] e (fun i h => (∃ old, IsEnum h e it ((i : Nat) : Int) old) ∧ h.IsListIter it a i ∧ e ≠ it) where
  mem := by simp
  obj := fun i h st b hb => by
    obtain ⟨⟨old, he⟩, ⟨o, ho, hc, hd⟩, _⟩ := st
    have e' : b = e ∨ b = it := by simpa using hb
    rcases e' with z | z
    · rw [z]; exact ⟨_, he, fun v q => nomatch q⟩
    · rw [z]; exact ⟨o, ho, fun v q => by rw [hd] at q; cases q⟩
  keep := fun i h h' st k => let ⟨⟨old, he⟩, hi, hne⟩ := st; ⟨⟨old, k e (by simp) _ he⟩, hi.at fun o q => k it (by simp) o q, hne⟩
  item := by
    intro X hP hw hK hc i pins s σ H E I hf st hg
    subst hP hw hK
    obtain ⟨⟨old, he⟩, hit, hne⟩ := st
    obtain ⟨xs, x, hq, hx⟩ := hg
    obtain ⟨its, rv, p, hz⟩ := I.list hq
    obtain ⟨u, hu, ru⟩ := rv.get hx
    have hel : e < s.heap.objs.size := Heap.lt_size he
    have hil : it < s.heap.objs.size := by obtain ⟨_, q, _⟩ := hit; exact Heap.lt_size q
    refine wpAny_pyNext_enum_item he hit p.isList (x := u) (by simpa using hu) hne fun h' ho hit' hT hsz hk => ?_
    refine ⟨_, rfl, wpAny_letOwnedTupleGo_enum (s := { s with heap := h', toks := s.toks + 1 }) ho fun h'' he' sb => ?_⟩
    have hT2 : h''.get? s.heap.objs.size = some { cls := .type "tuple", data := .seq #[.int i s.toks, u] } := (sb.2 _ (Nat.ne_of_gt hel)).trans hT
    have new : ObjOk X.prog X.w (upd H s.heap.objs.size (.tup [.int (i : Nat), x])) h'' s.heap.objs.size (.tup [.int (i : Nat), x]) :=
      ⟨by show 2 ≤ sizeLine; decide, [.int i s.toks, u], .cons ⟨_, rfl⟩ (.cons ru .nil), ⟨_, hT2, rfl, _, rfl⟩⟩
    have I1 : Inv X pins σ (upd H s.heap.objs.size (.tup [.int (i : Nat), x])) { s with heap := h'', toks := s.toks + 1 } :=
      I.turnedNew (ch := [e, it]) (fun b ob hb q => (sb.2 b (fun z => hb (by simp [z]))).trans (hk b ob (fun z => hb (by simp [z])) (fun z => hb (by simp [z])) q)) hf (Nat.le_refl _) new
    refine ⟨.ref s.heap.objs.size, _, I1, rfl, ⟨_, x, rfl, I.hok.fresh (Nat.le_refl _), rfl, fun ys hy => by rw [I.list_inj hy hq]; exact hx⟩, ⟨⟨u, ?_⟩, hit'.at fun o q => (sb.2 it (Ne.symm hne)).trans q, hne⟩, fun b hb => ?_⟩
    · have e1 : ((i + 1 : Nat) : Int) = (i : Int) + 1 := by omega
      rw [e1]; exact he'
    · have hb' : b < s.heap.objs.size := by
        have e' : b = e ∨ b = it := by simpa using hb
        rcases e' with z | z
        · rw [z]; exact hel
        · rw [z]; exact hil
      rw [upd_ne (Nat.ne_of_lt hb')]
      exact (hf b hb).1
  done := by
    intro X hP hw hK hc i pins s σ H E I hf st hg
    subst hP hw hK
    obtain ⟨⟨old, he⟩, hit, hne⟩ := st
    obtain ⟨xs, hq, hx⟩ := hg
    obtain ⟨its, rv, p, hz⟩ := I.list hq
    obtain ⟨f0, f1, f2, f3, f4, f5⟩ := hf it (by simp)
    have hl := rv.length
    exact wpAny_pyNext_enum_end (I.ok.hd hc) he hit p.isList (by simp; omega) fun h' eb => ⟨rfl, I.turned (t' := s.toks) (fun b o hb q => eb b o hb q) f0 f1 f3 f4 f5⟩
  self := fun A i s Q E st h => let ⟨⟨_, he⟩, _⟩ := st; wpAny_pyIter_enum he h
def iEnum (K : PySem.W.Frag) (ta : TA) : TI := fun σ H R => ta σ H fun vs H1 => ∃ a xs, vs = [.ref a] ∧ SqL K H1 a xs ∧ R (Ite K a) H1
theorem pi_enum {X : Cx} {e : Expr} {ta : TA} {p pos tpos : Pos} {elts : List Expr} {kk : Nat} (hg : Gl X "enumerate") (hm : X.mg "enumerate" = none) (ha : PA X [e] ta) (hs : starEach [e] X.env = [(false, eval e X.env)] := by rfl) :
    PI X (.Tuple elts kk tpos) (.Call (.Name "enumerate" p) [e] [] pos) (iEnum X.K ta) := by
  intro pins s σ H R I h
  refine Call_ (ld_blt I hg hm boot_enumerate (PyProof.Rows.callWith_type1 (thn (ha pos pins s σ H _ I h) fun us s1 ⟨vs, H1, I1, r1, q1⟩ => ?_) hs rfl))
  obtain ⟨a, xs, ex, hq, q⟩ := q1
  subst ex
  cases r1 with
  | cons r rr =>
    cases rr
    cases r
    obtain ⟨its, rv, p', hz⟩ := I1.list hq
    refine call_enumerate_list p'.isList fun h' he hit hsz hk => wpAny_pyIter_enum he ?_
    have I2 : Inv X pins σ H1 { s1 with heap := h' } := I1.kept (t' := s1.toks) hk
    refine ⟨s1.heap.objs.size + 1, [s1.heap.objs.size + 1, s1.heap.objs.size], _, _, H1, rfl, I2, turn_enum a (s1.heap.objs.size + 1) s1.heap.objs.size, ⟨⟨.none, he⟩, hit, Nat.succ_ne_self _⟩, fun b hb => ?_, q⟩
    have e' : b = s1.heap.objs.size + 1 ∨ b = s1.heap.objs.size := by simpa using hb
    have hle : s1.heap.objs.size ≤ b := by
      rcases e' with z | z
      · rw [z]; exact Nat.le_add_right _ _
      · rw [z]; exact Nat.le_refl _
    exact I1.fpOk hle (I1.hok.fresh hle)
theorem boot_zip5 : bootBuiltins "zip" = some (.type "zip") := by decide +kernel
def Itz (K : PySem.W.Frag) (a b : Addr) : It :=
  ⟨fun i H => ∃ (xs ys : List V) (x y : V), SqL K H a xs ∧ SqL K H b ys ∧ xs[i]? = some x ∧ ys[i]? = some y,
    fun i H v H' => ∃ T x y, v = .ref T ∧ H T = none ∧ H' = upd H T (.tup [x, y]) ∧ (∀ xs, SqL K H a xs → xs[i]? = some x) ∧ ∀ ys, SqL K H b ys → ys[i]? = some y,
    fun i H => ∃ xs ys : List V, SqL K H a xs ∧ SqL K H b ys ∧ (xs.length ≤ i ∨ ys.length ≤ i)⟩
theorem turn_zip {P : Program} {w : World} {K : PySem.W.Frag} {elts : List Expr} {kk : Nat} {tpos : Pos} {a b z TI TO i1 i2 : Addr} (D : ZipApart z TI TO i1 i2 a b) :
    Turn P w K (.Tuple elts kk tpos) (Itz K a b) [z, TI, TO, i1, i2] z (fun i h => IsZip h z TI TO .none ∧ IsPair h TI (.ref i1) (.ref i2) ∧ (∃ x y, IsPair h TO x y) ∧ h.IsListIter i1 a i ∧ h.IsListIter i2 b i) where
  mem := by simp
  obj := fun i h st c hc => by
    obtain ⟨hz, hTI, ⟨x, y, hTO⟩, ⟨o1, e1, _, d1⟩, ⟨o2, e2, _, d2⟩⟩ := st
    have e' : c = z ∨ c = TI ∨ c = TO ∨ c = i1 ∨ c = i2 := by simpa using hc
    rcases e' with q | q | q | q | q
    · rw [q]; exact ⟨_, hz, fun v q => nomatch q⟩
    · rw [q]; exact ⟨_, hTI, fun v q => nomatch q⟩
    · rw [q]; exact ⟨_, hTO, fun v q => nomatch q⟩
    · rw [q]; exact ⟨o1, e1, fun v q => by rw [d1] at q; cases q⟩
    · rw [q]; exact ⟨o2, e2, fun v q => by rw [d2] at q; cases q⟩
  keep := fun i h h' st k => by
    obtain ⟨hz, hTI, ⟨x, y, hTO⟩, h1, h2⟩ := st
    exact ⟨k z (by simp) _ hz, k TI (by simp) _ hTI, ⟨x, y, k TO (by simp) _ hTO⟩, h1.at fun o q => k i1 (by simp) o q, h2.at fun o q => k i2 (by simp) o q⟩
  item := by
    intro X hP hw hK hc i pins s σ H E I hf st hg
    subst hP hw hK
    obtain ⟨hz, hTI, ⟨x0, y0, hTO⟩, h1, h2⟩ := st
    obtain ⟨xs, ys, x, y, hqx, hqy, hx, hy⟩ := hg
    obtain ⟨its, rv, p, _⟩ := I.list hqx
    obtain ⟨its2, rv2, p2, _⟩ := I.list hqy
    obtain ⟨u, hu, ru⟩ := rv.get hx
    obtain ⟨u2, hu2, ru2⟩ := rv2.get hy
    have hzl : z < s.heap.objs.size := Heap.lt_size hz
    refine wpAny_pyNext_zip_item D hz hTI hTO h1 h2 p.isList p2.isList (x := u) (y := u2) (by simpa using hu) (by simpa using hu2) fun h' z' TO' h1' h2' hT hsz hk => ?_
    refine ⟨_, rfl, wpAny_letOwnedTupleGo_zip (s := { s with heap := h' }) z' fun h'' z'' sb => ?_⟩
    have hT2 : h''.get? s.heap.objs.size = some { cls := .type "tuple", data := .seq #[u, u2] } := (sb.2 _ (Nat.ne_of_gt hzl)).trans hT
    have new : ObjOk X.prog X.w (upd H s.heap.objs.size (.tup [x, y])) h'' s.heap.objs.size (.tup [x, y]) :=
      ⟨by show 2 ≤ sizeLine; decide, [u, u2], .cons ru (.cons ru2 .nil), ⟨_, hT2, rfl, _, rfl⟩⟩
    have I1 : Inv X pins σ (upd H s.heap.objs.size (.tup [x, y])) { s with heap := h'' } :=
      I.turnedNew (t' := s.toks) (ch := [z, TI, TO, i1, i2]) (fun c o hb q => (sb.2 c (fun q' => hb (by simp [q']))).trans (hk c o (fun q' => hb (by simp [q'])) (fun q' => hb (by simp [q'])) (fun q' => hb (by simp [q'])) (fun q' => hb (by simp [q'])) q)) hf (Nat.le_refl _) new
    refine ⟨.ref s.heap.objs.size, _, I1, rfl, ⟨_, x, y, rfl, I.hok.fresh (Nat.le_refl _), rfl, fun l hl => by rw [I.list_inj hl hqx]; exact hx, fun l hl => by rw [I.list_inj hl hqy]; exact hy⟩, ⟨z'', ?_, ⟨u, u2, ?_⟩, ?_, ?_⟩, fun c hcm => ?_⟩
    · exact (sb.2 _ D.TIz).trans (hk _ _ D.TIz D.TITO D.TIi1 D.TIi2 hTI)
    · exact (sb.2 _ D.TOz).trans TO'
    · exact h1'.at fun o q => (sb.2 _ D.i1z).trans q
    · exact h2'.at fun o q => (sb.2 _ D.i2z).trans q
    · have hlt : c < s.heap.objs.size := by
        have e' : c = z ∨ c = TI ∨ c = TO ∨ c = i1 ∨ c = i2 := by simpa using hcm
        rcases e' with q | q | q | q | q
        · rw [q]; exact hzl
        · rw [q]; exact Heap.lt_size hTI
        · rw [q]; exact Heap.lt_size hTO
        · rw [q]; obtain ⟨_, e1, _⟩ := h1; exact Heap.lt_size e1
        · rw [q]; obtain ⟨_, e2, _⟩ := h2; exact Heap.lt_size e2
      rw [upd_ne (Nat.ne_of_lt hlt)]
      exact (hf c hcm).1
  done := by
    intro X hP hw hK hc i pins s σ H E I hf st hg
    subst hP hw hK
    obtain ⟨hz, hTI, ⟨x0, y0, hTO⟩, h1, h2⟩ := st
    obtain ⟨xs, ys, hqx, hqy, hend⟩ := hg
    obtain ⟨its, rv, p, _⟩ := I.list hqx
    obtain ⟨its2, rv2, p2, _⟩ := I.list hqy
    have l1 := rv.length
    have l2 := rv2.length
    have he : its.toArray[i]? = none ∨ its2.toArray[i]? = none := by
      rcases hend with q | q
      · exact .inl (by simp; omega)
      · exact .inr (by simp; omega)
    exact wpAny_pyNext_zip_end (I.ok.hd hc) D hz hTI hTO h1 h2 p.isList p2.isList he fun h' hk => ⟨rfl, I.turnedL (t' := s.toks) (ch := [z, TI, TO, i1, i2]) (fun c o hb q =>
      hk c o (fun q' => hb (by simp [q'])) (fun q' => hb (by simp [q'])) (fun q' => hb (by simp [q'])) (fun q' => hb (by simp [q'])) q) hf⟩
  self := fun A i s Q E st h => wpAny_pyIter_zip st.1 h
def iZip (K : PySem.W.Frag) (ta : TA) : TI := fun σ H R => ta σ H fun vs H1 => ∃ a b xs ys, vs = [.ref a, .ref b] ∧ SqL K H1 a xs ∧ SqL K H1 b ys ∧ R (Itz K a b) H1
theorem pi_zip {X : Cx} {e e2 : Expr} {ta : TA} {p pos tpos : Pos} {elts : List Expr} {kk : Nat} (hg : Gl X "zip") (hm : X.mg "zip" = none) (ha : PA X [e, e2] ta)
    (hs : starEach [e, e2] X.env = (false, eval e X.env) :: starEach [e2] X.env := by rfl) (hpl : (backTo pos (starEach [e2] X.env)).any (·.1) = false := by rfl) :
    PI X (.Tuple elts kk tpos) (.Call (.Name "zip" p) [e, e2] [] pos) (iZip X.K ta) := by
  intro pins s σ H R I h
  refine Call_ (ld_blt I hg hm boot_zip5 (PyProof.Rows.callWith_type1 (thn (ha pos pins s σ H _ I h) fun us s1 ⟨vs, H1, I1, r1, q1⟩ => ?_) hs hpl))
  obtain ⟨a, b, xs, ys, ex, hqx, hqy, q⟩ := q1
  subst ex
  cases r1 with
  | cons r rr =>
    cases rr with
    | cons r' rr =>
      cases rr
      cases r
      cases r'
      obtain ⟨its, rv, p1, _⟩ := I1.list hqx
      obtain ⟨its2, rv2, p2, _⟩ := I1.list hqy
      have la : a < s1.heap.objs.size := p1.lt
      have lb : b < s1.heap.objs.size := p2.lt
      refine call_zip_2 p1.isList p2.isList fun h' hz hTI hTO h1 h2 hsz hk => wpAny_pyIter_zip hz ?_
      have I2 : Inv X pins σ H1 { s1 with heap := h' } := I1.kept (t' := s1.toks) hk
      refine ⟨s1.heap.objs.size + 4, [s1.heap.objs.size + 4, s1.heap.objs.size + 2, s1.heap.objs.size + 3, s1.heap.objs.size, s1.heap.objs.size + 1], _, _, H1, rfl, I2, turn_zip (PySem.W.ktu_apart s1.heap.objs.size a b la lb), ⟨hz, hTI, ⟨_, _, hTO⟩, h1, h2⟩, fun c hcm => ?_, q⟩
      have e' : c = s1.heap.objs.size + 4 ∨ c = s1.heap.objs.size + 2 ∨ c = s1.heap.objs.size + 3 ∨ c = s1.heap.objs.size ∨ c = s1.heap.objs.size + 1 := by simpa using hcm
      have hle : s1.heap.objs.size ≤ c := by
        rcases e' with z | z | z | z | z
        · rw [z]; exact Nat.le_add_right _ _
        · rw [z]; exact Nat.le_add_right _ _
        · rw [z]; exact Nat.le_add_right _ _
        · rw [z]; exact Nat.le_refl _
        · rw [z]; exact Nat.le_add_right _ _
      exact I1.fpOk hle (I1.hok.fresh hle)
end L2
section
namespace Bits
open PySem PyProof.Rows
end Bits
end
section
namespace TL
open PySem PySem.Builtin PySem.Builtin.Str PySem.StrLaws
abbrev tl (x : Str) : List Nat := x.cps.toList
def pre (S l : List Nat) : Bool := l.take S.length == S
def par (S : List Nat) : List Nat → List Nat → Option (List Nat × List Nat)
  | _, [] => none
  | acc, c :: r => if pre S (c :: r) = true then some (acc, (c :: r).drop S.length) else par S (acc ++ [c]) r
def numL (n : Nat) : List Nat := (Nat.toDigits 10 n).map Char.toNat
end TL
end
namespace L2
open PySem PySem.Spec PyProof.Rows
section
variable {X : Cx} {pins : List (Addr × Obj)} {σ : St} {H : Hp} {s : Shared} {Q : VK}
end
section
variable {X : Cx}
end
section
variable {X : Cx} {o e : Expr} {to te : TE}
def tM0 (r : V → List V → Hp → VK → Prop) (to : TE) : TE := fun σ H Q => to σ H fun x H1 => (∃ a, x = .str a) ∧ r x [] H1 Q
def tM1 (r : V → List V → Hp → VK → Prop) (to te : TE) : TE := fun σ H Q => to σ H fun x H1 => (∃ a, x = .str a) ∧ te σ H1 fun y H2 => r x [y] H2 Q
end
end L2
namespace L2
open PySem PySem.Spec PyProof.Rows
section
variable {X : Cx}
end
end L2
namespace Att
open PySem PySem.W PySem.Calls PyProof.Rows
theorem ints_of_wellAll {P : Params} {h : Heap} : ∀ (ns : List Int) (vs : List Value), WellAll P h vs (ns.map WData.int) → IntsAre vs ns := by
  intro ns
  induction ns with
  | nil =>
    intro vs w
    rw [List.map_nil] at w
    cases w
    exact .nil
  | cons n ns ih =>
    intro vs w
    rw [List.map_cons] at w
    cases w with
    | cons a b =>
      cases a
      exact .cons _ _ (ih _ b)
theorem script_of {l : OpenLaw} {n : Nat} (hn : l.most = some n) {P : Params} {h : Heap} {args : List WData} {vals : List Value}
    (hpre : l.row.toRowW.claim.pre args = true) (hwl : WellAll P h vals args) :
    ∃ a vs ns, vals = [Value.ref a] ∧ args = [WData.list (ns.map WData.int)] ∧ h.get? a = some { cls := .type "list", data := .seq vs.toArray } ∧ IntsAre vs ns ∧ ns.length ≤ n := by
  have hsh : WShape.hasAll [] args [.list .int] = true := (pre_splitW hpre).1
  have hc : l.pre.holds [] { args := args } = true := (pre_splitW hpre).2
  obtain ⟨d, r, rfl, h1, h2⟩ := hasAllW_cons hsh
  obtain rfl := hasAllW_nil h2
  obtain ⟨xs, rfl, h3⟩ := hasW_list h1
  obtain ⟨ns, rfl⟩ := items_int h3
  have hlen : ns.length ≤ n := by
    unfold OpenLaw.pre at hc
    have h4 : (WTm.not (.lt (.lit (.int (n : Int))) (.len (.arg 0)))).holds [] { args := [.list (ns.map .int)] } = true := by
      have h4 := (holds_andW hc).1
      rw [hn] at h4
      exact h4
    have h5 := condW_of h4 (w_not (w_lt w_lit (w_len_list (w_arg rfl))))
    rw [List.length_map] at h5
    refine Nat.le_of_not_lt fun q => ?_
    have q' : (n : Int) < ((ns.length : Nat) : Int) := by omega
    first
      | (rw [decide_eq_true q'] at h5; exact absurd h5 (by decide))
      | (simp at h5; omega)
  cases hwl with
  | cons w1 w2 =>
    cases w2
    cases w1 with
    | list ho hall => exact ⟨_, _, ns, rfl, rfl, ho, ints_of_wellAll ns _ hall, hlen⟩
theorem post_true (l : OpenLaw) (args : List WData) : l.row.toRowW.claim.post args (.bool true) args = true :=
  postW_of (r := l.row.toRowW) (X := (true == true))
    (show WShape.has [] (.bool true) .bool = true by first | rfl | decide | simp [WShape.has, WShape.arms, WShape.armsAll])
    (show (WTm.eq .res (.lit (.bool true))).value [] { args := args, res := some (.bool true), after := args } = some (.bool (true == true)) from w_eq_bool (w_res rfl) w_lit) rfl
theorem attach_call {l : OpenLaw} {n : Nat} {q : Program} {loose : List Str} {XP : (Str → Option Value) → Heap → Prop} {YP : World → Heap → Prop} {d : DefRec}
    (hn : l.most = some n) (hdf : d.params.defaults = [])
    (call : ∀ (w : World) (s₀ s₁ : Shared) (mg mb : Str → Option Value) (fa : Addr) (o : Obj) (pm cd doc : Value) (a : Addr) (vs : List Value) (ns : List Int),
      Ground q loose [] XP w s₀ mg mb s₁.heap → YP w s₁.heap →
      s₁.heap.get? fa = some o → o.data = .func (docDef d.name d.params d.body d.scope pm cd doc) → s₁.heap.CodeRec cd d.name → mg d.name = some (.ref fa) →
      s₁.heap.get? a = some { cls := .type "list", data := .seq vs.toArray } → IntsAre vs ns → ns.length ≤ n → s₁.gens = #[] →
      codeAny (model l.prog w) callerA (.call (.ref fa) ⟨[.ref a], []⟩) (fun r s' => r = .ok (.ret (.bool true)) ∧ OldK s₁.heap s'.heap ∧ s'.os = s₁.os ∧ AllBare s'.gens) s₁) :
    WalkO q loose XP YP l.row.toRowW d [] (fun f vs => PySem.call f vs) := by
  intro w s₀ s₁ mg mb G Y fa o pm cd doc dV kV ho hd hcd hD hmg hg args vals as hpre hlay hrd hwl hlo
  obtain rfl : dV = .none := Dflts.none hD hdf
  obtain rfl : kV = .none := Dflts.noKw hD
  obtain ⟨a, vs, ns, rfl, rfl, hobj, hints, hlen⟩ := script_of hn hpre hwl
  refine enter_call (codeAny_mono (call w s₀ s₁ mg mb fa o pm cd doc a vs ns G Y ho (fd_plain hd) hcd hmg hobj hints hlen hg) fun r s' hq => ?_)
  obtain ⟨rfl, h2, h3, h4⟩ := hq
  exact ⟨.inl ⟨.bool true, .bool true, [], rfl, fun _ => rfl, .bool true, post_true l _, fun _ => ⟨List.Pairwise.nil, fun _ hm => (nomatch hm)⟩⟩, h2, h3, h4⟩
section
variable {prog : Program} {w : World} {A : Around} {E : Value → Shared → Prop} {s : Shared} {K : Frag}
end
end Att
namespace L2
open PySem PySem.Spec PyProof.Rows
theorem vals_ints : ∀ {vs : List Value} {ns : List Int}, IntsAre vs ns → Vals (ns.map V.int) vs
  | _, _, .nil => .nil
  | _, _, .cons n t h => .cons ⟨t, rfl⟩ (vals_ints h)
def Only (H : Hp) : Prop := ∀ b, H b = none ∨ ∃ o xs, H b = some (.frz o (.lst xs))
end L2
namespace L2
open PySem PySem.Spec PyProof.Rows
end L2
namespace L2
open PySem PySem.Spec PyProof.Rows
def inClass (s : Stmt) (j : Nat) : Stmt := match s with
  | .ClassDef _ _ _ body _ _ _ _ _ _ _ => body.getD j (.Pass ⟨0, 0, 0, 0⟩)
  | _ => .Pass ⟨0, 0, 0, 0⟩
def defArgs (s : Stmt) : Arguments := match s with
  | .FunctionDef _ a _ _ _ _ _ _ _ _ => a
  | _ => { posonlyargs := [], args := [], vararg := none, kwonlyargs := [], kw_defaults := [], kwarg := none, defaults := [] }
def defBody (s : Stmt) : List Stmt := match s with
  | .FunctionDef _ _ b _ _ _ _ _ _ _ => b
  | _ => []
def defScope (s : Stmt) : Scope := match s with
  | .FunctionDef _ _ _ _ _ _ sc _ _ _ => sc
  | _ => { kind := .function, names := [], isGenerator := false, isCoroutine := false }
abbrev CX0 : CXT := fun _ _ _ _ _ _ => False
abbrev E0 : XK := fun _ _ _ => False
theorem pass0 {X : Cx} : Passes CX0 X E0 := fun _ _ _ _ _ _ _ h => h.elim
structure Fun (K : PySem.W.Frag) (x qual : Str) (st : Stmt) (f : Addr) (fd : FuncData) : Prop where
  ex : ∃ (oc : Value) (od : Option Addr) (kV doc pm : Value) (an : Option Addr) (cdv ct : Value) (osl : Array (Option Value)),
    fd = PySem.W.fnOf x qual (defArgs st) (defBody st) (defScope st) .none kV doc pm an cdv ct ∧ K.lookup f = some ⟨oc, od, .func fd, osl⟩ ∧ PySem.W.codeIn K cdv qual = true
  kp : PySem.W.keepIn K (.ref f) = true
section
variable {P : Program} {w : World} {K : PySem.W.Frag} {mg : Str → Option Value} {base : Heap}
theorem Fun.ok {x qual : Str} {st : Stmt} {f : Addr} {fd : FuncData} {N ps : List Str} {k : Nat} {sp : Sp} (F : Fun K x qual st f fd) (S : FnScope N ps (defScope st)) (len : ∀ vs H Q E, sp vs H Q E → vs.length = ps.length)
    (hbody : ∀ (cdv : Value) (A : Around) (outer : List Env) (s : Shared) (H : Hp) (vs : List V) (Q : VK) (E : XK), Room k (A.deeper (envOfC qual (defScope st) s.heap.objs.size f cdv)) → sp vs H Q E →
      ∃ t, PSs (cxOf CX0 P w K mg base N qual (defScope st) f cdv A outer s H E).nox (defBody st) t ∧ t { nx := fun _ H' => Q .non H', rt := Q } (start N vs) H) : FnOk P w K mg base CX0 (k + 1) f fd ps sp := by
  obtain ⟨oc, od, kV, doc, pm, an, cdv, ct, osl, rfl, lk, hcd⟩ := F.ex
  refine fn_of lk hcd S len fun A outer s H vs Q E hr hsp => ?_
  obtain ⟨t, h, q⟩ := hbody cdv A outer s H vs Q E hr hsp
  exact ⟨t, h.nox, q⟩
theorem Fun.binds {x qual : Str} {st : Stmt} {f : Addr} {fd : FuncData} {ps : List Str} (F : Fun K x qual st f fd)
    (h : ∀ (kV doc pm : Value) (an : Option Addr) (cdv ct : Value) (us : List Value), us.length = ps.length → bindArgs (PySem.W.fnOf x qual (defArgs st) (defBody st) (defScope st) .none kV doc pm an cdv ct) ⟨us, []⟩ = pure (ps.zip us)) : Binds K fd ps [] := by
  obtain ⟨oc, od, kV, doc, pm, an, cdv, ct, osl, rfl, lk, hcd⟩ := F.ex
  exact .all (h kV doc pm an cdv ct)
theorem fun_mk {x qual : Str} {st : Stmt} {f : Addr} {oc : Value} {od an : Option Addr} {osl : Array (Option Value)} {kV doc pm cdv ct : Value} (l : K.lookup f = some ⟨oc, od, .func (PySem.W.fnOf x qual (defArgs st) (defBody st) (defScope st) .none kV doc pm an cdv ct), osl⟩)
    (c : PySem.W.codeIn K cdv qual = true) (k : PySem.W.keepIn K (.ref f) = true) : Fun K x qual st f (PySem.W.fnOf x qual (defArgs st) (defBody st) (defScope st) .none kV doc pm an cdv ct) := ⟨⟨oc, od, kV, doc, pm, an, cdv, ct, osl, rfl, l, c⟩, k⟩
end
theorem hu_of {A : Around} {k : Nat} (hr : Room k A) : A.units + 1 < cLine := Nat.lt_of_le_of_lt (Nat.add_le_add_left (by decide : 1 ≤ 64) _) hr.units
section
variable {X : Cx}
theorem pv (i : Nat) {x : Str} {pos : Pos} (hN : X.N[i]? = some x := by rfl) (hv : Vis X.env.scope x := by first | exact Or.inl rfl | exact Or.inr (Or.inl rfl) | exact Or.inr (Or.inr rfl)) (hd : (x == ("__debug__" : Str)) = false := by decide)
    (hcd : (x == ("__classdict__" : Str)) = false := by decide) : PE X (.Name x pos) (tVar i) := pe_var hN hv hd hcd
end
theorem iteF {A B : Prop} (h : B) : if false = true then A else B := by
  rw [if_neg Bool.false_ne_true]
  exact h
theorem iteT {A B : Prop} (h : A) : if true = true then A else B := by
  rw [if_pos rfl]
  exact h
theorem iteNS {c A B : Prop} [Decidable c] (hc : c) (h : B) : if (!decide c) = true then A else B := by
  rw [decide_eq_true hc]
  exact iteF h
def Same (H H' : Hp) : Prop := ∀ b o, H b = some o → H' b = some o
theorem Same.refl (H : Hp) : Same H H := fun _ _ h => h
theorem Same.trans {H H1 H2 : Hp} (a : Same H H1) (b : Same H1 H2) : Same H H2 := fun c o h => b c o (a c o h)
theorem Same.free {H H' : Hp} (e : Same H H') {l : Addr} (h : H' l = Option.none) : H l = Option.none := by
  cases q : H l with
  | none => rfl
  | some o =>
    rw [e l o q] at h
    cases h
theorem Same.seq {K : PySem.W.Frag} {H H' : Hp} {a : Addr} {xs : List V} (e : Same H H') (h : SqL K H a xs) : SqL K H' a xs := by
  rcases h with (h | ⟨o, h⟩) | h
  · exact .inl (.inl (e _ _ h))
  · exact .inl (.inr ⟨o, e _ _ h⟩)
  · exact .inr h
section
variable {κ : Type} [DecidableEq κ]
end
theorem Same.made {H H1 : Hp} {x dx C : Addr} (nx : H x = Option.none) (nd : H dx = Option.none) (k : ∀ b o, (upd (upd H dx (.own x)) x (.ins C dx [])) b = some o → b ≠ x → H1 b = some o) : Same H H1 := fun b o e =>
  k b o (by rw [upd_ne (ne_of_none e nx), upd_ne (ne_of_none e nd)]; exact e) (ne_of_none e nx)
end L2
set_option Elab.async false
set_option linter.all false
set_option maxRecDepth 100000
namespace L2
open PySem PySem.Spec PyProof.Rows
def FnC (P : Program) (w : World) (K : PySem.W.Frag) (mg : Str → Option Value) (base : Heap) (k : Nat) (x : Str) (ps : List Str) (sp : Sp) : Prop :=
  ∃ f fd, FnOk P w K mg base CX0 k f fd ps sp ∧ mg x = some (.ref f) ∧ PySem.W.keepIn K (.ref f) = true ∧ Binds K fd ps []
theorem FnC.mono {P : Program} {w : World} {K : PySem.W.Frag} {mg : Str → Option Value} {base : Heap} {j k : Nat} {x : Str} {ps : List Str} {sp : Sp} (C : FnC P w K mg base j x ps sp) (h : j ≤ k) : FnC P w K mg base k x ps sp := by
  obtain ⟨f, fd, F, r⟩ := C
  exact ⟨f, fd, F.mono h, r⟩
def tCallC (sp : Sp) (t : TA) : TE := fun σ H Q => t σ H fun vs H1 => sp vs H1 Q E0
section
variable {X : Cx} {k : Nat} {ps : List Str} {sp : Sp} {x : Str} {p pos : Pos} {e : Expr} {es : List Expr} {t : TA}
theorem pe_callC (C : FnC X.prog X.w X.K X.mg X.base k x ps sp) (hr : Room k X.A) (hg : Gl X x) (ha : PA X (e :: es) t)
    (hdb : (x == ("__debug__" : Str)) = false := by decide) (he : starEach (e :: es) X.env = (false, eval e X.env) :: starEach es X.env := by rfl) (hpl : (backTo pos (starEach es X.env)).any (·.1) = false := by rfl) :
    PE X (.Call (.Name x p) (e :: es) [] pos) (tCallC sp t) := by
  obtain ⟨f, fd, F, hm, hk, hb⟩ := C
  intro pins s σ H Q I h
  have q := pe_call (p := p) (dvs := []) F hr hg hm hk hb .nil pass0 ha hdb he hpl pins s σ H Q I
  refine q ?_
  unfold tCall
  simp only [List.append_nil]
  exact h
end
def qB (x : V) (H : Hp) (Q : Bool → Hp → Prop) : Prop := ∃ k, x = .bl k ∧ Q k H
def qI (x : V) (H : Hp) (Q : Option Int → Hp → Prop) : Prop := ∃ i, x = .int i ∧ Q (some i) H
def qTup (xs : List V) (H : Hp) (Q : VK) : Prop := xs.length ≤ sizeLine ∧ ∀ p, H p = none → Q (.ref p) (upd H p (.tup xs))
def qLst (xs : List V) (H : Hp) (Q : VK) : Prop := xs.length ≤ sizeLine ∧ ∀ p, H p = none → Q (.ref p) (upd H p (.lst xs))
def gPar (i j : Nat) (vs : List V) (σ : St) (H : Hp) (nx : St → Hp → Prop) : Prop := ∃ v w, vs = [v, w] ∧ nx ((σ.set i (some v)).set j (some w)) H
section
variable {σ : St} {H : Hp} {Q : VK} {nx : St → Hp → Prop} {rt : VK} {bk ct : St → Hp → Prop} {t u : TS} {c : TT} {ta tb tc te : TE} {i j : Nat} {v x y : V} {r r' : R2} {K : PySem.W.Frag} {p : Addr} {xs ys : List V} {n m : Int} {QB : Bool → Hp → Prop} {tA : TA} {tt tt' : TT} {g : TG} {b : Bool}
theorem go_seq (h : t ⟨u ⟨nx, rt, bk, ct⟩, rt, bk, ct⟩ σ H) : tSeq t u ⟨nx, rt, bk, ct⟩ σ H := h
theorem go_next (h : nx σ H) : tNext ⟨nx, rt, bk, ct⟩ σ H := h
theorem go_ret (h : te σ H rt) : tRet te ⟨nx, rt, bk, ct⟩ σ H := h
theorem go_retN (h : rt .non H) : tRetN ⟨nx, rt, bk, ct⟩ σ H := h
theorem go_drop (h : te σ H fun _ H1 => nx σ H1) : tDrop te ⟨nx, rt, bk, ct⟩ σ H := h
theorem go_ifS (h : c σ H fun b H1 => if b = true then t ⟨nx, rt, bk, ct⟩ σ H1 else u ⟨nx, rt, bk, ct⟩ σ H1) : tIfS c t u ⟨nx, rt, bk, ct⟩ σ H := h
theorem go_asg (h : te σ H fun x H1 => g x σ H1 nx) : tAsg te g ⟨nx, rt, bk, ct⟩ σ H := h
theorem go_gname (h : nx (σ.set i (some v)) H) : gName i v σ H nx := h
theorem go_gsub {to ti : TE} {ts : TSet} (h : to σ H fun o H1 => ti σ H1 fun i H2 => ts o i v H2 fun H3 => nx σ H3) : gSub to ti ts v σ H nx := h
theorem go_setL {QH : Hp → Prop} {k : Int} (h : H p = some (.lst xs)) (e : ixN xs.length k = some j) (q : QH (upd H p (.lst (xs.set j v)))) : rSetL (.ref p) (.int k) v H QH := ⟨p, xs, k, j, rfl, rfl, h, e, q⟩
theorem go_par (h : tA σ H fun vs H1 => gPar i j vs σ H1 nx) : tPar i j tA ⟨nx, rt, bk, ct⟩ σ H := h
theorem go_gpar (h : nx ((σ.set i (some x)).set j (some y)) H) : gPar i j [x, y] σ H nx := ⟨x, y, rfl, h⟩
theorem go_var (e : σ[i]? = some (some v)) (h : Q v H) : tVar i σ H Q := ⟨v, e, h⟩
theorem go_c (h : Q v H) : tC v σ H Q := h
theorem go_op (h : ta σ H fun x H1 => tb σ H1 fun y H2 => r x y H2 Q) : tOp r ta tb σ H Q := h
theorem go_i0 {g : Int → Int → V} (h : Q (g n m) H) : rI0 g (.int n) (.int m) H Q := ⟨n, m, rfl, rfl, h⟩
theorem go_i {C : Int → Int → Prop} {g : Int → Int → V} (hc : C n m) (h : Q (g n m) H) : rI C g (.int n) (.int m) H Q := ⟨n, m, rfl, rfl, hc, h⟩
theorem go_eq (e : scal x y = true) (h : Q (.bl (decide (x = y))) H) : rEq x y H Q := ⟨e, h⟩
theorem go_ne (e : scal x y = true) (h : Q (.bl (!decide (x = y))) H) : rNe x y H Q := ⟨e, h⟩
theorem go_test (h : te σ H fun x H1 => qB x H1 QB) : tTest te σ H QB := h
theorem go_testB (h : te σ H fun x H1 => qB x H1 QB) : tB te σ H QB := h
theorem go_qb (h : QB b H) : qB (.bl b) H QB := ⟨b, rfl, h⟩
theorem go_and (h : tt σ H fun c H1 => if c = true then tt' σ H1 QB else QB false H1) : tAnd tt tt' σ H QB := h
theorem go_or (h : tt σ H fun c H1 => if c = true then QB true H1 else tt' σ H1 QB) : tOr tt tt' σ H QB := h
theorem go_not (h : tt σ H fun c H1 => QB (!c) H1) : tNot tt σ H QB := h
theorem go_andV (h : ta σ H fun x H1 => qB x H1 fun c H2 => if c = true then tb σ H2 Q else Q (.bl false) H2) : tAndV ta tb σ H Q := h
theorem go_orV (h : ta σ H fun x H1 => qB x H1 fun c H2 => if c = true then Q (.bl true) H2 else tb σ H2 Q) : tOrV ta tb σ H Q := h
theorem go_notV (h : ta σ H fun x H1 => qB x H1 fun c H2 => Q (.bl (!c)) H2) : tNotV ta σ H Q := h
theorem go_if (h : tt σ H fun c H1 => if c = true then ta σ H1 Q else tb σ H1 Q) : tIf tt ta tb σ H Q := h
theorem go_iteD {c A B : Prop} [Decidable c] (h1 : c → A) (h2 : ¬ c → B) : if decide c = true then A else B := by
  by_cases h : c
  · rw [if_pos (decide_eq_true h)]; exact h1 h
  · rw [if_neg (by simp [h])]; exact h2 h
theorem go_iteT {A B : Prop} (h : A) : if true = true then A else B := iteT h
theorem go_iteF {A B : Prop} (h : B) : if false = true then A else B := iteF h
theorem go_tup (h : tA σ H fun xs H1 => qTup xs H1 Q) : tTup tA σ H Q := h
theorem go_lst (h : tA σ H fun xs H1 => qLst xs H1 Q) : tLst tA σ H Q := h
theorem go_qtup (hl : xs.length ≤ sizeLine) (h : ∀ p, H p = none → Q (.ref p) (upd H p (.tup xs))) : qTup xs H Q := ⟨hl, h⟩
theorem go_qlst (hl : xs.length ≤ sizeLine) (h : ∀ p, H p = none → Q (.ref p) (upd H p (.lst xs))) : qLst xs H Q := ⟨hl, h⟩
theorem go_cons {QA : List V → Hp → Prop} (h : ta σ H fun x H1 => tA σ H1 fun xs H2 => QA (x :: xs) H2) : tCons ta tA σ H QA := h
theorem go_nil {QA : List V → Hp → Prop} (h : QA [] H) : tNil σ H QA := h
theorem go_callC {sp : Sp} (h : tA σ H fun vs H1 => sp vs H1 Q E0) : tCallC sp tA σ H Q := h
theorem go_cb {rr : List V → Hp → VK → Prop} (h : tA σ H fun vs H1 => rr vs H1 Q) : tCB rr tA σ H Q := h
theorem go_un {rr : V → Hp → VK → Prop} (h : ta σ H fun x H1 => rr x H1 Q) : tUn rr ta σ H Q := h
theorem go_u {g : Int → V} (h : Q (g n) H) : rU g (.int n) H Q := ⟨n, rfl, h⟩
theorem go_ixL (h : H p = some (.lst xs)) (e : atI xs n = some v) (q : Q v H) : rIxL K (.ref p) (.int n) H Q := ⟨p, xs, n, v, rfl, rfl, SqL.of h, e, q⟩
theorem go_ixLs (h : SqL K H p xs) (e : atI xs n = some v) (q : Q v H) : rIxL K (.ref p) (.int n) H Q := ⟨p, xs, n, v, rfl, rfl, h, e, q⟩
theorem go_ixT (h : H p = some (.tup xs)) (e : atI xs n = some v) (q : Q v H) : rIxT K (.ref p) (.int n) H Q := ⟨p, xs, n, v, rfl, rfl, SqT.of h, e, q⟩
end
def rLen (K : PySem.W.Frag) : List V → Hp → VK → Prop := fun xs H Q => ∃ p ys, xs = [.ref p] ∧ (SqL K H p ys ∨ SqT K H p ys) ∧ Q (.int ys.length) H
def rInt1 : List V → Hp → VK → Prop := fun xs H Q => (∃ i, xs = [.int i] ∧ Q (.int i) H) ∨ ∃ k, xs = [.bl k] ∧ Q (.int (if k then 1 else 0)) H
def rMin2 : List V → Hp → VK → Prop := fun xs H Q => ∃ i j, xs = [.int i, .int j] ∧ Q (.int (min i j)) H
def rMax2 : List V → Hp → VK → Prop := fun xs H Q => ∃ i j, xs = [.int i, .int j] ∧ Q (.int (max i j)) H
def rIsinst (K : PySem.W.Frag) : List V → Hp → VK → Prop := fun xs H Q => ∃ x T t b, xs = [x, .ty T] ∧ TyOf K H x t ∧ PySem.W.kitOne K t (.type T) = some b ∧ Q (.bl b) H
section
variable {X : Cx}
theorem c_len : CallR X (.builtin "len") (rLen X.K) := call_len_seq
theorem c_int : CallR X (.type "int") rInt1 := call_int1
theorem c_min (hc : X.calm = true) : CallR X (.builtin "min") rMin2 := by
  intro pins s σ H xs us Q I r h
  obtain ⟨i, j, rfl, q⟩ := h
  refine call_min2 hc pins s σ H _ us Q I r ⟨i, j, rfl, ?_⟩
  have e : (if j < i then j else i) = min i j := by rw [Int.min_def]; split <;> split <;> omega
  rw [e]; exact q
theorem c_max (hc : X.calm = true) : CallR X (.builtin "max") rMax2 := by
  intro pins s σ H xs us Q I r h
  obtain ⟨i, j, rfl, q⟩ := h
  refine call_max2 hc pins s σ H _ us Q I r ⟨i, j, rfl, ?_⟩
  have e : (if j > i then j else i) = max i j := by rw [Int.max_def]; split <;> split <;> omega
  rw [e]; exact q
theorem c_isinst : CallR X (.builtin "isinstance") (rIsinst X.K) := by
  intro pins s σ H xs us Q I r h
  obtain ⟨x, T, t, b, rfl, ty, e, q⟩ := h
  obtain ⟨u, v, rfl, ru, rv⟩ := r.two
  cases (show v = Value.type T from rv)
  exact isinst_ok I ru ty e fun tk => ⟨.bl b, H, I.tok _, rfl, q⟩
end
section
variable {H : Hp} {Q : VK} {K : PySem.W.Frag} {p : Addr} {xs ys : List V} {n m : Int} {b : Bool} {x : V} {T : String} {t : Value}
theorem go_lenL (h : H p = some (.lst ys)) (q : Q (.int ys.length) H) : rLen K [.ref p] H Q := ⟨p, ys, rfl, .inl (SqL.of h), q⟩
theorem go_lenT (h : H p = some (.tup ys)) (q : Q (.int ys.length) H) : rLen K [.ref p] H Q := ⟨p, ys, rfl, .inr (SqT.of h), q⟩
theorem go_lenLs (h : SqL K H p ys) (q : Q (.int ys.length) H) : rLen K [.ref p] H Q := ⟨p, ys, rfl, .inl h, q⟩
theorem go_int (q : Q (.int n) H) : rInt1 [.int n] H Q := .inl ⟨n, rfl, q⟩
theorem go_intB (q : Q (.int (if b then 1 else 0)) H) : rInt1 [.bl b] H Q := .inr ⟨b, rfl, q⟩
theorem go_min (q : Q (.int (min n m)) H) : rMin2 [.int n, .int m] H Q := ⟨n, m, rfl, q⟩
theorem go_max (q : Q (.int (max n m)) H) : rMax2 [.int n, .int m] H Q := ⟨n, m, rfl, q⟩
theorem go_isinst (ty : TyOf K H x t) (e : PySem.W.kitOne K t (.type T) = some b) (q : Q (.bl b) H) : rIsinst K [x, .ty T] H Q := ⟨x, T, t, b, rfl, ty, e, q⟩
end
def kitC (t T : String) : Option Bool := if ((Value.type t) == (Value.type T)) = true then some true else if PySem.W.kitMeta T = true then (fastBuiltinMro t).map (·.contains (.type T)) else none
theorem kit_c (K : PySem.W.Frag) (t T : String) : PySem.W.kitOne K (.type t) (.type T) = kitC t T := rfl
section
variable {H : Hp} {Q : VK} {K : PySem.W.Frag} {p : Addr} {xs : List V} {n : Int} {b : Bool} {x : Str}
theorem kc_non_int : kitC "NoneType" "int" = some false := by decide +kernel
theorem go_is_non_int (q : Q (.bl false) H) : rIsinst K [.non, .ty "int"] H Q := go_isinst (.non) ((kit_c K "NoneType" "int").trans kc_non_int) q
theorem kc_non_bool : kitC "NoneType" "bool" = some false := by decide +kernel
theorem go_is_non_bool (q : Q (.bl false) H) : rIsinst K [.non, .ty "bool"] H Q := go_isinst (.non) ((kit_c K "NoneType" "bool").trans kc_non_bool) q
theorem kc_non_str : kitC "NoneType" "str" = some false := by decide +kernel
theorem go_is_non_str (q : Q (.bl false) H) : rIsinst K [.non, .ty "str"] H Q := go_isinst (.non) ((kit_c K "NoneType" "str").trans kc_non_str) q
theorem kc_non_tuple : kitC "NoneType" "tuple" = some false := by decide +kernel
theorem go_is_non_tuple (q : Q (.bl false) H) : rIsinst K [.non, .ty "tuple"] H Q := go_isinst (.non) ((kit_c K "NoneType" "tuple").trans kc_non_tuple) q
theorem kc_non_list : kitC "NoneType" "list" = some false := by decide +kernel
theorem go_is_non_list (q : Q (.bl false) H) : rIsinst K [.non, .ty "list"] H Q := go_isinst (.non) ((kit_c K "NoneType" "list").trans kc_non_list) q
theorem kc_bl_int : kitC "bool" "int" = some true := by decide +kernel
theorem go_is_bl_int (q : Q (.bl true) H) : rIsinst K [.bl b, .ty "int"] H Q := go_isinst (.bl b) ((kit_c K "bool" "int").trans kc_bl_int) q
theorem kc_bl_bool : kitC "bool" "bool" = some true := by decide +kernel
theorem go_is_bl_bool (q : Q (.bl true) H) : rIsinst K [.bl b, .ty "bool"] H Q := go_isinst (.bl b) ((kit_c K "bool" "bool").trans kc_bl_bool) q
theorem kc_bl_str : kitC "bool" "str" = some false := by decide +kernel
theorem go_is_bl_str (q : Q (.bl false) H) : rIsinst K [.bl b, .ty "str"] H Q := go_isinst (.bl b) ((kit_c K "bool" "str").trans kc_bl_str) q
theorem kc_bl_tuple : kitC "bool" "tuple" = some false := by decide +kernel
theorem go_is_bl_tuple (q : Q (.bl false) H) : rIsinst K [.bl b, .ty "tuple"] H Q := go_isinst (.bl b) ((kit_c K "bool" "tuple").trans kc_bl_tuple) q
theorem kc_bl_list : kitC "bool" "list" = some false := by decide +kernel
theorem go_is_bl_list (q : Q (.bl false) H) : rIsinst K [.bl b, .ty "list"] H Q := go_isinst (.bl b) ((kit_c K "bool" "list").trans kc_bl_list) q
theorem kc_int_int : kitC "int" "int" = some true := by decide +kernel
theorem go_is_int_int (q : Q (.bl true) H) : rIsinst K [.int n, .ty "int"] H Q := go_isinst (.int n) ((kit_c K "int" "int").trans kc_int_int) q
theorem kc_int_bool : kitC "int" "bool" = some false := by decide +kernel
theorem go_is_int_bool (q : Q (.bl false) H) : rIsinst K [.int n, .ty "bool"] H Q := go_isinst (.int n) ((kit_c K "int" "bool").trans kc_int_bool) q
theorem kc_int_str : kitC "int" "str" = some false := by decide +kernel
theorem go_is_int_str (q : Q (.bl false) H) : rIsinst K [.int n, .ty "str"] H Q := go_isinst (.int n) ((kit_c K "int" "str").trans kc_int_str) q
theorem kc_int_tuple : kitC "int" "tuple" = some false := by decide +kernel
theorem go_is_int_tuple (q : Q (.bl false) H) : rIsinst K [.int n, .ty "tuple"] H Q := go_isinst (.int n) ((kit_c K "int" "tuple").trans kc_int_tuple) q
theorem kc_int_list : kitC "int" "list" = some false := by decide +kernel
theorem go_is_int_list (q : Q (.bl false) H) : rIsinst K [.int n, .ty "list"] H Q := go_isinst (.int n) ((kit_c K "int" "list").trans kc_int_list) q
theorem kc_str_int : kitC "str" "int" = some false := by decide +kernel
theorem go_is_str_int (q : Q (.bl false) H) : rIsinst K [.str x, .ty "int"] H Q := go_isinst (.str x) ((kit_c K "str" "int").trans kc_str_int) q
theorem kc_str_bool : kitC "str" "bool" = some false := by decide +kernel
theorem go_is_str_bool (q : Q (.bl false) H) : rIsinst K [.str x, .ty "bool"] H Q := go_isinst (.str x) ((kit_c K "str" "bool").trans kc_str_bool) q
theorem kc_str_str : kitC "str" "str" = some true := by decide +kernel
theorem go_is_str_str (q : Q (.bl true) H) : rIsinst K [.str x, .ty "str"] H Q := go_isinst (.str x) ((kit_c K "str" "str").trans kc_str_str) q
theorem kc_str_tuple : kitC "str" "tuple" = some false := by decide +kernel
theorem go_is_str_tuple (q : Q (.bl false) H) : rIsinst K [.str x, .ty "tuple"] H Q := go_isinst (.str x) ((kit_c K "str" "tuple").trans kc_str_tuple) q
theorem kc_str_list : kitC "str" "list" = some false := by decide +kernel
theorem go_is_str_list (q : Q (.bl false) H) : rIsinst K [.str x, .ty "list"] H Q := go_isinst (.str x) ((kit_c K "str" "list").trans kc_str_list) q
theorem kc_lst_int : kitC "list" "int" = some false := by decide +kernel
theorem go_is_lst_int (h : H p = some (.lst xs)) (q : Q (.bl false) H) : rIsinst K [.ref p, .ty "int"] H Q := go_isinst (.lst h) ((kit_c K "list" "int").trans kc_lst_int) q
theorem kc_lst_bool : kitC "list" "bool" = some false := by decide +kernel
theorem go_is_lst_bool (h : H p = some (.lst xs)) (q : Q (.bl false) H) : rIsinst K [.ref p, .ty "bool"] H Q := go_isinst (.lst h) ((kit_c K "list" "bool").trans kc_lst_bool) q
theorem kc_lst_str : kitC "list" "str" = some false := by decide +kernel
theorem go_is_lst_str (h : H p = some (.lst xs)) (q : Q (.bl false) H) : rIsinst K [.ref p, .ty "str"] H Q := go_isinst (.lst h) ((kit_c K "list" "str").trans kc_lst_str) q
theorem kc_lst_tuple : kitC "list" "tuple" = some false := by decide +kernel
theorem go_is_lst_tuple (h : H p = some (.lst xs)) (q : Q (.bl false) H) : rIsinst K [.ref p, .ty "tuple"] H Q := go_isinst (.lst h) ((kit_c K "list" "tuple").trans kc_lst_tuple) q
theorem kc_lst_list : kitC "list" "list" = some true := by decide +kernel
theorem go_is_lst_list (h : H p = some (.lst xs)) (q : Q (.bl true) H) : rIsinst K [.ref p, .ty "list"] H Q := go_isinst (.lst h) ((kit_c K "list" "list").trans kc_lst_list) q
theorem kc_tup_int : kitC "tuple" "int" = some false := by decide +kernel
theorem go_is_tup_int (h : H p = some (.tup xs)) (q : Q (.bl false) H) : rIsinst K [.ref p, .ty "int"] H Q := go_isinst (.tup h) ((kit_c K "tuple" "int").trans kc_tup_int) q
theorem kc_tup_bool : kitC "tuple" "bool" = some false := by decide +kernel
theorem go_is_tup_bool (h : H p = some (.tup xs)) (q : Q (.bl false) H) : rIsinst K [.ref p, .ty "bool"] H Q := go_isinst (.tup h) ((kit_c K "tuple" "bool").trans kc_tup_bool) q
theorem kc_tup_str : kitC "tuple" "str" = some false := by decide +kernel
theorem go_is_tup_str (h : H p = some (.tup xs)) (q : Q (.bl false) H) : rIsinst K [.ref p, .ty "str"] H Q := go_isinst (.tup h) ((kit_c K "tuple" "str").trans kc_tup_str) q
theorem kc_tup_tuple : kitC "tuple" "tuple" = some true := by decide +kernel
theorem go_is_tup_tuple (h : H p = some (.tup xs)) (q : Q (.bl true) H) : rIsinst K [.ref p, .ty "tuple"] H Q := go_isinst (.tup h) ((kit_c K "tuple" "tuple").trans kc_tup_tuple) q
theorem kc_tup_list : kitC "tuple" "list" = some false := by decide +kernel
theorem go_is_tup_list (h : H p = some (.tup xs)) (q : Q (.bl false) H) : rIsinst K [.ref p, .ty "list"] H Q := go_isinst (.tup h) ((kit_c K "tuple" "list").trans kc_tup_list) q
end
def rIsN : R2 := fun x y H Q => y = .non ∧ Q (.bl (decide (x = .non))) H
def rNotN : R2 := fun x y H Q => y = .non ∧ Q (.bl (!decide (x = .non))) H
theorem o_isN {X : Cx} : OpR X (compareOp .Is) rIsN := op_isN
section
variable {H : Hp} {Q : VK} {p : Addr} {n m : Int} {b b' : Bool} {x y : Str} {v : V}
theorem go_isN_non (q : Q (.bl true) H) : rIsN .non .non H Q := ⟨rfl, q⟩
theorem go_isN_int (q : Q (.bl false) H) : rIsN (.int n) .non H Q := ⟨rfl, q⟩
theorem go_isN_str (q : Q (.bl false) H) : rIsN (.str x) .non H Q := ⟨rfl, q⟩
theorem go_isN_bl (q : Q (.bl false) H) : rIsN (.bl b) .non H Q := ⟨rfl, q⟩
theorem go_isN_ref (q : Q (.bl false) H) : rIsN (.ref p) .non H Q := ⟨rfl, q⟩
theorem go_notN_non (q : Q (.bl false) H) : rNotN .non .non H Q := ⟨rfl, q⟩
theorem go_notN_int (q : Q (.bl true) H) : rNotN (.int n) .non H Q := ⟨rfl, q⟩
theorem go_notN_str (q : Q (.bl true) H) : rNotN (.str x) .non H Q := ⟨rfl, q⟩
theorem go_notN_bl (q : Q (.bl true) H) : rNotN (.bl b) .non H Q := ⟨rfl, q⟩
theorem go_notN_ref (q : Q (.bl true) H) : rNotN (.ref p) .non H Q := ⟨rfl, q⟩
theorem dcI : decide (V.int n = V.int m) = decide (n = m) := by by_cases h : n = m <;> simp [h]
theorem dcS : decide (V.str x = V.str y) = decide (x = y) := by by_cases h : x = y <;> simp [h]
theorem dcB : decide (V.bl b = V.bl b') = decide (b = b') := by by_cases h : b = b' <;> simp [h]
theorem go_eqI (q : Q (.bl (decide (n = m))) H) : rEq (.int n) (.int m) H Q := ⟨rfl, by rw [dcI]; exact q⟩
theorem go_eqS (q : Q (.bl (decide (x = y))) H) : rEq (.str x) (.str y) H Q := ⟨rfl, by rw [dcS]; exact q⟩
theorem go_eqB (q : Q (.bl (decide (b = b'))) H) : rEq (.bl b) (.bl b') H Q := ⟨rfl, by rw [dcB]; exact q⟩
theorem go_neI (q : Q (.bl (!decide (n = m))) H) : rNe (.int n) (.int m) H Q := ⟨rfl, by rw [dcI]; exact q⟩
theorem go_neS (q : Q (.bl (!decide (x = y))) H) : rNe (.str x) (.str y) H Q := ⟨rfl, by rw [dcS]; exact q⟩
theorem go_neB (q : Q (.bl (!decide (b = b'))) H) : rNe (.bl b) (.bl b') H Q := ⟨rfl, by rw [dcB]; exact q⟩
end
section
variable {A B c : Prop} {b : Bool}
theorem go_iteNT [Decidable c] (hc : c) (h : B) : if (!decide c) = true then A else B := iteNS hc h
theorem go_iteNF [Decidable c] (hc : ¬ c) (h : A) : if (!decide c) = true then A else B := by rw [if_pos (by simp [hc])]; exact h
theorem go_iteDT [Decidable c] (hc : c) (h : A) : if decide c = true then A else B := by rw [if_pos (by simp [hc])]; exact h
theorem go_iteDF [Decidable c] (hc : ¬ c) (h : B) : if decide c = true then A else B := by rw [if_neg (by simp [hc])]; exact h
theorem go_iteNt (h : B) : if (!true) = true then A else B := iteF h
theorem go_iteNf (h : A) : if (!false) = true then A else B := iteT h
theorem go_iteNN {c : Bool} (h : if c = true then A else B) : if (!(!c)) = true then A else B := by rw [Bool.not_not]; exact h
theorem go_iteBT (e : b = true) (h : A) : if b = true then A else B := by rw [if_pos e]; exact h
theorem go_iteBF (e : b = false) (h : B) : if b = true then A else B := by rw [e]; exact iteF h
end
section
variable {H : Hp} {Q : VK} {K : PySem.W.Frag} {p : Addr} {xs : List V} {n : Int} {v : V}
theorem go_ixAL (h : H p = some (.lst xs)) (e : atI xs n = some v) (q : Q v H) : rIx K (.ref p) (.int n) H Q := .inl (go_ixL h e q)
theorem go_ixAT (h : H p = some (.tup xs)) (e : atI xs n = some v) (q : Q v H) : rIx K (.ref p) (.int n) H Q := .inr (.inl (go_ixT h e q))
theorem atI_0n {xs : List V} {i : Nat} {v : V} (h : xs[i]? = some v) : atI xs (0 + (i : Int)) = some v := by
  rw [Int.zero_add]; exact atI_nat h
end
section
variable {σ : St} {H : Hp} {Q : VK} {nx : St → Hp → Prop} {K : PySem.W.Frag} {p p' : Addr} {xs ys : List V} {n : Nat} {v x : V} {t : TG} {u : TGs} {te : TE} {tl th : TO} {b : Bool} {r : V → Option Int → Option Int → Hp → VK → Prop} {lo hi : Option Int} {QO : Option Int → Hp → Prop} {i : Int} {rt : VK} {bk ct : St → Hp → Prop} {tA : TA}
theorem go_gtup (h : H p = some (.tup xs)) (e : xs.length = n) (q : u xs σ H nx) : gTup K n u (.ref p) σ H nx := ⟨p, xs, rfl, SqT.of h, e, q⟩
theorem go_gcons (q : t v σ H fun σ' H' => u xs σ' H' nx) : gCons t u (v :: xs) σ H nx := ⟨v, xs, rfl, q⟩
theorem go_gnil (q : nx σ H) : gNil [] σ H nx := ⟨rfl, q⟩
theorem go_sl (h : te σ H fun x H1 => tl σ H1 fun l H2 => th σ H2 fun u H3 => r x l u H3 Q) : tSl r te tl th σ H Q := h
theorem go_nopart (h : QO none H) : tNoPart σ H QO := h
theorem go_part (h : te σ H fun x H1 => qI x H1 QO) : tPart te σ H QO := h
theorem go_qI (h : QO (some i) H) : qI (.int i) H QO := ⟨i, rfl, h⟩
theorem go_catT (h : H p = some (.tup xs)) (h' : H p' = some (.tup ys)) (e : xs ≠ []) (e' : ys ≠ []) (l : xs.length + ys.length ≤ sizeLine) (q : ∀ a, H a = none → Q (.ref a) (upd H a (.tup (xs ++ ys)))) : rCatT K (.ref p) (.ref p') H Q :=
  ⟨p, p', xs, ys, rfl, rfl, SqT.of h, SqT.of h', e, l, fun z => absurd z e', fun _ => q⟩
theorem go_cat (h : H p = some (.lst xs)) (h' : H p' = some (.lst ys)) (l : xs.length + ys.length ≤ sizeLine) (q : ∀ a, H a = none → Q (.ref a) (upd H a (.lst (xs ++ ys)))) : rCat (.ref p) (.ref p') H Q := ⟨p, p', xs, ys, rfl, rfl, h, h', l, q⟩
theorem go_inT (h : H p = some (.tup xs)) (fx : flatV x = true) (fs : xs.all flatV = true) (q : Q (.bl (inV x xs)) H) : rIn K false x (.ref p) H Q := ⟨p, xs, rfl, .inr (SqT.of h), fx, fs, q⟩
theorem go_notInT (h : H p = some (.tup xs)) (fx : flatV x = true) (fs : xs.all flatV = true) (q : Q (.bl (!inV x xs)) H) : rIn K true x (.ref p) H Q := ⟨p, xs, rfl, .inr (SqT.of h), fx, fs, q⟩
end
section
variable {X : Cx} (K : PySem.W.Frag)
theorem kIxL (e : X.K = K := by rfl) : IxR X (rIxL K) := e ▸ ix_list
theorem kIxT (e : X.K = K := by rfl) : IxR X (rIxT K) := e ▸ ix_tup
theorem kIx (e : X.K = K := by rfl) : IxR X (rIx K) := e ▸ ix_seq
theorem kSlL (e : X.K = K := by rfl) : SlR X (rSlL K) := e ▸ sl_list
theorem kIn (e : X.K = K := by rfl) : OpR X (compareOp .In) (rIn K false) := e ▸ op_in_seq
theorem kCatT (e : X.K = K := by rfl) : OpR X (binaryOp .Add) (rCatT K) := e ▸ op_catT
theorem kLen (e : X.K = K := by rfl) : CallR X (.builtin "len") (rLen K) := e ▸ c_len
theorem kIsinst (e : X.K = K := by rfl) : CallR X (.builtin "isinstance") (rIsinst K) := e ▸ c_isinst
theorem kPiL {tg l : Expr} {tl : TE} (hl : PE X l tl) (e : X.K = K := by rfl) : PI X tg l (iList K tl) := e ▸ pi_list hl
theorem kPgT {es : List Expr} {k : Nat} {t : TGs} {n : Nat} {pos : Pos} (hc : X.calm = true) (h : PGs X es t)
    (hn : (assignEach es X.env).length = n := by rfl) (hst : (assignEach es X.env).findIdx? (·.1) = none := by rfl) (e : X.K = K := by rfl) : PG X (.Tuple es k pos) (gTup K n t) := e ▸ pg_tup hc h hn hst
end
def qBM (K : PySem.W.Frag) (T : String) (r : V → List V → Hp → VK → Prop) (t : TA) (x : V) (σ : St) (H1 : Hp) (Q : VK) : Prop := tyV K T x H1 ∧ t σ H1 fun xs H2 => r x xs H2 Q
def qBM0 (K : PySem.W.Frag) (T : String) (r : V → List V → Hp → VK → Prop) (x : V) (H1 : Hp) (Q : VK) : Prop := tyV K T x H1 ∧ r x [] H1 Q
section
variable {σ : St} {H : Hp} {Q : VK} {K : PySem.W.Frag} {p : Addr} {xs ys : List V} {y : V} {to : TE} {t : TA} {T : String} {r : V → List V → Hp → VK → Prop}
theorem go_bm (h : to σ H fun x H1 => qBM K T r t x σ H1 Q) : tBM K T r to t σ H Q := h
theorem go_bm0 (h : to σ H fun x H1 => qBM0 K T r x H1 Q) : tBM0 K T r to σ H Q := h
theorem go_qbm (h : H p = some (.lst xs)) (q : t σ H fun vs H2 => r (.ref p) vs H2 Q) : qBM K "list" r t (.ref p) σ H Q := ⟨.inl ⟨rfl, _, SqL.of h⟩, q⟩
theorem go_qbm0 (h : H p = some (.lst xs)) (q : r (.ref p) [] H Q) : qBM0 K "list" r (.ref p) H Q := ⟨.inl ⟨rfl, _, SqL.of h⟩, q⟩
theorem go_append (h : H p = some (.lst xs)) (l : xs.length < sizeLine) (q : Q .non (upd H p (.lst (xs ++ [y])))) : rAppend (.ref p) [y] H Q := ⟨p, xs, y, rfl, rfl, h, l, q⟩
end
def qDG (x y : V) (H2 : Hp) (Q : VK) : Prop := ∃ a v, x = .ref a ∧ DGet H2 a y (some v) ∧ Q v H2
def qDP (x y v : V) (H3 : Hp) (Q : Hp → Prop) : Prop := ∃ a H4, x = .ref a ∧ DPut H3 a y v H4 ∧ Q H4
def rSetD : TSet := fun o i v H Q => qDP o i v H Q
section
variable {X : Cx} {pins : List (Addr × Obj)} {σ : St} {H : Hp} {s : Shared} {a b : Addr} {kvs more : List (Key × V)} {A : Around} {E : Value → Shared → Prop}
end
section
variable {σ : St} {H : Hp} {Q : VK} {nx : St → Hp → Prop} {rt : VK} {bk ct : St → Hp → Prop} {td ty tv : TE} {p p' : Addr} {kvs kvs' more : List (Key × V)} {k : Str} {v x y : V} {QH : Hp → Prop} {trs : List (TE × TE)} {ps : List (V × V)} {QP : List (V × V) → Hp → Prop} {K : PySem.W.Frag} {t : TA} {r : V → List V → Hp → VK → Prop}
theorem go_dget (h : td σ H fun x H1 => ty σ H1 fun y H2 => qDG x y H2 Q) : tDGet td ty σ H Q := h
theorem go_dput (h : tv σ H fun v H1 => td σ H1 fun x H2 => ty σ H2 fun y H3 => qDP x y v H3 (nx σ)) : sDPut td ty tv ⟨nx, rt, bk, ct⟩ σ H := h
theorem go_setD (h : qDP x y v H QH) : rSetD x y v H QH := h
theorem go_pnil (h : QP [] H) : tPairs [] σ H QP := h
theorem go_pcons (h : td σ H fun x H1 => tv σ H1 fun y H2 => tPairs trs σ H2 fun ps H3 => QP ((x, y) :: ps) H3) : tPairs ((td, tv) :: trs) σ H QP := h
end
section
variable {prog : Program} {w : World} {A : Around} {E : Value → Shared → Prop}
end
def gLst (n : Nat) (t : TGs) : TG := fun v σ H Q => ∃ a xs, v = .ref a ∧ H a = some (.lst xs) ∧ xs.length = n ∧ t xs σ H Q
theorem go_glst {σ : St} {H : Hp} {nx : St → Hp → Prop} {p : Addr} {xs : List V} {n : Nat} {u : TGs} (h : H p = some (.lst xs)) (e : xs.length = n) (q : u xs σ H nx) : gLst n u (.ref p) σ H nx := ⟨p, xs, rfl, h, e, q⟩
def forQ (J : It) (g : TG) (tb : TS) (D : Ends) (σ : St) (H1 : Hp) : Prop := ∃ W : Nat → Nat → St → Hp → Prop, (∃ m, W 0 m σ H1) ∧ ∀ i m σ H, W i m σ H →
  (J.stop i H ∧ D.nx σ H) ∨ (J.go i H ∧ ∃ N : St → Hp → Prop, (∀ σ' H', N σ' H' → ∃ m', m' < m ∧ W (i + 1) m' σ' H') ∧ ∀ x H', J.yld i H x H' → g x σ H' fun σ2 H2 => tb { D with nx := N, ct := N, bk := D.nx } σ2 H2)
def qRng1 (vs : List V) (H1 : Hp) (R : It → Hp → Prop) : Prop := ∃ j : Int, vs = [.int j] ∧ -(2 ^ 62) ≤ j ∧ j < 2 ^ 62 ∧ R (Itr 0 j.toNat) H1
def qItL (K : PySem.W.Frag) (x : V) (H1 : Hp) (R : It → Hp → Prop) : Prop := ∃ a, x = .ref a ∧ (∃ xs, SqL K H1 a xs) ∧ R (Itl K a) H1
def qItT (K : PySem.W.Frag) (x : V) (H1 : Hp) (R : It → Hp → Prop) : Prop := ∃ a, x = .ref a ∧ (∃ xs, SqT K H1 a xs) ∧ R (Itt K a) H1
def whQ (Pv : St → Hp → Prop) (μ : St → Hp → Nat) (m : Nat) (tb : TS) (D : Ends) (σ : St) (b : Bool) (H1 : Hp) : Prop :=
  if b = true then ∃ N : St → Hp → Prop, (∀ σ' H', N σ' H' → ∃ m', m' < m ∧ (m' = μ σ' H' ∧ Pv σ' H')) ∧ tb { D with nx := N, ct := N, bk := D.nx } σ H1 else D.nx σ H1
def lcA (D : Addr) (y : V) (H4 : Hp) (N : Hp → Prop) : Prop := ∃ acc, H4 D = some (.lst acc) ∧ acc.length < sizeLine ∧ N (upd H4 D (.lst (acc ++ [y])))
def lcQ (J : It) (g : TG) (tt : TT) (te : TE) (vs : List Nat) (σ : St) (H1 : Hp) (Q : VK) : Prop := ∀ D, H1 D = none → ∃ W : Nat → Nat → Hp → Prop, (∃ m, W 0 m (upd H1 D (.lst []))) ∧ ∀ i m H, W i m H →
  (J.stop i H ∧ Q (.ref D) H) ∨ (J.go i H ∧ ∃ Nx : Hp → Prop, (∀ H', Nx H' → ∃ m', m' < m ∧ W (i + 1) m' H') ∧ ∀ x H', J.yld i H x H' → g x (wipe σ vs) H' fun σ2 H2 => wipe σ2 vs = wipe σ vs ∧ tt σ2 H2 fun b H3 =>
    if b = true then te σ2 H3 fun y H4 => lcA D y H4 Nx else Nx H3)
section
variable {σ : St} {H : Hp} {Q : VK} {nx : St → Hp → Prop} {rt : VK} {bk ct : St → Hp → Prop} {tb : TS} {c tt : TT} {te : TE} {tA : TA} {g : TG} {wi : TI} {R : It → Hp → Prop} {K : PySem.W.Frag} {p : Addr} {xs : List V} {n : Nat} {j lo : Int} {b : Bool} {vs : List Nat} {x : V}
theorem go_for (h : wi σ H fun J H1 => forQ J g tb ⟨nx, rt, bk, ct⟩ σ H1) : tFor wi g tb ⟨nx, rt, bk, ct⟩ σ H := h
theorem go_rng1 (h : tA σ H fun vs H1 => qRng1 vs H1 R) : iRng1 tA σ H R := h
theorem go_qrng1 (h1 : -(2 ^ 62) ≤ j) (h2 : j < 2 ^ 62) (h : R (Itr 0 j.toNat) H) : qRng1 [.int j] H R := ⟨j, rfl, h1, h2, h⟩
theorem go_iL (h : te σ H fun x H1 => qItL K x H1 R) : iList K te σ H R := h
theorem go_iT (h : te σ H fun x H1 => qItT K x H1 R) : iTup K te σ H R := h
theorem go_qiL (h : H p = some (.lst xs)) (q : R (Itl K p) H) : qItL K (.ref p) H R := ⟨p, rfl, ⟨xs, SqL.of h⟩, q⟩
theorem go_qiLs (h : SqL K H p xs) (q : R (Itl K p) H) : qItL K (.ref p) H R := ⟨p, rfl, ⟨xs, h⟩, q⟩
theorem go_qiT (h : H p = some (.tup xs)) (q : R (Itt K p) H) : qItT K (.ref p) H R := ⟨p, rfl, ⟨xs, SqT.of h⟩, q⟩
theorem fq_range (Pv : Nat → St → Hp → Prop) (h0 : Pv 0 σ H) (hs : ∀ (i : Nat) (σ : St) (H : Hp), i < n → Pv i σ H → g (.int (lo + i)) σ H fun σ2 H2 => tb ⟨Pv (i + 1), rt, nx, Pv (i + 1)⟩ σ2 H2) (hd : ∀ σ H, Pv n σ H → nx σ H) :
    forQ (Itr lo n) g tb ⟨nx, rt, bk, ct⟩ σ H := for_range (D := ⟨nx, rt, bk, ct⟩) Pv h0 hs hd
theorem fq_list (xs : List V) (Pv : Nat → St → Hp → Prop) (h0 : Pv 0 σ H) (hl : ∀ (i : Nat) (σ : St) (H : Hp), i ≤ xs.length → Pv i σ H → SqL K H p xs) (hs : ∀ (i : Nat) (x : V) (σ : St) (H : Hp), xs[i]? = some x → Pv i σ H → g x σ H fun σ2 H2 => tb ⟨Pv (i + 1), rt, nx, Pv (i + 1)⟩ σ2 H2) (hd : ∀ σ H, Pv xs.length σ H → nx σ H) :
    forQ (Itl K p) g tb ⟨nx, rt, bk, ct⟩ σ H := for_list (D := ⟨nx, rt, bk, ct⟩) Pv h0 hl hs hd
theorem go_whQ {Pv : St → Hp → Prop} {μ : St → Hp → Nat} {m : Nat} (h : if b = true then tb ⟨fun σ' H' => Pv σ' H' ∧ μ σ' H' < m, rt, nx, fun σ' H' => Pv σ' H' ∧ μ σ' H' < m⟩ σ H else nx σ H) : whQ Pv μ m tb ⟨nx, rt, bk, ct⟩ σ b H := by
  unfold whQ
  cases b with
  | true =>
    rw [if_pos rfl] at h ⊢
    exact ⟨_, fun σ' H' (z : Pv σ' H' ∧ μ σ' H' < m) => ⟨_, z.2, rfl, z.1⟩, h⟩
  | false =>
    rw [if_neg Bool.false_ne_true] at h ⊢
    exact h
theorem go_lc (h : wi σ H fun J H1 => lcQ J g tt te vs σ H1 Q) : tLc wi g tt te vs σ H Q := h
theorem go_yes {QB : Bool → Hp → Prop} (h : QB true H) : tYes σ H QB := h
theorem go_lcA {D : Addr} {acc : List V} {y : V} {N : Hp → Prop} (h : H D = some (.lst acc)) (l : acc.length < sizeLine) (q : N (upd H D (.lst (acc ++ [y])))) : lcA D y H N := ⟨acc, h, l, q⟩
theorem lq_range (h : ∀ D, H D = none → ∃ Pv : Nat → Hp → Prop, Pv 0 (upd H D (.lst [])) ∧ (∀ (i : Nat) (H : Hp), i < n → Pv i H → g (.int (lo + i)) (wipe σ vs) H fun σ2 H2 => wipe σ2 vs = wipe σ vs ∧ tt σ2 H2 fun b H3 =>
      if b = true then te σ2 H3 fun y H4 => lcA D y H4 (Pv (i + 1)) else Pv (i + 1) H3) ∧ ∀ H, Pv n H → Q (.ref D) H) : lcQ (Itr lo n) g tt te vs σ H Q := fun D hD => by
  obtain ⟨Pv, h0, hs, hd⟩ := h D hD
  exact lc_range (Qd := Q (.ref D)) Pv h0 hs hd
theorem lq_list (xs : List V) (h : ∀ D, H D = none → ∃ Pv : Nat → Hp → Prop, Pv 0 (upd H D (.lst [])) ∧ (∀ (i : Nat) (H : Hp), i ≤ xs.length → Pv i H → SqL K H p xs) ∧ (∀ (i : Nat) (x : V) (H : Hp), xs[i]? = some x → Pv i H → g x (wipe σ vs) H fun σ2 H2 => wipe σ2 vs = wipe σ vs ∧ tt σ2 H2 fun b H3 =>
      if b = true then te σ2 H3 fun y H4 => lcA D y H4 (Pv (i + 1)) else Pv (i + 1) H3) ∧ ∀ H, Pv xs.length H → Q (.ref D) H) : lcQ (Itl K p) g tt te vs σ H Q := fun D hD => by
  obtain ⟨Pv, h0, hl, hs, hd⟩ := h D hD
  exact lc_list (Qd := Q (.ref D)) Pv h0 hl hs hd
end
def Off (d : Addr) (H H' : Hp) : Prop := ∀ b o, H b = some o → b ≠ d → H' b = some o
theorem upd_new {H : Hp} {p a : Addr} {o u : HO} (hp : H p = none) (h : H a = some u) : upd H p o a = some u := by rw [upd_ne (ne_of_none h hp)]; exact h
theorem upd_oth {H : Hp} {p a : Addr} {o u : HO} (hp : a ≠ p) (h : H a = some u) : upd H p o a = some u := by rw [upd_ne hp]; exact h
theorem Same.get {H H' : Hp} {a : Addr} {o : HO} (s : Same H H') (h : H a = some o) : H' a = some o := s a o h
theorem Off.get {d : Addr} {H H' : Hp} {a : Addr} {o : HO} (s : Off d H H') (n : a ≠ d) (h : H a = some o) : H' a = some o := s a o h n
theorem Same.off {d : Addr} {H H' : Hp} (s : Same H H') : Off d H H' := fun b o h _ => s b o h
theorem Off.refl (d : Addr) (H : Hp) : Off d H H := fun _ _ h _ => h
theorem Off.trans {d : Addr} {H H1 H2 : Hp} (a : Off d H H1) (b : Off d H1 H2) : Off d H H2 := fun c o h n => b c o (a c o h n) n
theorem same_new {H : Hp} {p : Addr} (h : H p = none) (o : HO) : Same H (upd H p o) := fun b u q => by rw [upd_ne (ne_of_none q h)]; exact q
theorem off_upd (H : Hp) (d : Addr) (o : HO) : Off d H (upd H d o) := fun b u q n => by rw [upd_ne n]; exact q
end L2
set_option Elab.async false
set_option linter.all false
set_option maxRecDepth 100000
namespace L2
open PySem PySem.Spec PyProof.Rows
section
open PySem.SeqAt
open PySem.AutoSeq1 (wpAny_loadPart')
open PySem.MeetsSeq PySem.MeetsSeq2 PySem.MeetsSeq3
theorem ll_loop (l b : Addr) (us ws : Array Value) (c1 c2 : Nat) (d1 d2 : Option Addr) (f1 f2 : Array (Option Value)) (ns ms : List Int) (hu : IntsAre us.toList ns) (hw : IntsAre ws.toList ms) (k : Nat) :
    ∀ i : Nat, us.size + 1 - i = k → i ≤ us.size → i ≤ ws.size → Meets (Builtin.«list.__eq__.loop» ⟨[.ref l, .ref b, rawInt i, rawInt 0], []⟩) (fun _ Z s =>
      s.heap.get? l = some ⟨.type "list", d1, .seq us c1, f1⟩ ∧ s.heap.get? b = some ⟨.type "list", d2, .seq ws c2, f2⟩ ∧ Z (.ok (.ret (.bool (HT.lexLt (ns.drop i) (ms.drop i))))) s) := by
  have zu : us.size = ns.length := by rw [← hu.length]; simp
  have zw : ws.size = ms.length := by rw [← hw.length]; simp
  induction k with
  | zero => intro i hk h1 _; omega
  | succ k ih =>
    intro i hk h1 h2 prog w A Z s h
    obtain ⟨hp, g, d, tk, os⟩ := s
    obtain ⟨hl, hb, h⟩ := h
    wp_walk using wpAny_loadPart' hl, wpAny_loadPart' hb
    by_cases e1 : i < us.size
    · have a1 : us[((i : Nat) : Int).toNat]? = some us[i] := by simp [e1]
      by_cases e2 : i < ws.size
      · have a2 : ws[((i : Nat) : Int).toNat]? = some ws[i] := by simp [e2]
        have s1 : (i : Int) + 1 = ((i + 1 : Nat) : Int) := by omega
        rw [a1, a2]
        obtain ⟨x, hx⟩ : ∃ x, ns[i]? = some x := ⟨_, List.getElem?_eq_getElem (by omega)⟩
        obtain ⟨y, hy⟩ : ∃ y, ms[i]? = some y := ⟨_, List.getElem?_eq_getElem (by omega)⟩
        have n1 : ns.drop i = x :: ns.drop (i + 1) := by rw [List.drop_eq_getElem_cons (by omega)]; congr 1; exact Option.some.inj ((List.getElem?_eq_getElem _).symm.trans hx)
        have m1 : ms.drop i = y :: ms.drop (i + 1) := by rw [List.drop_eq_getElem_cons (by omega)]; congr 1; exact Option.some.inj ((List.getElem?_eq_getElem _).symm.trans hy)
        rw [n1, m1, HT.lexLt_cons] at h
        obtain ⟨t, ht⟩ : ∃ t, us[i] = .int x t := by
          obtain ⟨z, t, q1, q2⟩ := hu.at i us[i] (by rw [Array.getElem?_toList, Array.getElem?_eq_getElem e1])
          rw [q2] at hx
          exact ⟨t, by rw [q1, Option.some.inj hx]⟩
        obtain ⟨t', ht'⟩ : ∃ t, ws[i] = .int y t := by
          obtain ⟨z, t, q1, q2⟩ := hw.at i ws[i] (by rw [Array.getElem?_toList, Array.getElem?_eq_getElem e2])
          rw [q2] at hy
          exact ⟨t, by rw [q1, Option.some.inj hy]⟩
        rw [ht, ht']
        obtain ⟨e, he, hi⟩ := HT.eqAt_int A.in1 ⟨hp, g, d, tk, os⟩ x t y t'
        refine wpAny_bind (he prog w _ _ ?_)
        cases e with
        | true =>
          rw [if_pos (hi.mp rfl)] at h
          wp_walk
          rw [s1]
          refine ⟨plainId_quiet plain_eq_loop _, codeAny_builtin entry_eq_loop ?_⟩
          rw [Around.under_plainId plain_eq_loop _]
          exact ih (i + 1) (by omega) (by omega) (by omega) prog w A Z _ ⟨hl, hb, h⟩
        | false =>
          rw [if_neg (fun q => absurd (hi.mpr q) Bool.false_ne_true)] at h
          have hri := HT.rcLt_int A.in1 ⟨hp, g, d, tk, os⟩ x t y t' prog w
          wp_walk using wpAny_loadPart' hl, wpAny_loadPart' hb
          rw [a1, a2, ht, ht']
          wp_walk using hri
          exact h
      · have a2 : ws[((i : Nat) : Int).toNat]? = none := by simp; omega
        rw [a1, a2]
        have m1 : ms.drop i = [] := List.drop_eq_nil_of_le (by omega)
        rw [m1, show HT.lexLt (ns.drop i) [] = false by cases ns.drop i <;> rfl] at h
        wp_walk using wpAny_loadPart' hl, wpAny_loadPart' hb
        show Z (.ok (.ret (.bool (decide (us.size < ws.size))))) _
        rw [decide_eq_false (by omega)]
        exact h
    · have a1 : us[((i : Nat) : Int).toNat]? = none := by simp; omega
      rw [a1]
      have n1 : ns.drop i = [] := List.drop_eq_nil_of_le (by omega)
      rw [n1] at h
      have q : HT.lexLt [] (ms.drop i) = decide (us.size < ws.size) := by
        by_cases e2 : i < ws.size
        · rw [List.drop_eq_getElem_cons (by omega : i < ms.length), HT.lexLt_nil_cons]
          exact (decide_eq_true (by omega)).symm
        · rw [List.drop_eq_nil_of_le (by omega : ms.length ≤ i), HT.lexLt_nil_nil]
          exact (decide_eq_false (by omega)).symm
      rw [q] at h
      wp_walk using wpAny_loadPart' hl, wpAny_loadPart' hb
      exact h
theorem ll_lt (l b : Addr) (us ws : Array Value) (c1 c2 : Nat) (d1 d2 : Option Addr) (f1 f2 : Array (Option Value)) (ns ms : List Int) (hu : IntsAre us.toList ns) (hw : IntsAre ws.toList ms) :
    Meets (Builtin.«list.__lt__» ⟨[.ref l, .ref b], []⟩) (fun _ Z s =>
      s.heap.get? l = some ⟨.type "list", d1, .seq us c1, f1⟩ ∧ s.heap.get? b = some ⟨.type "list", d2, .seq ws c2, f2⟩ ∧ Z (.ok (.ret (.bool (HT.lexLt ns ms)))) s) := by
  intro prog w A Z s h
  obtain ⟨hp, g, d, tk, os⟩ := s
  obtain ⟨hl, hb, h⟩ := h
  have f3 := AutoSeq1.sub_list_list
  wp_walk using wpAny_loadPart' hl, wpAny_loadPart' hb
  refine ⟨plainId_quiet plain_eq_loop _, codeAny_builtin entry_eq_loop ?_⟩
  rw [Around.under_plainId plain_eq_loop _]
  exact ll_loop l b us ws c1 c2 d1 d2 f1 f2 ns ms hu hw _ 0 rfl (Nat.zero_le _) (Nat.zero_le _) prog w A Z _ ⟨hl, hb, h⟩
section
variable {prog : Program} {w : World} {A : Around} {E : Value → Shared → Prop} {s : Shared} {l b : Addr} {us ws : Array Value} {ns ms : List Int}
theorem rc_lists {Q : Value → Shared → Prop} (hl : s.heap.IsList l us) (hb : s.heap.IsList b ws) (hi : IntsAre us.toList ns) (hj : IntsAre ws.toList ms) (r : A.units < cLine) (q : Q (.bool (HT.lexLt ns ms)) s) :
    wpAny (model prog w) A (richCompare .Lt (.ref l) (.ref b)) Q E s := by
  obtain ⟨⟨k1, d1, x1, f1⟩, o1, e1, n1, e2⟩ := id hl
  obtain ⟨⟨k2, d2, x2, f2⟩, o2, e3, n2, e4⟩ := id hb
  simp only at e1 e2 e3 e4
  subst e1 e2 e3 e4
  refine richCompare_meets_room (op := .Lt) ⟨_, o1, rfl⟩ ⟨_, o2, rfl⟩ PySem.F.slot_list_lt PySem.F.entry_list_lt (PySem.F.args_list_lt_2 _ _) (ll_lt l b us ws n1 n2 d1 d2 f1 f2 ns ms hi hj) ⟨o1, o2, ?_⟩ r
  exact (show Value.bool (HT.lexLt ns ms) ≠ Value.notImplemented ∧ Q (.bool (HT.lexLt ns ms)) s from ⟨nofun, q⟩)
theorem ints_uniq : ∀ {vs : List Value} {ns ms : List Int}, IntsAre vs ns → IntsAre vs ms → ns = ms
  | _, _, _, .nil, .nil => rfl
  | _, _, _, .cons _ _ a, .cons _ _ b => by rw [ints_uniq a b]
theorem all_same : ∀ {ns ms : List Int}, ns.length = ms.length → ((List.range ns.length).all fun j => ns.getD j 0 == ms.getD j 0) = decide (ns = ms)
  | [], [], _ => rfl
  | x :: xs, y :: ys, h => by
    have ih := all_same (Nat.succ.inj h)
    rw [List.length_cons, List.range_succ_eq_map, List.all_cons, List.all_map]
    have e : ((fun j => (x :: xs).getD j 0 == (y :: ys).getD j 0) ∘ Nat.succ) = fun j => xs.getD j 0 == ys.getD j 0 := by
      funext j
      simp
    rw [e, ih]
    by_cases c : x = y
    · subst c; simp
    · simp [c]
theorem ea_lists (hl : s.heap.IsList l us) (hb : s.heap.IsList b ws) (hi : IntsAre us.toList ns) (hj : IntsAre ws.toList ms) (r : A.units < cLine) : EqAt A s (.ref l) (.ref b) (decide (ns = ms)) := by
  have zu : us.size = ns.length := by rw [← hi.length]; simp
  have zw : ws.size = ms.length := by rw [← hj.length]; simp
  by_cases c : l = b
  · subst c
    have e : us = ws := by
      obtain ⟨o, h1, _, n, h2⟩ := hl
      obtain ⟨o', h1', _, n', h2'⟩ := hb
      rw [h1] at h1'
      cases h1'
      rw [h2] at h2'
      injection h2'
    subst e
    rw [ints_uniq hi hj, decide_eq_true rfl]
    exact EqAt.same _
  · refine EqAt.of_refs c ?_
    by_cases z : us.size = ws.size
    · have q := RcAt.lists (e := fun j => ns.getD j 0 == ms.getD j 0) hl hb z r fun j h1 h2 => ?_
      · rw [zu, all_same (by omega)] at q
        exact q
      · obtain ⟨x, t, q1, q2⟩ := hi.at j us[j] (by rw [Array.getElem?_toList, Array.getElem?_eq_getElem h1])
        obtain ⟨y, t', q3, q4⟩ := hj.at j ws[j] (by rw [Array.getElem?_toList, Array.getElem?_eq_getElem h2])
        rw [q1, q3, List.getD_eq_getElem?_getD, List.getD_eq_getElem?_getD, q2, q4]
        exact EqAt.int_int x t y t'
    · rw [decide_eq_false (fun e => z (by rw [zu, zw, e]))]
      exact RcAt.lists_lengths hl hb (by simpa using z) r
def pLt (a b : Int × List Int) : Bool := if a.1 = b.1 then HT.lexLt a.2 b.2 else decide (a.1 < b.1)
theorem lex_irr : ∀ ns : List Int, HT.lexLt ns ns = false
  | [] => rfl
  | x :: xs => by rw [HT.lexLt_cons, if_pos rfl]; exact lex_irr xs
theorem tt_lt (p q : Addr) (c1 c2 : Nat) (d1 d2 : Option Addr) (f1 f2 : Array (Option Value)) (i j : Int) (ti tj : Tok) (hi : IntsAre us.toList ns) (hj : IntsAre ws.toList ms) :
    Meets (Builtin.«tuple.__lt__» ⟨[.ref p, .ref q], []⟩) (fun A Z s => A.units + 1 < cLine ∧ s.heap.IsList l us ∧ s.heap.IsList b ws ∧
      s.heap.get? p = some ⟨.type "tuple", d1, .seq #[.int i ti, .ref l] c1, f1⟩ ∧ s.heap.get? q = some ⟨.type "tuple", d2, .seq #[.int j tj, .ref b] c2, f2⟩ ∧ Z (.ok (.ret (.bool (pLt (i, ns) (j, ms))))) s) :=
  .of_wp fun prog w A Z s h => by
    obtain ⟨hp, g, d, tk, os⟩ := s
    obtain ⟨r, hl, hb, h1, h2, h⟩ := h
    have f2 := AutoSeq1.sub_tuple_tuple
    have z1 : i = j → ns = ms → pLt (i, ns) (j, ms) = false := fun e1 e2 => by
      subst e1 e2
      unfold pLt
      rw [if_pos rfl]
      exact lex_irr ns
    wp_walk using wpAny_loadPart' h1, wpAny_loadPart' h2, wpAny_forIn_list _ (fun rest x s' => x.1 = none ∧ s' = ⟨hp, g, d, tk, os⟩ ∧
      (rest = [(.int i ti, .int j tj), (.ref l, .ref b)] ∨ (rest = [(.ref l, .ref b)] ∧ i = j) ∨ (rest = [] ∧ i = j ∧ ns = ms))) _
    case turn =>
      rintro ⟨y, x⟩ rest k s' ⟨hk, rfl, hr | ⟨hr, e1⟩ | ⟨hr, _⟩⟩
      · injection hr with a1 a2
        injection a1 with a3 a4
        subst a2 a3 a4
        obtain ⟨e, he, hiff⟩ := HT.eqAt_int A.in1 ⟨hp, g, d, tk, os⟩ i ti j tj
        refine wpAny_bind (he prog w _ _ ?_)
        cases e with
        | true =>
          wp_walk
          exact ⟨rfl, rfl, .inr (.inl ⟨rfl, hiff.mp rfl⟩)⟩
        | false =>
          have hne : ¬ i = j := fun q => absurd (hiff.mpr q) Bool.false_ne_true
          have hri := HT.rcLt_int A.in1 ⟨hp, g, d, tk, os⟩ i ti j tj prog w
          wp_walk using hri
          refine ⟨_, rfl, ?_⟩
          unfold pLt at h
          rw [if_neg hne] at h
          exact h
      · injection hr with a1 a2
        injection a1 with a3 a4
        subst a2 a3 a4
        refine wpAny_bind (ea_lists (A := A.in1) hl hb hi hj r prog w _ _ ?_)
        by_cases e2 : ns = ms
        · rw [decide_eq_true e2]
          wp_walk
          exact ⟨rfl, rfl, .inr (.inr ⟨rfl, e1, e2⟩)⟩
        · rw [decide_eq_false e2]
          have hri : ∀ (Q : Value → Shared → Prop) (E : Value → Shared → Prop), Q (.bool (HT.lexLt ns ms)) ⟨hp, g, d, tk, os⟩ → wpAny (model prog w) A.in1 (richCompare .Lt (.ref l) (.ref b)) Q E ⟨hp, g, d, tk, os⟩ := fun Q E q => rc_lists hl hb hi hj r q
          wp_walk using hri
          refine ⟨_, rfl, ?_⟩
          unfold pLt at h
          rw [if_pos e1] at h
          exact h
      · cases hr
    case fin =>
      rintro ⟨x1, x2⟩ s' ⟨hk, rfl, hr | ⟨hr, _⟩ | ⟨_, e1, e2⟩⟩
      · cases hr
      · cases hr
      · simp only at hk
        subst hk
        rw [z1 e1 e2] at h
        wp_walk
        exact ⟨_, rfl, h⟩
    case h => exact ⟨rfl, rfl, .inl rfl⟩
theorem rc_pairs {p q : Addr} {i j : Int} {ti tj : Tok} {Q : Value → Shared → Prop} (hp : IsTup s.heap p #[.int i ti, .ref l]) (hq : IsTup s.heap q #[.int j tj, .ref b]) (hl : s.heap.IsList l us) (hb : s.heap.IsList b ws)
    (hi : IntsAre us.toList ns) (hj : IntsAre ws.toList ms) (r : A.units + 1 < cLine) (h : Q (.bool (pLt (i, ns) (j, ms))) s) : wpAny (model prog w) A (richCompare .Lt (.ref p) (.ref q)) Q E s := by
  obtain ⟨⟨k1, d1, x1, f1⟩, o1, e1, n1, e2⟩ := id hp
  obtain ⟨⟨k2, d2, x2, f2⟩, o2, e3, n2, e4⟩ := id hq
  simp only at e1 e2 e3 e4
  subst e1 e2 e3 e4
  refine richCompare_meets_room (op := .Lt) ⟨_, o1, rfl⟩ ⟨_, o2, rfl⟩ PySem.F.slot_tuple_lt PySem.F.entry_tuple_lt (PySem.F.args_tuple_lt_2 _ _) (tt_lt (l := l) (b := b) p q n1 n2 d1 d2 f1 f2 i j ti tj hi hj) ⟨r, hl, hb, o1, o2, ?_⟩ (by omega)
  exact (show Value.bool (pLt (i, ns) (j, ms)) ≠ Value.notImplemented ∧ Q (.bool (pLt (i, ns) (j, ms))) s from ⟨nofun, h⟩)
end
end
def CmpIn (prog : Program) (w : World) (A : Around) (G : Heap → Prop) (P : Nat → Value → Prop) (bt : Nat → Nat → Bool) : Prop :=
  ∀ i j x y (s : Shared) (Q : Value → Shared → Prop) (E : Value → Shared → Prop), G s.heap → P i x → P j y → Q (.bool (bt i j)) s → wpAny (model prog w) A (richCompare .Lt x y) Q E s
section
variable {prog : Program} {w : World} {A : Around} {Z : Result → Shared → Prop} {I S : Addr} {fp wr : List Addr} {n : Nat} {P : Nat → Value → Prop} {St : Nat → Heap → Prop} {G : Heap → Prop} {bt : Nat → Nat → Bool}
theorem mn_word : (toString "min" ++ toString ".loop" : String) = "min.loop" := by decide
theorem mn_loop (W : Walks prog w A.in1 I fp wr n P St) (cmp : CmpIn prog w A.in1 G P bt) (off : S ∉ fp) (stay : ∀ h h', (∀ b o, b ∉ wr → b ≠ S → h.get? b = some o → h'.get? b = some o) → G h → G h') :
    ∀ (k j : Nat) (s : Shared) (vb : Value) (c : Nat), n - (j + 1) = k → j + 1 ≤ n → St (j + 1) s.heap → G s.heap → P (argBest bt j) vb → s.heap.get? S = some ⟨.type "list", none, .seq #[vb, vb] c, #[]⟩ →
    (∀ v h' tk, P (argBest bt (n - 1)) v → (∀ b o, b ∉ wr → b ≠ S → s.heap.get? b = some o → h'.get? b = some o) → Z (.ok (.ret v)) { s with heap := h', toks := tk }) →
    codeAny (model prog w) A (.builtin "min.loop" ⟨[.ref I, .none, .ref S], []⟩) Z s := by
  have offw : S ∉ wr := fun z => off (W.sub _ z)
  intro k
  induction k with
  | zero =>
    intro j s vb c hk hj st hg hv hS z
    have en : j + 1 = n := by omega
    refine codeAny_builtin PySem.F.entry_min_loop ?_
    rw [Around.under_plainId PySem.F.plain_min_loop _]
    show wpAny _ A.in1 (seqItems? (.ref S) >>= _) _ _ s
    refine wpAny_bind (wpAny_seqItems hS rfl (show wpAny _ A.in1 (tryCatch (pyNext (.ref I)) _ >>= _) _ _ s from ?_))
    refine wpAny_bind (wpAny_tryCatch (W.done s _ _ (en ▸ st) fun h' tk kp => ?_))
    show wpAny _ A.in1 (updateSeq S (fun _ => #[]) >>= _) _ _ _
    refine wpAny_bind (wpAny_updateSeq (kp S _ offw hS) rfl (wpAny_bind (wpAny_letGo (wpAny_pure (z vb _ tk (by rw [← en]; exact hv) fun b o nb ns e => ?_)))))
    rw [Heap.get?_update_other _ _ (Ne.symm ns)]
    exact kp b o nb e
  | succ k ih =>
    intro j s vb c hk hj st hg hv hS z
    have lt : j + 1 < n := by omega
    refine codeAny_builtin PySem.F.entry_min_loop ?_
    rw [Around.under_plainId PySem.F.plain_min_loop _]
    show wpAny _ A.in1 (seqItems? (.ref S) >>= _) _ _ s
    refine wpAny_bind (wpAny_seqItems hS rfl (show wpAny _ A.in1 (tryCatch (pyNext (.ref I)) _ >>= _) _ _ s from ?_))
    refine wpAny_bind (wpAny_tryCatch (W.item (j + 1) s _ _ lt st fun v h' tk pv st' kp => ?_))
    have hS' := kp S _ offw hS
    have hg' : G h' := stay _ _ (fun b o nb _ e => kp b o nb e) hg
    show wpAny _ A.in1 (tryCatch (holding [v, v] (richCompare .Lt v vb >>= _)) _ >>= _) _ _ _
    refine wpAny_bind (wpAny_tryCatch (wpAny_holding (wpAny_bind (cmp (j + 1) (argBest bt j) v vb _ _ _ hg' pv hv (wpAny_bind (wpAny_holding (wpAny_truthy_bool (wpAny_bind (wpAny_letGo (wpAny_pure ?_))))))))))
    cases hb : bt (j + 1) (argBest bt j) with
    | true =>
      simp only [if_true]
      refine wpAny_bind (wpAny_updateSeq hS' rfl (wpAny_bind (wpAny_letGo ?_)))
      rw [mn_word]
      refine wpAny_pure ⟨plainId_quiet PySem.F.plain_min_loop _, ih (j + 1) _ v _ (by omega) lt (W.frame _ _ _ st' fun b fb o e => ?_) (stay _ _ (fun b o _ ns e => ?_) hg') (by simp only [argBest, hb, if_true]; exact pv) (Heap.get?_update_self _ hS' rfl) fun v' h2 tk2 pv' k2 => z v' h2 tk2 pv' fun b o nb ns e => k2 b o nb ns ?_⟩
      · rw [Heap.get?_update_other _ _ (fun q : S = b => off (by rw [q]; exact fb))]; exact e
      · rw [Heap.get?_update_other _ _ (Ne.symm ns)]; exact e
      · rw [Heap.get?_update_other _ _ (Ne.symm ns)]; exact kp b o nb e
    | false =>
      simp only [Bool.false_eq_true, if_false]
      refine wpAny_bind (wpAny_letGo ?_)
      rw [mn_word]
      exact wpAny_pure ⟨plainId_quiet PySem.F.plain_min_loop _, ih (j + 1) _ vb c (by omega) lt st' hg' (by simp only [argBest, hb, Bool.false_eq_true, if_false]; exact hv) hS' fun v' h2 tk2 pv' k2 => z v' h2 tk2 pv' fun b o nb ns e => k2 b o nb ns (kp b o nb e)⟩
theorem mn_first (W : Walks prog w A.in1 I fp wr n P St) (cmp : CmpIn prog w A.in1 G P bt) (off : S ∉ fp) (stay : ∀ h h', (∀ b o, b ∉ wr → b ≠ S → h.get? b = some o → h'.get? b = some o) → G h → G h') (pos : 0 < n) {s : Shared} {c : Nat} (st : St 0 s.heap) (hg : G s.heap)
    (hS : s.heap.get? S = some ⟨.type "list", none, .seq #[] c, #[]⟩) (z : ∀ v h' tk, P (argBest bt (n - 1)) v → (∀ b o, b ∉ wr → b ≠ S → s.heap.get? b = some o → h'.get? b = some o) → Z (.ok (.ret v)) { s with heap := h', toks := tk }) :
    codeAny (model prog w) A (.builtin "min.loop" ⟨[.ref I, .none, .ref S], []⟩) Z s := by
  have offw : S ∉ wr := fun z => off (W.sub _ z)
  refine codeAny_builtin PySem.F.entry_min_loop ?_
  rw [Around.under_plainId PySem.F.plain_min_loop _]
  show wpAny _ A.in1 (seqItems? (.ref S) >>= _) _ _ s
  refine wpAny_bind (wpAny_seqItems hS rfl (show wpAny _ A.in1 (tryCatch (pyNext (.ref I)) _ >>= _) _ _ s from ?_))
  refine wpAny_bind (wpAny_tryCatch (W.item 0 s _ _ pos st fun v h' tk pv st' kp => ?_))
  have hS' := kp S _ offw hS
  have hg' : G h' := stay _ _ (fun b o nb _ e => kp b o nb e) hg
  show wpAny _ A.in1 (updateSeq S (fun _ => #[v, v]) >>= _) _ _ _
  refine wpAny_bind (wpAny_updateSeq hS' rfl ?_)
  rw [mn_word]
  refine wpAny_pure ⟨plainId_quiet PySem.F.plain_min_loop _, mn_loop W cmp off stay _ 0 _ v _ rfl pos (W.frame _ _ _ st' fun b fb o e => ?_) (stay _ _ (fun b o _ ns e => ?_) hg') pv (Heap.get?_update_self _ hS' rfl) fun v' h2 tk2 pv' k2 => z v' h2 tk2 pv' fun b o nb ns e => k2 b o nb ns ?_⟩
  · rw [Heap.get?_update_other _ _ (fun q : S = b => off (by rw [q]; exact fb))]; exact e
  · rw [Heap.get?_update_other _ _ (Ne.symm ns)]; exact e
  · rw [Heap.get?_update_other _ _ (Ne.symm ns)]; exact kp b o nb e
end
section
variable {prog : Program} {w : World} {A : Around} {E : Value → Shared → Prop} {s : Shared}
theorem mn_call {a : Addr} {its : Array Value} {bt : Nat → Nat → Bool} {Q : Value → Shared → Prop} (calm : A.handled = none) (hl : s.heap.IsList a its) (pos : 0 < its.size)
    (cmp : CmpIn prog w A.in1 (fun h => ∀ b o, s.heap.get? b = some o → h.get? b = some o) (fun i v => its[i]? = some v) bt)
    (q : ∀ v h' tk, its[argBest bt (its.size - 1)]? = some v → (∀ b o, s.heap.get? b = some o → h'.get? b = some o) → Q v { s with heap := h', toks := tk }) : wpAny (model prog w) A (call (.builtin "min") [.ref a]) Q E s := by
  have la : a < s.heap.objs.size := by
    obtain ⟨_, e, _⟩ := hl
    exact Heap.lt_size e
  refine call_function_tree PySem.F.kind_min PySem.F.plain_min PySem.F.entry_min (PySem.F.args_min1 _) ?_
  show wpAny _ A.in1 (Builtin.Builtins.bindParams "min" ["key", "default"] 0 ⟨[], []⟩ >>= _) _ _ s
  refine wpAny_bind (wpAny_of_eq (show Builtin.Builtins.bindParams "min" ["key", "default"] 0 ⟨[], []⟩ = pure [none, none] from rfl) (wpAny_bind (wpAny_pure ?_)))
  refine wpAny_bind (wpAny_pyIter_list hl (wpAny_bind (wpAny_newObj_type ?_)))
  rw [mn_word]
  have ne : a ≠ s.heap.objs.size := Nat.ne_of_lt la
  have szS : (s.heap.push { cls := .type "list_iterator", data := .fields #[.ref a, .int 0 0] }).objs.size = s.heap.objs.size + 1 := Heap.size_push ..
  have old : ∀ (b : Addr) (o : Obj), s.heap.get? b = some o → b ≠ s.heap.objs.size ∧ b ≠ s.heap.objs.size + 1 := fun b o e => by
    have q := Heap.lt_size e
    exact ⟨Nat.ne_of_lt q, Nat.ne_of_lt (Nat.lt_succ_of_lt q)⟩
  refine wpAny_pure ⟨plainId_quiet PySem.F.plain_min_loop _, mn_first (G := fun h => ∀ b o, s.heap.get? b = some o → h.get? b = some o) (Walks.list (A := A.in1) calm s.heap.objs.size a ne its) cmp ?_ ?_ pos ⟨⟨_, Heap.get?_push_of_some _ (Heap.get?_push_size _ rfl), rfl, rfl⟩, (hl.push _).push _⟩ ?_ (Heap.get?_push_size _ rfl) fun v h' tk pv kp => q v h' tk pv fun b o e => ?_⟩
  · rw [szS]
    intro z
    rcases List.mem_cons.mp z with z | z
    · exact Nat.succ_ne_self _ z
    · exact Nat.ne_of_lt (Nat.lt_succ_of_lt la) (List.mem_singleton.mp z).symm
  · intro h h' k hg b o e
    refine k b o ?_ ?_ (hg b o e)
    · simpa using (old b o e).1
    · rw [szS]; exact (old b o e).2
  · intro b o e
    exact Heap.get?_push_of_some _ (Heap.get?_push_of_some _ e)
  · refine kp b o ?_ ?_ (Heap.get?_push_of_some _ (Heap.get?_push_of_some _ e))
    · simpa using (old b o e).1
    · rw [szS]; exact (old b o e).2
end
theorem best_is {bt : Nat → Nat → Bool} (irr : ∀ i, bt i i = false) (asy : ∀ i j, bt i j = true → bt j i = false) (neg : ∀ i j k, bt i j = false → bt j k = false → bt i k = false) : ∀ k, argBest bt k ≤ k ∧ ∀ j, j ≤ k → bt j (argBest bt k) = false
  | 0 => ⟨Nat.le_refl _, fun j h => by rw [Nat.le_zero.mp h]; exact irr _⟩
  | k + 1 => by
    obtain ⟨h1, h2⟩ := best_is irr asy neg k
    unfold argBest
    cases e : bt (k + 1) (argBest bt k) with
    | true =>
      refine ⟨Nat.le_refl _, fun j hj => ?_⟩
      rw [if_pos rfl]
      by_cases c : j = k + 1
      · rw [c]; exact irr _
      · exact neg _ _ _ (h2 j (by omega)) (asy _ _ e)
    | false =>
      rw [if_neg Bool.false_ne_true]
      refine ⟨by omega, fun j hj => ?_⟩
      by_cases c : j = k + 1
      · rw [c]; exact e
      · exact h2 j (by omega)
theorem lex_tot : ∀ {a b : List Int}, HT.lexLt a b = true → HT.lexLt b a = false
  | [], [], _ => rfl
  | [], _ :: _, _ => rfl
  | _ :: _, [], h => by cases h
  | x :: xs, y :: ys, h => by
    rw [HT.lexLt_cons] at h ⊢
    by_cases e : x = y
    · rw [if_pos e] at h
      rw [if_pos e.symm]
      exact lex_tot h
    · rw [if_neg e] at h
      rw [if_neg (fun z => e z.symm)]
      have := of_decide_eq_true h
      exact decide_eq_false (by omega)
theorem lex_neg : ∀ {a b c : List Int}, HT.lexLt a b = false → HT.lexLt b c = false → HT.lexLt a c = false
  | [], b, [], _, _ => rfl
  | [], [], _ :: _, _, h => h
  | [], _ :: _, _ :: _, h, _ => by cases h
  | _ :: _, _, [], _, _ => rfl
  | _ :: _, [], _ :: _, _, h => by cases h
  | x :: xs, y :: ys, z :: zs, h, h' => by
    rw [HT.lexLt_cons] at h h' ⊢
    by_cases e : x = y
    · subst e
      rw [if_pos rfl] at h
      by_cases e' : x = z
      · rw [if_pos e'] at h' ⊢
        exact lex_neg h h'
      · rw [if_neg e'] at h' ⊢
        exact h'
    · rw [if_neg e] at h
      have h1 := of_decide_eq_false h
      by_cases e' : y = z
      · subst e'
        rw [if_neg e]
        exact h
      · rw [if_neg e'] at h'
        have h2 := of_decide_eq_false h'
        rw [if_neg (by omega)]
        exact decide_eq_false (by omega)
theorem pLt_irr (a : Int × List Int) : pLt a a = false := by
  unfold pLt
  rw [if_pos rfl]
  exact lex_irr _
theorem pLt_asy {a b : Int × List Int} (h : pLt a b = true) : pLt b a = false := by
  unfold pLt at h ⊢
  by_cases e : a.1 = b.1
  · rw [if_pos e] at h
    rw [if_pos e.symm]
    exact lex_tot h
  · rw [if_neg e] at h
    rw [if_neg (fun z => e z.symm)]
    have := of_decide_eq_true h
    exact decide_eq_false (by omega)
theorem pLt_neg {a b c : Int × List Int} (h : pLt a b = false) (h' : pLt b c = false) : pLt a c = false := by
  unfold pLt at h h' ⊢
  by_cases e : a.1 = b.1
  · rw [if_pos e] at h
    by_cases e' : b.1 = c.1
    · rw [if_pos e'] at h'
      rw [if_pos (e.trans e')]
      exact lex_neg h h'
    · rw [if_neg e'] at h'
      rw [if_neg (fun z => e' (e.symm.trans z)), e]
      exact h'
  · rw [if_neg e] at h
    have h1 := of_decide_eq_false h
    by_cases e' : b.1 = c.1
    · rw [if_neg (fun z => e (z.trans e'.symm)), ← e']
      exact h
    · rw [if_neg e'] at h'
      have h2 := of_decide_eq_false h'
      rw [if_neg (by omega)]
      exact decide_eq_false (by omega)
def PrAt (H : Hp) (d : Int × List Int) (p : Addr) : Prop := ∃ l, H p = some (.tup [.int d.1, .ref l]) ∧ H l = some (.lst (d.2.map V.int))
def rMinP (K : PySem.W.Frag) : List V → Hp → VK → Prop := fun vs H Q => ∃ (a : Addr) (ps : List Addr) (ds : List (Int × List Int)), vs = [V.ref a] ∧ SqL K H a (ps.map V.ref) ∧ ps.length = ds.length ∧ 0 < ps.length ∧
  (∀ (i : Nat) p d, ps[i]? = some p → ds[i]? = some d → PrAt H d p) ∧ ∀ (i : Nat) p d, ps[i]? = some p → ds[i]? = some d → (∀ y ∈ ds, pLt y d = false) → Q (.ref p) H
theorem vals_refs : ∀ {ps : List Addr} {us : List Value}, Vals (ps.map V.ref) us → us = ps.map Value.ref
  | [], _, r => by cases r; rfl
  | p :: ps, _, r => by
    cases r with
    | cons r1 r2 =>
      cases r1
      rw [vals_refs r2]
      rfl
theorem cr_minP {X : Cx} (hc : X.calm = true) (hu : X.A.units + 64 < cLine) : CallR X (.builtin "min") (rMinP X.K) := by
  intro pins s σ H vs us Q I r h
  obtain ⟨a, ps, ds, rfl, hs, hl, h0, hp, q⟩ := h
  obtain ⟨its, rv, pl, _⟩ := I.list hs
  rw [Vals.ref1 r]
  have e := vals_refs rv
  subst e
  have zz : (ps.map Value.ref).toArray.size = ps.length := by simp
  have at1 : ∀ (i : Nat) (v : Value), (ps.map Value.ref).toArray[i]? = some v → ∃ p d, ps[i]? = some p ∧ ds[i]? = some d ∧ v = .ref p := fun i v e => by
    rw [List.getElem?_toArray, List.getElem?_map] at e
    cases e1 : ps[i]? with
    | none => rw [e1] at e; cases e
    | some p =>
      rw [e1] at e
      have : i < ps.length := (List.getElem?_eq_some_iff.mp e1).1
      exact ⟨p, ds[i]'(by omega), rfl, List.getElem?_eq_getElem _, (Option.some.inj e).symm⟩
  refine mn_call (bt := fun i j => pLt (ds.getD i (0, [])) (ds.getD j (0, []))) (I.ok.hd hc) pl.isList (by rw [zz]; exact h0) ?_ fun v h' tk hv kp => ?_
  · intro i j x y s' Q' E' hg hx hy q'
    obtain ⟨p1, d1, a1, b1, rfl⟩ := at1 i x hx
    obtain ⟨p2, d2, a2, b2, rfl⟩ := at1 j y hy
    obtain ⟨l1, t1, u1⟩ := hp i p1 d1 a1 b1
    obtain ⟨l2, t2, u2⟩ := hp j p2 d2 a2 b2
    obtain ⟨i1, v1, w1, _⟩ := I.tuple (SqT.of t1)
    obtain ⟨i2, v2, w2, _⟩ := I.tuple (SqT.of t2)
    obtain ⟨i3, n3, v3, w3, _⟩ := I.lst u1
    obtain ⟨i4, n4, v4, w4, _⟩ := I.lst u2
    obtain ⟨z1, z2, rfl, ⟨tk1, rfl⟩, r2⟩ := v1.two
    cases r2
    obtain ⟨z3, z4, rfl, ⟨tk2, rfl⟩, r4⟩ := v2.two
    cases r4
    simp only [List.getD_eq_getElem?_getD, b1, b2, Option.getD_some] at q'
    exact rc_pairs (w1.keeps hg) (w2.keeps hg) ⟨_, hg _ _ w3, rfl, n3, rfl⟩ ⟨_, hg _ _ w4, rfl, n4, rfl⟩ (intsAre_of v3) (intsAre_of v4) (by show X.A.units + 1 + 1 < cLine; omega) q'
  · obtain ⟨p, d, a1, b1, rfl⟩ := at1 _ v hv
    obtain ⟨k1, k2⟩ := best_is (bt := fun i j => pLt (ds.getD i (0, [])) (ds.getD j (0, []))) (fun i => pLt_irr _) (fun i j e => pLt_asy e) (fun i j k e e' => pLt_neg e e') ((ps.map Value.ref).toArray.size - 1)
    refine ⟨.ref p, H, I.kept kp, rfl, q _ p d a1 b1 fun y hy => ?_⟩
    obtain ⟨j, hj⟩ := List.mem_iff_getElem?.mp hy
    have lj : j < ds.length := (List.getElem?_eq_some_iff.mp hj).1
    have q2 := k2 j (by rw [zz]; omega)
    rw [List.getD_eq_getElem?_getD, List.getD_eq_getElem?_getD, b1, hj] at q2
    exact q2
section
variable {prog : Program} {w : World} {A : Around} {E : Value → Shared → Prop} {s : Shared}
theorem sub_rit : isSubtype (.type "range_iterator") (.type "reversed") = pure false := by rw [isSubtype_type]; kernel_rfl
def ritObj (a n c : Int) : Obj := { cls := .type "range_iterator", data := .fields #[rawInt a, rawInt n, rawInt c] }
theorem rv_range {r : Addr} {n : Int} {t1 t2 t3 : Tok} {Q : Value → Shared → Prop} (h : IsRange s.heap r 0 n 1 t1 t2 t3) (h0 : 0 ≤ n) (h1 : n < 2 ^ 62)
    (q : Q (.ref s.heap.objs.size) { s with heap := s.heap.push (ritObj (n - 1) n (-1)) }) : wpAny (model prog w) A (call (.builtin "range.__reversed__") [.ref r]) Q E s := by
  refine wpAny_call_entry PySem.F.slot_range_reversed ⟨_, h, rfl⟩ PySem.F.entry_range_reversed ?_ (PySem.F.args_range_reversed_1 _)
  unfold Builtin.«range.__reversed__» Builtin.Range.rangeFields
  refine wpAny_bind (wpAny_of_eq (a := Value.ref r) rfl ?_)
  have z : Builtin.Range.rangeSize 0 n 1 = n := by
    rw [rangeSize_one]
    split <;> omega
  have f : (Builtin.Range.rangeFitsLong 0 && Builtin.Range.rangeFitsLong n && Builtin.Range.rangeFitsLong 1 && Builtin.Range.rangeFitsLong (-1) && Builtin.Range.rangeFitsLong (0 - 1) && Builtin.Range.rangeFitsLong n) = true := by
    simp only [Builtin.Range.rangeFitsLong, Bool.and_eq_true, decide_eq_true_eq]
    omega
  wp_walk
  rw [z, f]
  have e : (0 : Int) + (n - 1) * 1 = n - 1 := by omega
  rw [e]
  wp_walk
  exact ⟨_, rfl, q⟩
theorem rv_new {r : Addr} {n : Int} {t1 t2 t3 : Tok} {Q : Value → Shared → Prop} (h : IsRange s.heap r 0 n 1 t1 t2 t3) (h0 : 0 ≤ n) (h1 : n < 2 ^ 62)
    (q : Q (.ref s.heap.objs.size) { s with heap := s.heap.push (ritObj (n - 1) n (-1)) }) : codeAny (model prog w) A (.call (.builtin "reversed.__new__") ⟨[.type "reversed", .ref r], []⟩) (wants Q E) s := by
  refine codeAny_of_tree (show wpAny _ A.in1 (do checkBuiltinCall "reversed.__new__" ⟨[.type "reversed", .ref r], []⟩; again (.builtin "reversed.__new__" ⟨[.type "reversed", .ref r], []⟩)) _ _ s from ?_)
  refine wpAny_bind (wpAny_of_eq (PySem.F.newCall_reversed_1 _) (wpAny_pure ⟨plainId_quiet PySem.F.plain_reversed_new _, codeAny_builtin PySem.F.entry_reversed_new ?_⟩))
  rw [Around.under_plainId PySem.F.plain_reversed_new _]
  unfold Builtin.«reversed.__new__»
  refine wpAny_bind (wpAny_of_eq (newClass_reversed _) ?_)
  try dsimp only
  refine wpAny_bind (wpAny_of_eq (a := ()) (by first | rfl | kernel_rfl) (wpAny_bind (wpAny_of_eq (a := ()) (by first | rfl | kernel_rfl) ?_)))
  try dsimp only
  refine wpAny_bind (wpAny_specialOf (show s.TypeIs (.ref r) "range" from ⟨_, h, rfl⟩) PySem.F.slot_range_reversed.lookup ?_)
  try dsimp only
  refine wpAny_bind (wpAny_of_eq (PySem.F.slot_range_reversed.bind _) ?_)
  try dsimp only
  have no : ¬ ((Value.builtin "range.__reversed__" == Value.none) = true) := Bool.false_ne_true
  first
  | rw [if_neg no]
  | (show wpAny _ _ (if (Value.builtin "range.__reversed__" == Value.none) = true then _ else _) _ _ _; rw [if_neg no])
  refine wpAny_bind (wpAny_rule ?_)
  refine wpAny_bind (m := runValue (.call (.builtin "range.__reversed__") ⟨[.ref r], []⟩)) (show wpAny _ _ (call (.builtin "range.__reversed__") [.ref r]) _ _ _ from rv_range h h0 h1 ?_)
  first
  | exact wpAny_pure q
  | exact wpAny_bind (wpAny_pure (wpAny_pure q))
theorem rv_call {r : Addr} {n : Int} {t1 t2 t3 : Tok} {Q : Value → Shared → Prop} (h : IsRange s.heap r 0 n 1 t1 t2 t3) (h0 : 0 ≤ n) (h1 : n < 2 ^ 62)
    (q : Q (.ref s.heap.objs.size) { s with heap := s.heap.push (ritObj (n - 1) n (-1)) }) : wpAny (model prog w) A (call (.type "reversed") [.ref r]) Q E s := by
  refine callType_other (U := "range_iterator") (Q₁ := fun x s' => x = .ref s.heap.objs.size ∧ s' = { s with heap := s.heap.push (ritObj (n - 1) n (-1)) }) (by decide +kernel) PySem.F.create_reversed ⟨_, _, PySem.F.mro_reversed⟩ PySem.F.made_reversed sub_rit (PySem.F.typeCall_reversed_1 _) (rv_new h h0 h1 ⟨rfl, rfl⟩) ?_
  rintro x s' ⟨rfl, rfl⟩
  exact ⟨⟨_, Heap.get?_push_size _ rfl, rfl⟩, q⟩
end
def iRvR (ta : TA) : TI := fun σ H R => ta σ H fun vs H1 => ∃ n : Int, vs = [.int n] ∧ 0 ≤ n ∧ n < 2 ^ 62 ∧ R (Itc (n - 1) (-1) n.toNat) H1
theorem pi_rvrange {X : Cx} {tg e : Expr} {ta : TA} {p p' pos pos' : Pos} (hg : Gl X "reversed") (hm : X.mg "reversed" = none) (hg' : Gl X "range") (hm' : X.mg "range" = none) (ha : PA X [e] ta)
    (hs : starEach [e] X.env = [(false, eval e X.env)] := by rfl) (hs' : starEach [Expr.Call (.Name "range" p') [e] [] pos'] X.env = [(false, eval (.Call (.Name "range" p') [e] [] pos') X.env)] := by rfl) :
    PI X tg (.Call (.Name "reversed" p) [.Call (.Name "range" p') [e] [] pos'] [] pos) (iRvR ta) := by
  intro pins s σ H R I h
  refine Call_ (ld_blt I hg hm boot_reversed5 (PyProof.Rows.callWith_type1 ?_ hs' rfl))
  rw [hs']
  refine Calls.spliced_cons (Call_ (ld_blt I hg' hm' boot_range (PyProof.Rows.callWith_type1 (thn (ha pos' pins s σ H _ I h) fun us s1 ⟨vs, H1, I1, r1, q1⟩ => ?_) hs rfl)))
  obtain ⟨n, e, h0, h1, q⟩ := q1
  subst e
  cases r1 with
  | cons r rr =>
    cases rr
    obtain ⟨t, rfl⟩ := r
    refine call_range_1 (Calls.spliced_nil ?_)
    have I2 := I1.kept (h' := s1.heap.push { cls := .type "range", data := .fields #[.int 0 s1.toks, .int n t, .int 1 (s1.toks + 1)] }) (t' := s1.toks + 1 + 1) fun b u e => Heap.get?_push_of_some _ e
    refine rv_call (s := { s1 with heap := s1.heap.push { cls := .type "range", data := .fields #[.int 0 s1.toks, .int n t, .int 1 (s1.toks + 1)] }, toks := s1.toks + 1 + 1 }) (IsRange.new ..) h0 h1 ?_
    have st : IsRangeIter ((s1.heap.push { cls := .type "range", data := .fields #[.int 0 s1.toks, .int n t, .int 1 (s1.toks + 1)] }).push (ritObj (n - 1) n (-1))) (s1.heap.push { cls := .type "range", data := .fields #[.int 0 s1.toks, .int n t, .int 1 (s1.toks + 1)] }).objs.size (n - 1 + ((0 : Nat) : Int) * -1) ((n.toNat : Int) - ((0 : Nat) : Int)) (-1) := by
      have e1 : n - 1 + ((0 : Nat) : Int) * -1 = n - 1 := by omega
      have e2 : (n.toNat : Int) - ((0 : Nat) : Int) = n := by omega
      rw [e1, e2]
      exact Heap.get?_push_size _ rfl
    refine wpAny_pyIter_rangeiter st ?_
    exact pi_one (tk := s1.toks + 1 + 1) I2 _ (turn_rangeC _ (n - 1) (-1) n.toNat) st q
def qRvR (vs : List V) (H1 : Hp) (R : It → Hp → Prop) : Prop := ∃ n : Int, vs = [.int n] ∧ 0 ≤ n ∧ n < 2 ^ 62 ∧ R (Itc (n - 1) (-1) n.toNat) H1
def qRng2 (vs : List V) (H1 : Hp) (R : It → Hp → Prop) : Prop := ∃ i j : Int, vs = [.int i, .int j] ∧ (-(2 ^ 62) ≤ i ∧ i < 2 ^ 62 ∧ -(2 ^ 62) ≤ j ∧ j < 2 ^ 62) ∧ R (Itr i (j - i).toNat) H1
def qEnum (K : PySem.W.Frag) (vs : List V) (H1 : Hp) (R : It → Hp → Prop) : Prop := ∃ a xs, vs = [.ref a] ∧ SqL K H1 a xs ∧ R (Ite K a) H1
section
variable {σ : St} {H : Hp} {Q : VK} {nx : St → Hp → Prop} {rt : VK} {bk ct : St → Hp → Prop} {tb : TS} {g : TG} {tA : TA} {R : It → Hp → Prop} {K : PySem.W.Frag} {a p : Addr} {n i j : Int} {m : Nat} {ns : List Int} {xs : List V}
theorem go_rvr (h : tA σ H fun vs H1 => qRvR vs H1 R) : iRvR tA σ H R := h
theorem go_qrvr (h0 : 0 ≤ n) (h1 : n < 2 ^ 62) (h : R (Itc (n - 1) (-1) n.toNat) H) : qRvR [.int n] H R := ⟨n, rfl, h0, h1, h⟩
theorem go_rng2 (h : tA σ H fun vs H1 => qRng2 vs H1 R) : iRng2 tA σ H R := h
theorem go_qrng2 (h1 : -(2 ^ 62) ≤ i) (h2 : i < 2 ^ 62) (h3 : -(2 ^ 62) ≤ j) (h4 : j < 2 ^ 62) (h : R (Itr i (j - i).toNat) H) : qRng2 [.int i, .int j] H R := ⟨i, j, rfl, ⟨h1, h2, h3, h4⟩, h⟩
theorem go_enum (h : tA σ H fun vs H1 => qEnum K vs H1 R) : iEnum K tA σ H R := h
theorem go_qenum (h : H p = some (.lst xs)) (q : R (Ite K p) H) : qEnum K [.ref p] H R := ⟨p, xs, rfl, SqL.of h, q⟩
theorem go_sumL (h : H p = some (.lst (ns.map V.int))) (q : Q (.int ns.sum) H) : rSum K [.ref p] H Q := ⟨p, ns, rfl, SqL.of h, q⟩
theorem fq_rvr {lo c : Int} (Pv : Nat → St → Hp → Prop) (h0 : Pv 0 σ H) (hs : ∀ (i : Nat) (σ : St) (H : Hp), i < m → Pv i σ H → g (.int (lo + (i : Nat) * c)) σ H fun σ2 H2 => tb ⟨Pv (i + 1), rt, nx, Pv (i + 1)⟩ σ2 H2) (hd : ∀ σ H, Pv m σ H → nx σ H) :
    forQ (Itc lo c m) g tb ⟨nx, rt, bk, ct⟩ σ H := for_rangeC (D := ⟨nx, rt, bk, ct⟩) Pv h0 hs hd
end
def qCh (r' : R2) (tc : TE) (y : V) (σ : St) (Q : VK) (z : V) (H3 : Hp) : Prop := ∃ k, z = .bl k ∧ (if k = true then tc σ H3 fun w' H4 => r' y w' H4 Q else Q (.bl false) H3)
theorem pe_gint {X : Cx} {x : Str} {n : Int} {pos : Pos} (hg : Gl X x) (h : ∃ t, X.mg x = some (.int n t)) (hd : (x == ("__debug__" : Str)) = false := by decide) : PE X (.Name x pos) (tC (.int n)) := by
  obtain ⟨t, h⟩ := h
  exact pe_glob hg h ⟨t, rfl⟩ hd
section
variable {X : Cx} (K : PySem.W.Frag)
theorem kSum (hc : X.calm = true) (e : X.K = K := by rfl) : CallR X (.builtin "sum") (rSum K) := e ▸ cr_sum hc
theorem kMinP (hc : X.calm = true) (hu : X.A.units + 64 < cLine) (e : X.K = K := by rfl) : CallR X (.builtin "min") (rMinP K) := e ▸ cr_minP hc hu
theorem kSorted (e : X.K = K := by rfl) : CallR X (.builtin "sorted") (rSorted K) := e ▸ cr_sorted
end
section
variable {σ : St} {H : Hp} {Q : VK} {nx : St → Hp → Prop} {rt : VK} {bk ct : St → Hp → Prop} {ta tb tc : TE} {r r' : R2} {K : PySem.W.Frag} {p : Addr} {xs : List V} {n : Int} {b : Bool} {y v v' : V} {ns : List Int} {lo hi : Option Int} {kvs kvs' : List (Key × V)} {QH : Hp → Prop}
theorem go_chain (h : ta σ H fun x H1 => tb σ H1 fun y H2 => r x y H2 fun z H3 => qCh r' tc y σ Q z H3) : tChain r r' ta tb tc σ H Q := h
theorem go_qch (h : if b = true then tc σ H fun w H4 => r' y w H4 Q else Q (.bl false) H) : qCh r' tc y σ Q (.bl b) H := ⟨b, rfl, h⟩
theorem go_slL (h : H p = some (.lst xs)) (q : ∀ a, H a = none → Q (.ref a) (upd H a (.lst (cutV xs lo hi)))) : rSlL K (.ref p) lo hi H Q := ⟨p, xs, rfl, SqL.of h, q⟩
theorem go_sorted (h : H p = some (.lst (ns.map V.int))) (l : ns.length < 64) (q : ∀ (ns' : List Int) (a : Addr), ns'.Perm ns → ns'.Pairwise (· ≤ ·) → H a = none → Q (.ref a) (upd H a (.lst (ns'.map V.int)))) : rSorted K [.ref p] H Q := ⟨p, ns, rfl, SqL.of h, l, q⟩
theorem go_dnew (q : ∀ a, H a = none → Q (.ref a) (upd H a (.dK []))) : tDNewK σ H Q := q
theorem go_qdgI (h : H p = some (.dK kvs)) (e : valV kvs (.inl n) = some v) (q : Q v H) : qDG (.ref p) (.int n) H Q := ⟨p, v, rfl, by rw [← e]; exact DGet.k (k := Sum.inl n) h, q⟩
theorem go_qdpI (h : H p = some (.dK kvs)) (l : kvs.length < sizeLine) (q : QH (upd H p (.dK (putK kvs (.inl n) v)))) : qDP (.ref p) (.int n) v H QH := ⟨p, _, rfl, DPut.k (k := Sum.inl n) h l, q⟩
theorem go_aug {i : Nat} {x : V} {te : TE} {ti : TIp} (e : σ[i]? = some (some x)) (h : te σ H fun y H1 => ti x y H1 fun z H2 => nx (σ.set i (some z)) H2) : tAug i te ti ⟨nx, rt, bk, ct⟩ σ H := ⟨x, e, h⟩
theorem go_ipI {f : Int → Int → Int} {m : Int} (h : Q (.int (f n m)) H) : ipI f (.int n) (.int m) H Q := ⟨n, m, rfl, rfl, h⟩
theorem fq_enum {g : TG} {tb : TS} (xs : List V) (Pv : Nat → St → Hp → Prop) (h0 : Pv 0 σ H) (hl : ∀ (i : Nat) (σ : St) (H : Hp), i ≤ xs.length → Pv i σ H → SqL K H p xs)
    (hs : ∀ (i : Nat) (x : V) (σ : St) (H : Hp) (t : Addr), xs[i]? = some x → H t = none → Pv i σ H → g (.ref t) σ (upd H t (.tup [.int (i : Nat), x])) fun σ2 H2 => tb ⟨Pv (i + 1), rt, nx, Pv (i + 1)⟩ σ2 H2) (hd : ∀ σ H, Pv xs.length σ H → nx σ H) :
    forQ (Ite K p) g tb ⟨nx, rt, bk, ct⟩ σ H := by
  refine ⟨fun i m σ H => m = xs.length - i ∧ i ≤ xs.length ∧ Pv i σ H, ⟨_, rfl, Nat.zero_le _, h0⟩, ?_⟩
  rintro i m σ H ⟨rfl, hi, q⟩
  have sq := hl i σ H hi q
  by_cases lt : i < xs.length
  · refine .inr ⟨⟨xs, xs[i], sq, List.getElem?_eq_getElem lt⟩, Pv (i + 1), fun σ' H' q' => ⟨xs.length - (i + 1), by omega, rfl, lt, q'⟩, fun x H' y => ?_⟩
    obtain ⟨t, x', rfl, ht, rfl, hx⟩ := y
    exact hs i x' σ H t (hx xs sq) ht q
  · have e : i = xs.length := by omega
    subst e
    exact .inl ⟨⟨xs, sq, Nat.le_refl _⟩, hd σ H q⟩
end
end L2
set_option Elab.async false
set_option linter.all false
set_option maxRecDepth 100000
namespace Lw
open PySem L2
inductive Op3 where | sum | diff | less
  deriving DecidableEq
def Op3.str : Op3 → Str
  | .sum => "sum" | .diff => "diff" | .less => "less"
inductive Part where
  | num (n : Int) | name (k : Int) | op (o : Op3) (a b : Part)
def Part.ok (nm : Int) : Nat → Part → Prop
  | 0, _ => False
  | _ + 1, .num n => 0 ≤ n ∧ n ≤ 10006
  | _ + 1, .name k => 0 ≤ k ∧ k < nm
  | d + 1, .op _ a b => a.ok nm d ∧ b.ok nm d
inductive Row where
  | set (n : Int) (p : Part) | take (n : Int) | get (n f : Int) (p : Part) | size (n f : Int)
  | add (f : Int) (p : Part) | put (f : Int) (p q : Part) | cut (f : Int) (p : Part) | send (p : Part)
  | go (r : Int) | unl (n r : Int) | mark
def Row.ok (nm fl many : Int) : Row → Prop
  | .set n p => 0 ≤ n ∧ n < nm ∧ p.ok nm 3
  | .take n => 0 ≤ n ∧ n < nm
  | .get n f p => 0 ≤ n ∧ n < nm ∧ 0 ≤ f ∧ f < fl ∧ p.ok nm 3
  | .size n f => 0 ≤ n ∧ n < nm ∧ 0 ≤ f ∧ f < fl
  | .add f p => 0 ≤ f ∧ f < fl ∧ p.ok nm 3
  | .put f p q => 0 ≤ f ∧ f < fl ∧ p.ok nm 3 ∧ q.ok nm 3
  | .cut f p => 0 ≤ f ∧ f < fl ∧ p.ok nm 3
  | .send p => p.ok nm 3
  | .go r => 0 ≤ r ∧ r ≤ many
  | .unl n r => 0 ≤ n ∧ n < nm ∧ 0 ≤ r ∧ r ≤ many
  | .mark => True
def Imm : HO → Prop
  | .tup _ => True
  | .frz _ _ => True
  | _ => False
def TK (H H' : Hp) : Prop := ∀ a o, Imm o → H a = some o → H' a = some o
theorem TK.refl (H : Hp) : TK H H := fun _ _ _ h => h
theorem TK.trans {H H1 H2 : Hp} (a : TK H H1) (b : TK H1 H2) : TK H H2 := fun c o m h => b c o m (a c o m h)
theorem TK.get {H H' : Hp} {a : Addr} {xs : List V} (s : TK H H') (h : H a = some (.tup xs)) : H' a = some (.tup xs) := s a _ True.intro h
theorem _root_.L2.Same.tk {H H' : Hp} (s : Same H H') : TK H H' := fun a o _ h => s a o h
theorem TK.new {H : Hp} {p : Addr} {o : HO} (h : H p = none) : TK H (upd H p o) := (same_new h o).tk
theorem _root_.L2.Off.tkm {d : Addr} {H H' : Hp} {u : HO} (s : Off d H H') (h : H d = some u) (n : ¬ Imm u) : TK H H' := fun a o m q => s a o q (ne_of q h (by intro z; subst z; exact n m))
theorem _root_.L2.Off.tk {d : Addr} {H H' : Hp} {ys : List V} (s : Off d H H') (h : H d = some (.lst ys)) : TK H H' := s.tkm h (fun z => z)
theorem TK.updL {H : Hp} {p : Addr} {o : HO} {ys : List V} (h : H p = some (.lst ys)) : TK H (upd H p o) := (off_upd H p o).tk h
def Scr (K : PySem.W.Frag) (H : Hp) (a : Addr) (ns : List Int) : Prop := (∃ o, H a = some (.frz o (.lst (ns.map V.int)))) ∨ SqL K (fun _ => none) a (ns.map V.int)
theorem Scr.mono {K : PySem.W.Frag} {H H' : Hp} {a : Addr} {ns : List Int} (t : TK H H') : Scr K H a ns → Scr K H' a ns
  | .inl ⟨o, h⟩ => .inl ⟨o, t a _ True.intro h⟩
  | .inr h => .inr h
theorem Scr.sq {K : PySem.W.Frag} {H : Hp} {a : Addr} {ns : List Int} : Scr K H a ns → SqL K H a (ns.map V.int)
  | .inl ⟨o, h⟩ => .inl (.inr ⟨o, h⟩)
  | .inr h => by
    rcases h with (h | ⟨o, h⟩) | h
    · cases h
    · cases h
    · exact .inr h
theorem Scr.of {K : PySem.W.Frag} {H : Hp} {a : Addr} {ns : List Int} (O : Only H) (h : SqL K H a (ns.map V.int)) : Scr K H a ns := by
  rcases h with (h | ⟨o, h⟩) | h
  · rcases O a with z | ⟨o, xs, z⟩
    · rw [h] at z; cases z
    · rw [h] at z; cases z
  · exact .inl ⟨o, h⟩
  · exact .inr (.inr h)
def PartAt (H : Hp) : Part → V → Prop
  | .num n, v => ∃ a, v = .ref a ∧ H a = some (.tup [.str "num", .int n])
  | .name k, v => ∃ a, v = .ref a ∧ H a = some (.tup [.str "name", .int k])
  | .op o x y, v => ∃ a u w, v = .ref a ∧ H a = some (.tup [.str o.str, u, w]) ∧ PartAt H x u ∧ PartAt H y w
def RowXs (H : Hp) : Row → List V → Prop
  | .set n p, xs => ∃ v, xs = [.str "set", .int n, v] ∧ PartAt H p v
  | .take n, xs => xs = [.str "take", .int n]
  | .get n f p, xs => ∃ v, xs = [.str "get", .int n, .int f, v] ∧ PartAt H p v
  | .size n f, xs => xs = [.str "size", .int n, .int f]
  | .add f p, xs => ∃ v, xs = [.str "add", .int f, v] ∧ PartAt H p v
  | .put f p q, xs => ∃ v u, xs = [.str "put", .int f, v, u] ∧ PartAt H p v ∧ PartAt H q u
  | .cut f p, xs => ∃ v, xs = [.str "cut", .int f, v] ∧ PartAt H p v
  | .send p, xs => ∃ v, xs = [.str "send", v] ∧ PartAt H p v
  | .go r, xs => xs = [.str "go", .int r]
  | .unl n r, xs => xs = [.str "unless", .int n, .int r]
  | .mark, xs => xs = [.str "mark"]
def RowAt (H : Hp) (r : Row) (v : V) : Prop := ∃ a xs, v = .ref a ∧ H a = some (.tup xs) ∧ RowXs H r xs
theorem PartAt.mono {H H' : Hp} (t : TK H H') : ∀ {p : Part} {v : V}, PartAt H p v → PartAt H' p v
  | .num _, _, ⟨a, e, h⟩ => ⟨a, e, t.get h⟩
  | .name _, _, ⟨a, e, h⟩ => ⟨a, e, t.get h⟩
  | .op .., _, ⟨a, u, w, e, h, h1, h2⟩ => ⟨a, u, w, e, t.get h, PartAt.mono t h1, PartAt.mono t h2⟩
theorem RowXs.mono {H H' : Hp} (t : TK H H') : ∀ {r : Row} {xs : List V}, RowXs H r xs → RowXs H' r xs
  | .set .., _, ⟨v, e, h⟩ => ⟨v, e, h.mono t⟩
  | .take _, _, h => h
  | .get .., _, ⟨v, e, h⟩ => ⟨v, e, h.mono t⟩
  | .size .., _, h => h
  | .add .., _, ⟨v, e, h⟩ => ⟨v, e, h.mono t⟩
  | .put .., _, ⟨v, u, e, h, h'⟩ => ⟨v, u, e, h.mono t, h'.mono t⟩
  | .cut .., _, ⟨v, e, h⟩ => ⟨v, e, h.mono t⟩
  | .send _, _, ⟨v, e, h⟩ => ⟨v, e, h.mono t⟩
  | .go _, _, h => h
  | .unl .., _, h => h
  | .mark, _, h => h
theorem RowAt.mono {H H' : Hp} (t : TK H H') {r : Row} {v : V} : RowAt H r v → RowAt H' r v := fun ⟨a, xs, e, h, q⟩ => ⟨a, xs, e, t.get h, q.mono t⟩
inductive RowsAt (H : Hp) : List Row → List V → Prop
  | nil : RowsAt H [] []
  | cons {r : Row} {v : V} {rs : List Row} {vs : List V} : RowAt H r v → RowsAt H rs vs → RowsAt H (r :: rs) (v :: vs)
theorem RowsAt.length {H : Hp} {rs : List Row} {vs : List V} (h : RowsAt H rs vs) : rs.length = vs.length := by
  induction h with
  | nil => rfl
  | cons _ _ ih => simp [ih]
theorem RowsAt.mono {H H' : Hp} (t : TK H H') {rs : List Row} {vs : List V} (h : RowsAt H rs vs) : RowsAt H' rs vs := by
  induction h with
  | nil => exact .nil
  | cons h _ ih => exact .cons (h.mono t) ih
theorem RowsAt.snoc {H : Hp} {rs : List Row} {vs : List V} {r : Row} {v : V} (h : RowsAt H rs vs) (q : RowAt H r v) : RowsAt H (rs ++ [r]) (vs ++ [v]) := by
  induction h with
  | nil => exact .cons q .nil
  | cons h _ ih => exact .cons h ih
theorem RowsAt.get {H : Hp} {rs : List Row} {vs : List V} (h : RowsAt H rs vs) : ∀ {i : Nat} {r : Row}, rs[i]? = some r → ∃ v, vs[i]? = some v ∧ RowAt H r v := by
  induction h with
  | nil => intro i r e; simp at e
  | cons h _ ih =>
    intro i r e
    cases i with
    | zero => simp at e; subst e; exact ⟨_, rfl, h⟩
    | succ i => simpa using ih (by simpa using e)
theorem RowsAt.set {H : Hp} {rs : List Row} {vs : List V} (h : RowsAt H rs vs) : ∀ {i : Nat} {r : Row} {v : V}, RowAt H r v → RowsAt H (rs.set i r) (vs.set i v) := by
  induction h with
  | nil => intro i r v _; exact .nil
  | cons h t ih =>
    intro i r v q
    cases i with
    | zero => exact .cons q t
    | succ i => exact .cons h (ih q)
structure Prog where
  nm : Int
  fl : Int
  rows : List Row
structure Prog.Ok (p : Prog) : Prop where
  n1 : 1 ≤ p.nm
  n2 : p.nm ≤ 8
  f1 : 1 ≤ p.fl
  f2 : p.fl ≤ 4
  ln : p.rows.length ≤ 60
  rw : ∀ r ∈ p.rows, r.ok p.nm p.fl p.rows.length
def ProgAt (H : Hp) (p : Prog) (v : V) : Prop := ∃ a b vs, v = .ref a ∧ H a = some (.tup [.int p.nm, .int p.fl, .ref b]) ∧ H b = some (.tup vs) ∧ RowsAt H p.rows vs
theorem ProgAt.mono {H H' : Hp} (t : TK H H') {p : Prog} {v : V} : ProgAt H p v → ProgAt H' p v := fun ⟨a, b, vs, e, h, h', q⟩ => ⟨a, b, vs, e, t.get h, t.get h', q.mono t⟩
theorem at_two {x y : V} {r : Int} (h0 : 0 ≤ r) (h1 : r < 2) : ∃ z, atI [x, y] r = some z ∧ (z = x ∨ z = y) := by
  have : r = 0 ∨ r = 1 := by omega
  rcases this with rfl | rfl
  · exact ⟨x, rfl, .inl rfl⟩
  · exact ⟨y, rfl, .inr rfl⟩
theorem mem_set {α : Type} {P : α → Prop} {xs : List α} {i : Nat} {y : α} (h : ∀ x ∈ xs, P x) (hy : P y) : ∀ x ∈ xs.set i y, P x := fun x hx => by
  rcases List.mem_or_eq_of_mem_set hx with z | z
  · exact h x z
  · subst z; exact hy
theorem mem_snoc {α : Type} {P : α → Prop} {xs : List α} {y : α} (h : ∀ x ∈ xs, P x) (hy : P y) : ∀ x ∈ xs ++ [y], P x := fun x hx => by
  rcases List.mem_append.mp hx with z | z
  · exact h x z
  · rw [List.mem_singleton.mp z]; exact hy
theorem RowsAt.take_succ {H : Hp} {rs : List Row} {vs : List V} (h : RowsAt H rs vs) {i : Nat} {v : V} (e : vs[i]? = some v) : ∃ r, rs[i]? = some r ∧ RowAt H r v := by
  have hl := h.length
  have hi : i < rs.length := by
    have := (List.getElem?_eq_some_iff.mp e).1
    omega
  obtain ⟨v', e', q⟩ := h.get (List.getElem?_eq_getElem hi)
  rw [e] at e'
  cases e'
  exact ⟨_, List.getElem?_eq_getElem hi, q⟩
theorem take_snoc {α : Type} {xs : List α} {i : Nat} {x : α} (e : xs[i]? = some x) : xs.take (i + 1) = xs.take i ++ [x] := by
  rw [List.take_succ, e]; rfl
theorem small_line {n : Nat} (h : n ≤ 100000) : n < sizeLine := Nat.lt_of_le_of_lt h (by decide)
theorem small_le {n : Nat} (h : n ≤ 100000) : n ≤ sizeLine := Nat.le_of_lt (small_line h)
end Lw
set_option Elab.async false
set_option linter.all false
set_option maxRecDepth 100000
namespace Lw
open PySem L2
def Part.val (ns : List Int) : Part → Int
  | .num n => n
  | .name k => ns.getD k.toNat 0
  | .op .sum a b => (a.val ns + b.val ns) % 10007
  | .op .diff a b => (a.val ns - b.val ns) % 10007
  | .op .less a b => if a.val ns < b.val ns then 1 else 0
structure S where
  row : Int
  names : List Int
  taken : Nat
  done : Nat
  files : List (List Int)
  sent : List Int
inductive Out where
  | fault (w : Str)
  | next (s : S)
def S.hold (s : S) (n x : Int) : S := { s with row := s.row + 1, done := s.done + 1, names := s.names.set n.toNat x }
def S.file (s : S) (f : Int) : List Int := s.files.getD f.toNat []
def S.fill (s : S) (f : Int) (xs : List Int) : S := { s with row := s.row + 1, done := s.done + 1, files := s.files.set f.toNat xs }
def stepM (hs : List Int) (s : S) : Row → Out
  | .set n p => .next (s.hold n (p.val s.names))
  | .take n => if s.taken = hs.length then .fault "none" else .next { s.hold n (hs.getD s.taken 0) with taken := s.taken + 1 }
  | .get n f p => if ((s.file f).length : Int) ≤ p.val s.names then .fault "place" else .next (s.hold n ((s.file f).getD (p.val s.names).toNat 0))
  | .size n f => .next (s.hold n ((s.file f).length : Int))
  | .add f p => if (s.file f).length = 40 then .fault "full" else .next (s.fill f (s.file f ++ [p.val s.names]))
  | .put f p q => if ((s.file f).length : Int) ≤ p.val s.names then .fault "place" else .next (s.fill f ((s.file f).set (p.val s.names).toNat (q.val s.names)))
  | .cut f p => .next (s.fill f ((s.file f).take (p.val s.names).toNat))
  | .send p => .next { s with row := s.row + 1, done := s.done + 1, sent := s.sent ++ [p.val s.names] }
  | .go r => .next { s with row := r, done := s.done + 1 }
  | .unl n r => .next { s with row := if s.names.getD n.toNat 0 = 0 then r else s.row + 1, done := s.done + 1 }
  | .mark => .next { s with row := s.row + 1, done := s.done + 1 }
def Num (xs : List Int) : Prop := ∀ x ∈ xs, 0 ≤ x ∧ x ≤ 10006
theorem Num.getD {xs : List Int} (h : Num xs) (i : Nat) : 0 ≤ xs.getD i 0 ∧ xs.getD i 0 ≤ 10006 := by
  rw [List.getD_eq_getElem?_getD]
  cases e : xs[i]? with
  | none => exact ⟨by decide, by decide⟩
  | some x => exact h x (List.mem_of_getElem? e)
theorem Part.val_num {ns : List Int} (h : Num ns) {nm : Int} : ∀ {p : Part} {d : Nat}, p.ok nm d → 0 ≤ p.val ns ∧ p.val ns ≤ 10006
  | _, 0, k => k.elim
  | .num _, _ + 1, k => k
  | .name k, _ + 1, _ => h.getD k.toNat
  | .op .sum a b, _ + 1, _ => by show 0 ≤ (_ : Int) % 10007 ∧ (_ : Int) % 10007 ≤ 10006; omega
  | .op .diff a b, _ + 1, _ => by show 0 ≤ (_ : Int) % 10007 ∧ (_ : Int) % 10007 ≤ 10006; omega
  | .op .less a b, _ + 1, _ => by show 0 ≤ (if _ then (1 : Int) else 0) ∧ (if _ then (1 : Int) else 0) ≤ 10006; split <;> omega
theorem Num.set {xs : List Int} (h : Num xs) {i : Nat} {x : Int} (hx : 0 ≤ x ∧ x ≤ 10006) : Num (xs.set i x) := mem_set (P := fun x => 0 ≤ x ∧ x ≤ 10006) h hx
theorem Num.snoc {xs : List Int} (h : Num xs) {x : Int} (hx : 0 ≤ x ∧ x ≤ 10006) : Num (xs ++ [x]) := mem_snoc (P := fun x => 0 ≤ x ∧ x ≤ 10006) h hx
theorem Num.take {xs : List Int} (h : Num xs) (i : Nat) : Num (xs.take i) := fun x hx => h x (List.mem_of_mem_take hx)
structure Good (p : Prog) (hs : List Int) (s : S) : Prop where
  r0 : 0 ≤ s.row
  r1 : s.row ≤ p.rows.length
  nl : s.names.length = p.nm.toNat
  nn : Num s.names
  tk : s.taken ≤ hs.length
  fl : s.files.length = p.fl.toNat
  ff : ∀ f ∈ s.files, f.length ≤ 40 ∧ Num f
  st : s.sent.length ≤ s.done
  dn : s.done ≤ 1000
theorem Good.file {p : Prog} {hs : List Int} {s : S} (g : Good p hs s) (f : Int) : (s.file f).length ≤ 40 ∧ Num (s.file f) := by
  unfold S.file
  rw [List.getD_eq_getElem?_getD]
  cases e : s.files[f.toNat]? with
  | none => exact ⟨by decide, fun x hx => by cases hx⟩
  | some x => exact g.ff x (List.mem_of_getElem? e)
theorem Good.hold {p : Prog} {hs : List Int} {s : S} (g : Good p hs s) {n x : Int} (hx : 0 ≤ x ∧ x ≤ 10006) (hr : s.row < p.rows.length) (hd : s.done < 1000) : Good p hs (s.hold n x) :=
  ⟨by have := g.r0; show 0 ≤ s.row + 1; omega, by show s.row + 1 ≤ _; omega, by show (s.names.set _ _).length = _; rw [List.length_set]; exact g.nl, g.nn.set hx, g.tk, g.fl, g.ff, by have := g.st; show s.sent.length ≤ s.done + 1; omega, hd⟩
theorem Good.fill {p : Prog} {hs : List Int} {s : S} (g : Good p hs s) {f : Int} {xs : List Int} (hx : xs.length ≤ 40 ∧ Num xs) (hr : s.row < p.rows.length) (hd : s.done < 1000) : Good p hs (s.fill f xs) :=
  ⟨by have := g.r0; show 0 ≤ s.row + 1; omega, by show s.row + 1 ≤ _; omega, g.nl, g.nn, g.tk, by show (s.files.set _ _).length = _; rw [List.length_set]; exact g.fl, mem_set (P := fun (f : List Int) => f.length ≤ 40 ∧ Num f) g.ff hx, by have := g.st; show s.sent.length ≤ s.done + 1; omega, hd⟩
theorem Good.step {p : Prog} {hs : List Int} {s s' : S} {r : Row} (g : Good p hs s) (hh : Num hs) (hr : s.row < p.rows.length) (hd : s.done < 1000) (ok : r.ok p.nm p.fl p.rows.length) (e : stepM hs s r = .next s') : Good p hs s' := by
  have g0 := g.r0; have g1 := g.r1; have g2 := g.st; have g3 := g.tk
  cases r with
  | set n q => cases e; exact g.hold (Part.val_num g.nn ok.2.2) hr hd
  | take n =>
    simp only [stepM] at e
    split at e
    · cases e
    · cases e
      have z := g.hold (n := n) (x := hs.getD s.taken 0) (Num.getD hh s.taken) hr hd
      exact ⟨z.r0, z.r1, z.nl, z.nn, by show s.taken + 1 ≤ _; omega, z.fl, z.ff, z.st, z.dn⟩
  | get n f q =>
    simp only [stepM] at e
    split at e
    · cases e
    · cases e; exact g.hold ((g.file f).2.getD _) hr hd
  | size n f => cases e; exact g.hold (by have := (g.file f).1; omega) hr hd
  | add f q =>
    simp only [stepM] at e
    split at e
    · cases e
    · cases e
      have hf := g.file f
      exact g.fill ⟨by rw [List.length_append]; show _ + 1 ≤ 40; omega, hf.2.snoc (Part.val_num g.nn ok.2.2)⟩ hr hd
  | put f q r =>
    simp only [stepM] at e
    split at e
    · cases e
    · cases e
      have hf := g.file f
      exact g.fill ⟨by rw [List.length_set]; exact hf.1, hf.2.set (Part.val_num g.nn ok.2.2.2)⟩ hr hd
  | cut f q =>
    cases e
    have hf := g.file f
    exact g.fill ⟨by rw [List.length_take]; omega, hf.2.take _⟩ hr hd
  | send q => cases e; exact ⟨by show 0 ≤ s.row + 1; omega, by show s.row + 1 ≤ _; omega, g.nl, g.nn, g.tk, g.fl, g.ff, by show (s.sent ++ [_]).length ≤ s.done + 1; rw [List.length_append]; show _ + 1 ≤ _; omega, hd⟩
  | go r => cases e; exact ⟨ok.1, ok.2, g.nl, g.nn, g.tk, g.fl, g.ff, by show s.sent.length ≤ s.done + 1; omega, hd⟩
  | unl n r =>
    cases e
    have k1 : 0 ≤ r := ok.2.2.1
    have k2 : r ≤ p.rows.length := ok.2.2.2
    have z : 0 ≤ (if s.names.getD n.toNat 0 = 0 then r else s.row + 1) ∧ (if s.names.getD n.toNat 0 = 0 then r else s.row + 1) ≤ p.rows.length := by split <;> omega
    exact ⟨z.1, z.2, g.nl, g.nn, g.tk, g.fl, g.ff, by show s.sent.length ≤ s.done + 1; omega, hd⟩
  | mark => cases e; exact ⟨by show 0 ≤ s.row + 1; omega, by show s.row + 1 ≤ _; omega, g.nl, g.nn, g.tk, g.fl, g.ff, by show s.sent.length ≤ s.done + 1; omega, hd⟩
def s0 (p : Prog) : S := ⟨0, List.replicate p.nm.toNat 0, 0, 0, List.replicate p.fl.toNat [], []⟩
inductive End where
  | done | long | fault (w : Str)
def outM (p : Prog) (hs : List Int) : Nat → S → S × End
  | 0, s => if s.row = p.rows.length then (s, .done) else (s, .long)
  | k + 1, s => if s.row = p.rows.length then (s, .done) else match stepM hs s (p.rows.getD s.row.toNat .mark) with
    | .fault w => (s, .fault w)
    | .next s' => outM p hs k s'
def fin (p : Prog) (hs : List Int) (s : S) : S × End := outM p hs (1000 - s.done) s
end Lw
set_option Elab.async false
set_option linter.all false
set_option maxRecDepth 100000
namespace Lw
open PySem L2
structure Eff where
  row : Int
  taken : Nat
  name : Option (Int × Int)
  file : Option (Int × List Int)
  letter : Option Int
  fault : Option Str
end Lw
set_option Elab.async false
set_option linter.all false
set_option maxRecDepth 100000
namespace Lw
open PySem L2
theorem rep_one {α : Type} (n : Nat) (v : α) : (List.replicate n [v]).flatten = List.replicate n v := by
  induction n with
  | zero => rfl
  | succ n ih => rw [List.replicate_succ, List.flatten_cons, ih, List.replicate_succ]; rfl
theorem go_rep1 {H : Hp} {Q : VK} {p : Addr} {k : Int} {v : V} (h : H p = some (.lst [v])) (h0 : 0 ≤ k) (h1 : k ≤ 1000) (q : ∀ a, H a = none → Q (.ref a) (upd H a (.lst (List.replicate k.toNat v)))) : rRep (.ref p) (.int k) H Q := by
  refine ⟨p, k, [v], rfl, rfl, h, by omega, by omega, small_le (by show 1 * k.toNat ≤ _; omega), fun a ha => ?_⟩
  rw [rep_one]
  exact q a ha
theorem same_upd {H H' : Hp} {p : Addr} {o : HO} (h : H p = none) (s : Same H H') : Same H (upd H' p o) := fun b u q => by rw [upd_ne (ne_of_none q h)]; exact s b u q
theorem _root_.L2.Same.none {H H' : Hp} {p : Addr} (s : Same H H') (h : H' p = Option.none) : H p = Option.none := s.free h
inductive FilesAt (H : Hp) : List V → List (List Int) → Prop
  | nil : FilesAt H [] []
  | cons {a : Addr} {xs : List Int} {vs : List V} {fs : List (List Int)} : H a = some (.lst (xs.map V.int)) → FilesAt H vs fs → FilesAt H (.ref a :: vs) (xs :: fs)
theorem FilesAt.length {H : Hp} {vs : List V} {fs : List (List Int)} (h : FilesAt H vs fs) : vs.length = fs.length := by
  induction h with
  | nil => rfl
  | cons _ _ ih => simp [ih]
theorem FilesAt.get {H : Hp} {vs : List V} {fs : List (List Int)} (h : FilesAt H vs fs) : ∀ {i : Nat}, i < fs.length → ∃ a, vs[i]? = some (.ref a) ∧ H a = some (.lst ((fs.getD i []).map V.int)) := by
  induction h with
  | nil => intro i hi; simp at hi
  | cons h _ ih =>
    intro i hi
    cases i with
    | zero => exact ⟨_, rfl, h⟩
    | succ i => simpa using ih (by simpa using hi)
theorem FilesAt.same {H H' : Hp} {vs : List V} {fs : List (List Int)} (h : FilesAt H vs fs) (s : Same H H') : FilesAt H' vs fs := by
  induction h with
  | nil => exact .nil
  | cons h _ ih => exact .cons (s _ _ h) ih
theorem cut_to {xs : List V} {i : Int} (h : 0 ≤ i) : cutV xs none (some i) = xs.take i.toNat := by
  unfold cutV HT.sIx
  rw [List.drop_zero]
  simp only [if_neg (show ¬ i < 0 by omega), Nat.sub_zero]
  by_cases c : i.toNat ≤ xs.length
  · rw [Nat.min_eq_left c]
  · rw [Nat.min_eq_right (by omega), List.take_of_length_le (Nat.le_refl _), List.take_of_length_le (by omega)]
theorem cut_from {xs : List V} {i : Int} (h : 0 ≤ i) : cutV xs (some i) none = xs.drop i.toNat := by
  unfold cutV HT.sIx
  simp only [if_neg (show ¬ i < 0 by omega)]
  by_cases c : i.toNat ≤ xs.length
  · rw [Nat.min_eq_left c, List.take_of_length_le (by rw [List.length_drop]; omega)]
  · rw [Nat.min_eq_right (by omega), List.drop_eq_nil_of_le (Nat.le_refl _), List.drop_eq_nil_of_le (by omega), List.take_nil]
theorem FilesAt.keep {H H' : Hp} {vs : List V} {fs : List (List Int)} (h : FilesAt H vs fs) : (∀ a xs, V.ref a ∈ vs → H a = some (.lst xs) → H' a = some (.lst xs)) → FilesAt H' vs fs := by
  induction h with
  | nil => intro _; exact .nil
  | cons h _ ih => intro z; exact .cons (z _ _ (List.mem_cons_self ..) h) (ih fun a xs m => z a xs (List.mem_cons_of_mem _ m))
theorem FilesAt.set {H : Hp} {vs : List V} {fs : List (List Int)} (h : FilesAt H vs fs) : ∀ {i : Nat} {a : Addr} {xs : List Int}, H a = some (.lst (xs.map V.int)) → FilesAt H (vs.set i (.ref a)) (fs.set i xs) := by
  induction h with
  | nil => intro i a xs _; exact .nil
  | cons h t ih =>
    intro i a xs q
    cases i with
    | zero => exact .cons q t
    | succ i => exact .cons h (ih q)
theorem FilesAt.snoc {H : Hp} {vs : List V} {fs : List (List Int)} {a : Addr} {xs : List Int} (h : FilesAt H vs fs) (q : H a = some (.lst (xs.map V.int))) : FilesAt H (vs ++ [.ref a]) (fs ++ [xs]) := by
  induction h with
  | nil => exact .cons q .nil
  | cons h _ ih => exact .cons h ih
def EndAt (H : Hp) : End → V → Prop
  | .done, v => ∃ a, v = .ref a ∧ H a = some (.tup [.str "end"])
  | .long, v => ∃ a, v = .ref a ∧ H a = some (.tup [.str "long"])
  | .fault w, v => ∃ a, v = .ref a ∧ H a = some (.tup [.str "fault", .str w])
theorem EndAt.ref {H : Hp} {e : End} {v : V} (h : EndAt H e v) : ∃ a, v = .ref a := by
  cases e with
  | done => exact ⟨h.choose, h.choose_spec.1⟩
  | long => exact ⟨h.choose, h.choose_spec.1⟩
  | fault w => exact ⟨h.choose, h.choose_spec.1⟩
theorem EndAt.mono {H H' : Hp} (t : TK H H') {e : End} {v : V} (h : EndAt H e v) : EndAt H' e v := by
  cases e with
  | done => obtain ⟨a, e, q⟩ := h; exact ⟨a, e, t.get q⟩
  | long => obtain ⟨a, e, q⟩ := h; exact ⟨a, e, t.get q⟩
  | fault w => obtain ⟨a, e, q⟩ := h; exact ⟨a, e, t.get q⟩
end Lw
set_option Elab.async false
set_option linter.all false
set_option maxRecDepth 100000
namespace Lw
open PySem L2
def numL (a c : Nat) : Bool := (List.range c).all fun k => decide ((toString ((a + k : Nat) : Int) : Str).length ≤ 5)
theorem numL_0 : numL 0 250 = true := by decide +kernel
theorem numL_1 : numL 250 250 = true := by decide +kernel
theorem numL_2 : numL 500 250 = true := by decide +kernel
theorem numL_3 : numL 750 250 = true := by decide +kernel
theorem numL_4 : numL 1000 250 = true := by decide +kernel
theorem numL_5 : numL 1250 250 = true := by decide +kernel
theorem numL_6 : numL 1500 250 = true := by decide +kernel
theorem numL_7 : numL 1750 250 = true := by decide +kernel
theorem numL_8 : numL 2000 250 = true := by decide +kernel
theorem numL_9 : numL 2250 250 = true := by decide +kernel
theorem numL_10 : numL 2500 250 = true := by decide +kernel
theorem numL_11 : numL 2750 250 = true := by decide +kernel
theorem numL_12 : numL 3000 1 = true := by decide +kernel
theorem numL_at {a c m : Nat} (h : numL a c = true) (h1 : a ≤ m) (h2 : m < a + c) : (toString (m : Int) : Str).length ≤ 5 := by
  have q := List.all_eq_true.mp h (m - a) (List.mem_range.mpr (by omega))
  have q' := of_decide_eq_true q
  rwa [show a + (m - a) = m by omega] at q'
theorem numL_all {m : Nat} (h : m < 3001) : (toString (m : Int) : Str).length ≤ 5 := by
  rcases Nat.lt_or_ge m 250 with c0 | c0
  · exact numL_at numL_0 (by omega) c0
  rcases Nat.lt_or_ge m 500 with c1 | c1
  · exact numL_at numL_1 (by omega) c1
  rcases Nat.lt_or_ge m 750 with c2 | c2
  · exact numL_at numL_2 (by omega) c2
  rcases Nat.lt_or_ge m 1000 with c3 | c3
  · exact numL_at numL_3 (by omega) c3
  rcases Nat.lt_or_ge m 1250 with c4 | c4
  · exact numL_at numL_4 (by omega) c4
  rcases Nat.lt_or_ge m 1500 with c5 | c5
  · exact numL_at numL_5 (by omega) c5
  rcases Nat.lt_or_ge m 1750 with c6 | c6
  · exact numL_at numL_6 (by omega) c6
  rcases Nat.lt_or_ge m 2000 with c7 | c7
  · exact numL_at numL_7 (by omega) c7
  rcases Nat.lt_or_ge m 2250 with c8 | c8
  · exact numL_at numL_8 (by omega) c8
  rcases Nat.lt_or_ge m 2500 with c9 | c9
  · exact numL_at numL_9 (by omega) c9
  rcases Nat.lt_or_ge m 2750 with c10 | c10
  · exact numL_at numL_10 (by omega) c10
  rcases Nat.lt_or_ge m 3000 with c11 | c11
  · exact numL_at numL_11 (by omega) c11
  exact numL_at numL_12 (by omega) (by omega)
theorem num_len {i : Int} (h0 : -1 ≤ i) (h1 : i ≤ 3000) : (toString i : Str).length ≤ 5 := by
  rcases (by omega : i = -1 ∨ 0 ≤ i) with rfl | h
  · decide +kernel
  · have q := numL_all (m := i.toNat) (by omega)
    rwa [show ((i.toNat : Nat) : Int) = i by omega] at q
theorem num_log {i : Int} (h0 : -1 ≤ i) (h1 : i ≤ 3000) : i.natAbs.log2 < 1920 := by
  by_cases e : i.natAbs = 0
  · rw [e]; decide
  · exact Nat.lt_of_lt_of_le ((Nat.log2_lt e).mpr (show i.natAbs < 2 ^ 17 by omega)) (by decide)
end Lw
set_option Elab.async false
set_option linter.all false
set_option maxRecDepth 100000
namespace L2
open PySem PySem.Spec PyProof.Rows
section
variable {X : Cx} {e : Expr} {es : List Expr} {te : TE} {k : Str → TE} {pos : Pos}
def PF (X : Cx) (es : List Expr) (k : Str → TE) : Prop :=
  ∀ (acc : Str) (pins : List (Addr × Obj)) (s : Shared) (σ : St) (H : Hp) (Q : VK), Inv X pins σ H s → k acc σ H Q → wpAny (model X.prog X.w) X.A (joinParts acc (evalEach es X.env)) (EP X pins σ Q) X.xe s
def tFNil : Str → TE := fun acc _ H Q => acc.length ≤ sizeLine ∧ Q (.str acc) H
def qFP (acc : Str) (k : Str → TE) (σ : St) (Q : VK) (v : V) (H1 : Hp) : Prop := ∃ y, v = .str y ∧ (acc ++ y).length ≤ sizeLine ∧ k (acc ++ y) σ H1 Q
def tFCons (te : TE) (k : Str → TE) : Str → TE := fun acc σ H Q => te σ H fun v H1 => qFP acc k σ Q v H1
theorem pf_nil : PF X [] tFNil := fun acc pins s σ H Q I h => joinParts_nil ⟨.str acc, H, I.tok _, ⟨_, rfl⟩, h.2⟩ h.1
theorem pf_cons (he : PE X e te) (hk : PF X es k) (h0 : evalEach (e :: es) X.env = eval e X.env :: evalEach es X.env := by rfl) : PF X (e :: es) (tFCons te k) := fun acc pins s σ H Q I h => by
  rw [h0]
  refine joinParts_cons (thn (he pins s σ H _ I h) fun u s1 ⟨v, H1, I1, r, y, e1, hz, q⟩ => ?_)
  subst e1
  obtain ⟨t, rfl⟩ := r
  exact ⟨hz, hk (acc ++ y) pins s1 σ H1 Q I1 q⟩
theorem pe_fstr {v1 v2 : Expr} (h : PF X (v1 :: v2 :: es) k) (h0 : evalEach (v1 :: v2 :: es) X.env = eval v1 X.env :: eval v2 X.env :: evalEach es X.env := by rfl) : PE X (.JoinedStr (v1 :: v2 :: es) pos) (k Str.empty) := fun pins s σ H Q I q => by
  refine JoinedStr_many ?_
  have := h Str.empty pins s σ H Q I q
  rw [h0] at this
  exact this
def qFv (Q : VK) (v : V) (H1 : Hp) : Prop := (∃ n : Int, v = .int n ∧ n.natAbs.log2 < 1920 ∧ Q (.str (toString n)) H1) ∨ ∃ y : Str, v = .str y ∧ y.length ≤ sizeLine ∧ Q (.str y) H1
def tFv (te : TE) : TE := fun σ H Q => te σ H fun v H1 => qFv Q v H1
theorem pe_fv (he : PE X e te) : PE X (.FormattedValue e (-1) none pos) (tFv te) := fun pins s σ H Q I h => by
  refine FormattedValue_plain (thn (he pins s σ H _ I h) fun u s1 ⟨v, H1, I1, r, q⟩ => ?_)
  rcases q with ⟨n, rfl, hd, q⟩ | ⟨y, rfl, hz, q⟩
  · obtain ⟨t, rfl⟩ := r
    exact formatField_int_small hd ⟨.str _, H1, (I1.tok _).tok _, ⟨_, rfl⟩, q⟩
  · obtain ⟨t, rfl⟩ := r
    exact formatField_str (fun t' tk => ⟨.str y, H1, I1.kept (t' := tk) fun b o e => e, ⟨_, rfl⟩, q⟩) hz
end
section
variable {σ : St} {H : Hp} {Q : VK} {te : TE} {k : Str → TE} {acc y : Str} {n : Int}
theorem go_fnil (l : acc.length ≤ sizeLine) (q : Q (.str acc) H) : tFNil acc σ H Q := ⟨l, q⟩
theorem go_fcons (h : te σ H fun v H1 => qFP acc k σ Q v H1) : tFCons te k acc σ H Q := h
theorem go_qfp (l : (acc ++ y).length ≤ sizeLine) (q : k (acc ++ y) σ H Q) : qFP acc k σ Q (.str y) H := ⟨y, rfl, l, q⟩
theorem go_fv (h : te σ H fun v H1 => qFv Q v H1) : tFv te σ H Q := h
theorem go_fvI (l : n.natAbs.log2 < 1920) (q : Q (.str (toString n)) H) : qFv Q (.int n) H := .inl ⟨n, rfl, l, q⟩
end
def qStar (K : PySem.W.Frag) (t : TA) (σ : St) (Q : List V → Hp → Prop) (x : V) (H1 : Hp) : Prop := ∃ a xs, x = .ref a ∧ SqL K H1 a xs ∧ t σ H1 fun vs H2 => Q (xs ++ vs) H2
def tStar (K : PySem.W.Frag) (te : TE) (t : TA) : TA := fun σ H Q => te σ H fun x H1 => qStar K t σ Q x H1
section
variable {σ : St} {H : Hp} {te : TE} {t : TA} {K : PySem.W.Frag} {Q : List V → Hp → Prop} {a : Addr} {xs : List V}
theorem go_star (h : te σ H fun x H1 => qStar K t σ Q x H1) : tStar K te t σ H Q := h
end
def rDigit : V → List V → Hp → VK → Prop := fun x xs H Q => ∃ a, x = .str a ∧ xs = [] ∧ True ∧ Q (.bl (Txt.isdigit a)) H
def rAscii : V → List V → Hp → VK → Prop := fun x xs H Q => ∃ a, x = .str a ∧ xs = [] ∧ True ∧ Q (.bl (Txt.isascii a)) H
def rStarts : V → List V → Hp → VK → Prop := fun x xs H Q => ∃ a b, x = .str a ∧ xs = [.str b] ∧ Q (.bl (Txt.startswith a b)) H
section
variable {X : Cx} {o e : Expr} {to te : TE} {apos pos : Pos}
end
def qM0 (r : V → List V → Hp → VK → Prop) (Q : VK) (x : V) (H1 : Hp) : Prop := (∃ a, x = .str a) ∧ r x [] H1 Q
def qM1 (r : V → List V → Hp → VK → Prop) (te : TE) (σ : St) (Q : VK) (x : V) (H1 : Hp) : Prop := (∃ a, x = .str a) ∧ te σ H1 fun y H2 => r x [y] H2 Q
section
variable {r : V → List V → Hp → VK → Prop} {K : PySem.W.Frag} {σ : St} {H : Hp} {Q : VK} {to te : TE} {a b : Str} {p : Addr} {ys : List Str} {n : Int} {c : Nat} {lo hi : Option Int}
theorem go_m0 (h : to σ H fun x H1 => qM0 r Q x H1) : tM0 r to σ H Q := h
theorem go_m1 (h : to σ H fun x H1 => qM1 r te σ Q x H1) : tM1 r to te σ H Q := h
theorem go_qm0 (q : r (.str a) [] H Q) : qM0 r Q (.str a) H := ⟨⟨a, rfl⟩, q⟩
theorem go_qm1 (q : te σ H fun y H2 => r (.str a) [y] H2 Q) : qM1 r te σ Q (.str a) H := ⟨⟨a, rfl⟩, q⟩
theorem go_digit (q : Q (.bl (Txt.isdigit a)) H) : rDigit (.str a) [] H Q := ⟨a, rfl, rfl, trivial, q⟩
theorem go_ascii (q : Q (.bl (Txt.isascii a)) H) : rAscii (.str a) [] H Q := ⟨a, rfl, rfl, trivial, q⟩
theorem go_starts (q : Q (.bl (Txt.startswith a b)) H) : rStarts (.str a) [.str b] H Q := ⟨a, b, rfl, rfl, q⟩
end
end L2
set_option Elab.async false
set_option linter.all false
set_option maxRecDepth 100000
namespace L2
open PySem PySem.Spec PyProof.Rows
def Way (B : Heap) (e : Addr) (vs : Array Value) (x : Value) (h : Heap) : Prop := ∃ (T : Addr) (oT : Obj) (ts : Array Value),
  vs[1]? = some (.ref T) ∧ B.get? T = none ∧ T ≠ e ∧ h.get? T = some oT ∧ oT.data = .fields ts ∧ ts[3]? = some x
structure XObj (e C : Addr) (d : Option Addr) (vs : Array Value) (h : Heap) : Prop where
  ex : ∃ oe, h.get? e = some oe ∧ oe.cls = .ref C ∧ oe.dict = d ∧ oe.data = .fields vs
  sz : 1 < vs.size
structure Alo (B : Heap) (l : List Env) (e C : Addr) (d : Option Addr) (φ : Array Value → Heap → Prop) (h : Heap) : Prop where
  st : B.StaysIn h
  ne : B.get? e = none
  ff : h.FunFrames B l
  ob : ∃ vs, XObj e C d vs h ∧ φ vs h
def Fre (vs : Array Value) (_ : Heap) : Prop := vs[1]? = some .none
abbrev AtW (B : Heap) (l : List Env) (e C : Addr) (d : Option Addr) (x : Value) (h : Heap) : Prop := Alo B l e C d (fun vs h => Way B e vs x h) h
abbrev Any (B : Heap) (l : List Env) (e C : Addr) (d : Option Addr) (L : Addr) (h : Heap) : Prop := Alo B l e C d (fun vs h => Fre vs h ∨ Way B e vs .none h ∨ Way B e vs (rawInt L) h) h
section
variable {B h h' : Heap} {l outer : List Env} {env : Env} {e C L b : Addr} {d : Option Addr} {x y : Value} {M : Model} {A : Around} {E : Value → Shared → Prop} {s : Shared}
theorem dict_mapF (o : Obj) (f : Array Value → Array Value) : (o.mapFields f).dict = o.dict := by
  obtain ⟨c, dd, dt, sl⟩ := o
  cases dt <;> rfl
theorem Alo.nef {φ : Array Value → Heap → Prop} (a : Alo B l e C d φ h) {o : Obj} (q : B.get? b = some o) : b ≠ e := by
  rintro rfl
  rw [a.ne] at q
  cases q
theorem not_rec {a T : Addr} {o oT : Obj} {ts : Array Value} (q : h.get? a = some o) (n : ∀ vs, o.data ≠ .fields vs) (hT : h.get? T = some oT) (hd : oT.data = .fields ts) : a ≠ T := by
  rintro rfl
  rw [hT] at q
  cases q
  exact n _ hd
theorem set_way {Q : Unit → Shared → Prop} (a : AtW B l e C d x s.heap) {vs : Array Value} (X : XObj e C d vs s.heap) (W : Way B e vs x s.heap) (T : Addr) (hT1 : vs[1]? = some (.ref T))
    (k : ∀ h', AtW B l e C d y h' → s.heap.UpToSlots h' → XObj e C d vs h' → Q () { s with heap := h' }) : wpAny M A (setField (.ref T) 3 y) Q E s := by
  obtain ⟨T', oT, ts, w1, w2, w3, w4, w5, w6⟩ := W
  obtain rfl : T' = T := by rw [w1] at hT1; cases hT1; rfl
  obtain ⟨oe, x1, x2, x3, x4⟩ := X.ex
  have sz : 3 < ts.size := (Array.getElem?_eq_some_iff.mp w6).1
  refine wpAny_setField w4 w5 sz ?_
  have oth : ∀ b, b ≠ T' → (s.heap.update T' (Obj.mapFields (·.setIfInBounds 3 y))).get? b = s.heap.get? b := fun b n => Heap.get?_update_other _ _ n.symm
  have X' : XObj e C d vs (s.heap.update T' (Obj.mapFields (·.setIfInBounds 3 y))) := ⟨⟨oe, by rw [oth _ w3.symm]; exact x1, x2, x3, x4⟩, X.sz⟩
  have slots : s.heap.UpToSlots (s.heap.update T' (Obj.mapFields (·.setIfInBounds 3 y))) := fun b o q n => ⟨o.slots, by rw [oth _ (not_rec q n w4 w5)]; exact q⟩
  refine k _ ⟨fun b o q => ?_, a.ne, a.ff.of_keeps fun b o q n => ⟨o, by rw [oth _ (not_rec q n w4 w5)]; exact q, rfl⟩, vs, X', T', _, _, w1, w2, w3, Heap.get?_update_self _ w4 (Obj.isFreed_of_fields (Obj.data_mapFields w5 _)), Obj.data_mapFields w5 _, by simp [sz]⟩ slots X'
  rw [oth _ (fun z => by rw [z, w2] at q; cases q)]
  exact a.st b o q
theorem new_way {head : Value} {hn : Bool} {Q : Unit → Shared → Prop} (hfr : A.frames = some (env :: outer)) (hf : env.frame = some L) {φ : Array Value → Heap → Prop} (a : Alo B (env :: outer) e C d φ s.heap)
    (k : ∀ h', AtW B (env :: outer) e C d (rawInt L) h' → s.heap.UpToSlots h' → Q () { s with heap := h' }) :
    wpAny M A (do
      let fo ← frameOf env
      let place ← entryPlaceOf L hn
      let nw ← EntryCells.newEntry head fo .none (rawInt L) .none place
      setField (.ref e) 1 nw) Q E s := by
  obtain ⟨vs, X, _⟩ := a.ob
  obtain ⟨oe, x1, x2, x3, x4⟩ := X.ex
  have off : e ∉ (env :: outer).filterMap (·.frame) := fun z => by
    obtain ⟨_, o, q, n⟩ := a.ff.mem z
    rw [x1] at q; cases q
    exact n _ x4
  refine wpAny_bind (wpAny_frameOf_fun hfr a.ff hf fun g sl => wpAny_bind (wpAny_entryPlaceOf fun pl hp => ?_))
  unfold EntryCells.newEntry newFields
  refine wpAny_bind (wpAny_newObj_type ?_ (hp.sizeOk5 ..))
  have e1 : g.get? e = some oe := (sl.2.1 e off).trans x1
  have st1 : B.StaysIn g := fun b o q => (sl.2.1 b fun z => by rw [(a.ff.mem z).1] at q; cases q).trans (a.st b o q)
  have fr := st1.fresh
  have te : g.objs.size ≠ e := Nat.ne_of_gt (Heap.lt_size e1)
  generalize hN : ({ cls := .type "traceback", dict := none, data := .fields ([head, Value.ref L, .none, rawInt L, .none] ++ (if pl.isEmpty then List.replicate 6 Value.none else pl)).toArray } : Obj) = N
  have nd : N.data = .fields ([head, Value.ref L, .none, rawInt L, .none] ++ (if pl.isEmpty then List.replicate 6 Value.none else pl)).toArray := by rw [← hN]
  have e2 : (g.push N).get? e = some oe := Heap.get?_push_of_some _ e1
  refine wpAny_setField e2 x4 X.sz ?_
  have oth : ∀ b o, b ≠ e → g.get? b = some o → ((g.push N).update e (Obj.mapFields (·.setIfInBounds 1 (Value.ref g.objs.size)))).get? b = some o := fun b o n q => (Heap.get?_update_other _ _ n.symm).trans (Heap.get?_push_of_some _ q)
  have upd : s.heap.UpToSlots ((g.push N).update e (Obj.mapFields (·.setIfInBounds 1 (Value.ref g.objs.size)))) := fun b o q n => by
    obtain ⟨z, hz⟩ := sl.2.2 b o q
    exact ⟨z, oth b _ (not_rec q n x1 x4) hz⟩
  refine k _ ⟨fun b o q => oth b o (a.nef q) (st1 b o q), a.ne, a.ff.of_keeps fun b o q n => ?_, vs.setIfInBounds 1 (.ref g.objs.size), ⟨⟨_, Heap.get?_update_self _ e2 (Obj.isFreed_of_fields (Obj.data_mapFields x4 _)), ?_, ?_, Obj.data_mapFields x4 _⟩, by simpa using X.sz⟩,
    g.objs.size, N, _, ?_, fr, te, ?_, nd, ?_⟩ upd
  · obtain ⟨z, hz⟩ := upd b o q n
    exact ⟨_, hz, rfl⟩
  · rw [Obj.cls_mapFields]; exact x2
  · rw [dict_mapF]; exact x3
  · have := X.sz
    simp [this]
  · exact (Heap.get?_update_other _ _ te.symm).trans (Heap.get?_push_size g (Obj.isFreed_of_fields nd))
  · rcases hp with rfl | ⟨_, _, _, _, _, _, _, rfl⟩ <;> simp
theorem note_it {Q : Unit → Shared → Prop} (hfr : A.frames = some (env :: outer)) (hf : env.frame = some L) (a : Any B (env :: outer) e C d L s.heap)
    (k : ∀ h', AtW B (env :: outer) e C d (rawInt L) h' → s.heap.UpToSlots h' → Q () { s with heap := h' }) : wpAny M A (noteFrame (.ref e) env) Q E s := by
  obtain ⟨vs, X, w⟩ := a.ob
  obtain ⟨oe, x1, x2, x3, x4⟩ := X.ex
  have mk : ∀ {z}, Way B e vs z s.heap → AtW B (env :: outer) e C d z s.heap := fun w => ⟨a.st, a.ne, a.ff, vs, X, w⟩
  unfold noteFrame
  simp only [hf]
  rcases w with w | w | w
  · refine wpAny_bind (wpAny_field x1 x4 w ?_)
    rw [if_neg (by decide)]
    exact new_way hfr hf a k
  · obtain ⟨T, oT, ts, w1, w2, w3, w4, w5, w6⟩ := id w
    refine wpAny_bind (wpAny_field x1 x4 w1 ?_)
    have tn : (Value.ref T != Value.none) = true := by simp
    rw [if_pos tn]
    refine wpAny_bind (wpAny_field w4 w5 w6 ?_)
    have tr : ¬ ((Value.none == rawInt L) = true) := by simp [rawInt]
    rw [if_neg tr]
    refine wpAny_bind (set_way (mk w) X w T w1 fun g ag ug _ => ?_)
    refine new_way (s := { s with heap := g }) hfr hf ag fun h' a' u' => k h' a' (ug.trans u')
  · obtain ⟨T, oT, ts, w1, w2, w3, w4, w5, w6⟩ := id w
    refine wpAny_bind (wpAny_field x1 x4 w1 ?_)
    have tn : (Value.ref T != Value.none) = true := by simp
    rw [if_pos tn]
    refine wpAny_bind (wpAny_field w4 w5 w6 ?_)
    have tr : (rawInt L == rawInt L) = true := by simp
    rw [if_pos tr]
    exact wpAny_pure (k s.heap (mk w) (.refl _))
theorem flight_to {f : Option Addr} {Q : Unit → Shared → Prop} (a : AtW B l e C d x s.heap)
    (k : ∀ h', AtW B l e C d (f.elim .none fun b => rawInt b) h' → s.heap.UpToSlots h' → Q () { s with heap := h' }) : wpAny M A (setFlight (.ref e) f) Q E s := by
  obtain ⟨vs, X, w⟩ := a.ob
  obtain ⟨oe, x1, x2, x3, x4⟩ := X.ex
  obtain ⟨T, oT, ts, w1, w2, w3, w4, w5, w6⟩ := id w
  unfold setFlight
  refine wpAny_bind (wpAny_field x1 x4 w1 ?_)
  have tn : (Value.ref T != Value.none) = true := by simp
  rw [if_pos tn]
  exact set_way a X w T w1 fun h' a' u' _ => k h' a' u'
theorem Alo.tail {φ : Array Value → Heap → Prop} (a : Alo B (env :: outer) e C d φ h) : Alo B outer e C d φ h := ⟨a.st, a.ne, a.ff.2.2, a.ob⟩
theorem leaves_it {Q : Unit → Shared → Prop} (hfr : A.frames = some (env :: outer)) (hf : env.frame = some L) (a : Any B (env :: outer) e C d L s.heap)
    (k : ∀ h', AtW B outer e C d .none h' → s.heap.UpToSlots h' → Q () { s with heap := h' }) : wpAny M A (leaving env (.ref e)) Q E s := by
  unfold leaving
  refine wpAny_bind (note_it hfr hf a fun g ag ug => ?_)
  exact flight_to (s := { s with heap := g }) (f := none) ag fun h' a' u' => k h' a'.tail (ug.trans u')
theorem own_it {E' : Value → Shared → Prop} (hfr : A.frames = some (env :: outer)) (hf : env.frame = some L) (a : Any B (env :: outer) e C d L s.heap)
    (k : ∀ h', Any B (env :: outer) e C d L h' → s.heap.UpToSlots h' → E' (.ref e) { s with heap := h' }) : notedBy M A env (cameBackBy M A env E') (.ref e) s := by
  refine note_it hfr hf a fun g ag ug => ?_
  obtain ⟨vs, X, w⟩ := ag.ob
  obtain ⟨oe, x1, x2, x3, x4⟩ := X.ex
  obtain ⟨T, oT, ts, w1, w2, w3, w4, w5, w6⟩ := id w
  show wpAny M A _ _ _ { s with heap := g }
  refine wpAny_bind (wpAny_field x1 x4 w1 ?_)
  have tn : ¬ ((Value.ref T == Value.none) = true) := by simp
  rw [if_neg tn, hf]
  refine flight_to (s := { s with heap := g }) (f := some L) ag fun h' a' u' => k h' ⟨a'.st, a'.ne, a'.ff, ?_⟩ (ug.trans u')
  obtain ⟨vs', X', w'⟩ := a'.ob
  exact ⟨vs', X', .inr (.inr w')⟩
end
end L2
set_option Elab.async false
set_option linter.all false
set_option maxRecDepth 100000
namespace L2
open PySem PySem.Spec PyProof.Rows
abbrev vBm : List Value := [.type "ValueError", .type "Exception", .type "BaseException", .type "object"]
def xcIn (K : PySem.W.Frag) (C : Addr) (bm : List Value) : Bool := match K.lookup C with
  | some ⟨.type "type", _, .cls cd, sl⟩ => (match cd.mro, sl.toList with
    | .ref C' :: up, [_, _, _, _, some (.builtin n), _] => C' == C && up == bm && n == "ValueError.__new__" && !cd.hasDel && cd.hasDict && PySem.W.tailIn K vBm bm && PySem.W.nsOkIn K cd.ns
    | _, _ => false)
  | _ => false
structure XC (C : Addr) (bm : List Value) (h : Heap) : Prop where
  ex : ∃ nm q N bs sn sub ab col dd k0 k1 k2 k3 k5, h.get? C = some (excClassObj nm q C N bs bm true sn sub ab col dd k0 k1 k2 k3 k5 "ValueError.__new__")
  tl : OwnTail h vBm bm
theorem XC.of_in {K : PySem.W.Frag} {C : Addr} {bm : List Value} {h : Heap} (X : K.In h) (e : xcIn K C bm = true) : XC C bm h := by
  unfold xcIn at e
  split at e
  · rename_i dd cd sl ho
    split at e
    · rename_i C' up k0 k1 k2 k3 n k5 hm hs
      simp only [Bool.and_eq_true, beq_iff_eq, Bool.not_eq_true'] at e
      obtain ⟨⟨⟨⟨⟨⟨rfl, rfl⟩, rfl⟩, hdel⟩, hdct⟩, ht⟩, hok⟩ := e
      obtain ⟨nm, bs, mro, ns, qn, hd, sn, sub, ab, col, del⟩ := cd
      dsimp only at hm hdel hdct
      subst hm hdel hdct
      obtain ⟨l⟩ := sl
      simp only at hs
      subst hs
      exact ⟨⟨nm, qn, ns, bs, sn, sub, ab, col, dd, k0, k1, k2, k3, k5, X _ _ ho⟩, PySem.W.tail_of_in X ht⟩
    · cases e
  · cases e
theorem XC.keeps {C : Addr} {bm : List Value} {h h' : Heap} (x : XC C bm h) (k : ∀ b o, h.get? b = some o → h'.get? b = some o) : XC C bm h' := by
  obtain ⟨nm, q, N, bs, sn, sub, ab, col, dd, k0, k1, k2, k3, k5, e⟩ := x.ex
  exact ⟨⟨nm, q, N, bs, sn, sub, ab, col, dd, k0, k1, k2, k3, k5, k _ _ e⟩, x.tl.keeps k⟩
section
variable {M : Model} {prog : Program} {w : World} {A : Around} {E : Value → Shared → Prop} {h : Heap} {g : Array GenState} {d : Drawn} {t : Nat} {os : OsState} {C e f : Addr} {bm : List Value} {env : Env}
theorem raise_made {s : Shared} {x : Sem Value} {Q : Flow → Shared → Prop} (hh : A.handled = none)
    (k : wpAny M A x (fun v s₁ => ∃ e oe vs, v = .ref e ∧ XC C bm s₁.heap ∧ s₁.heap.get? e = some oe ∧ oe.cls = .ref C ∧ oe.data = .fields vs ∧ vs[1]? = some .none ∧ E (.ref e) s₁) E s) :
    wpAny M A (raiseStmt env (some x) none) Q E s := by
  unfold raiseStmt
  refine wpAny_bind (wpAny_mono k (fun v s₁ q => ?_) fun _ _ z => z)
  obtain ⟨e, oe, vs, rfl, X, he, hc, hv, h1, hE⟩ := q
  obtain ⟨nm, q, N, bs, sn, sub, ab, col, dd, k0, k1, k2, k3, k5, hC⟩ := X.ex
  have cB : (Value.ref C :: bm).contains (.type "BaseException") = true := by rw [List.contains_cons, X.tl.hasType (X := "BaseException") (b := true) (by decide +kernel), Bool.or_true]
  obtain ⟨hp, g, d, tk, os⟩ := s₁
  repeat (first | (with_reducible refine wpAny_loadPart_at he ?_; rw [hc]) | with_reducible refine wpAny_loadPart_at hC ?_ | (with_reducible refine wpAny_isSubtype_exc hC ?_; rw [cB]) | (with_reducible refine wpAny_bind (wpAny_field he hv h1 ?_)) | wp_step)
  exact wpAny_raiseNew_none hh hE
abbrev newX (C : Addr) (t : Addr) (d : Option Addr) : Obj := { cls := .ref C, dict := d, data := .fields #[.ref t, .none, .none, .none, .bool false, .none] }
abbrev newXH (h : Heap) (C : Addr) (rest : List Value) : Heap := (h.push { cls := .type "tuple", data := .seq rest.toArray }).push (newX C h.objs.size none)
theorem make_exc {rest : List Value} {f : Value} {R : Result → Shared → Prop} (X : XC C bm h) (hi : PySem.W.Looks (model prog w) h (typeLookup (.ref C) "__init__") (some f))
    (hb : ∀ self, PySem.W.Looks (model prog w) h (bindSpecial f self) (f, [self])) (hrest : rest.length ≤ sizeLine)
    (hq : codeAny (model prog w) (A.under (.builtin "type.__call__" ⟨.ref C :: rest, []⟩)) (.call f ⟨.ref (h.objs.size + 1) :: rest, []⟩) (PySem.W.InitBack (h.objs.size + 1) R) ⟨newXH h C rest, g, d, t, os⟩) :
    codeAny (model prog w) A (.call (.ref C) ⟨rest, []⟩) R ⟨h, g, d, t, os⟩ := by
  have f1 := tc_lookup
  have f2 := tc_bind (.ref C)
  obtain ⟨nm, q, N, bs, sn, sub, ab, col, dd, k0, k1, k2, k3, k5, hC⟩ := X.ex
  have hT : (⟨h, g, d, t, os⟩ : Shared).TypeIs (.ref C) "type" := ⟨_, hC, rfl⟩
  refine codeAny_of_tree ?_
  show wpAny _ _ (callAny (.ref C) _) _ _ _
  repeat (any_goals (first | assumption | with_reducible refine wpAny_loadPart_at hC ?_ | wp_step))
  refine ⟨rfl, codeAny_call_builtin_at (Code.quiet_builtin _ (by decide +kernel)) entry_typeCall (wpAny_check_type_call_sub hC ?_)⟩
  repeat (first | with_reducible refine wpAny_loadPart_at hC ?_ | with_reducible refine wpAny_madeBy_exc hC ?_ | wp_step)
  have FB := PySem.F.excBase_ValueError
  refine codeAny_call_builtin_code (Code.quiet_builtin _ FB.quiet) (wpAny_check_new_subT FB X.tl hC (codeAny_exc_new_subT FB X.tl hC ?_ hrest))
  show wpAny _ _ _ _ _ ⟨newXH h C rest, g, d, t, os⟩
  have kp : ∀ b o, h.get? b = some o → (newXH h C rest).get? b = some o := fun b o e => Heap.get?_push_of_some _ (Heap.get?_push_of_some _ e)
  have hx : (newXH h C rest).get? (h.objs.size + 1) = some (newX C h.objs.size none) := by heap_get
  have cC : (Value.ref C :: bm).contains (.ref C) = true := by simp
  have hC' := kp _ _ hC
  have i1 := hi.keeps kp
  have b1 := (hb (.ref (h.objs.size + 1))).keeps kp
  unfold isInstance callSpecial? specialOf
  repeat (first | (with_reducible refine wpAny_loadPart_at hx ?_) | (with_reducible refine wpAny_isSubtype_exc hC' ?_; rw [cC]) | (with_reducible refine wpAny_bind (i1.here ?_)) | (with_reducible refine wpAny_bind (b1.here ?_)) | with_reducible refine i1.here ?_ | with_reducible refine b1.here ?_ | wp_step)
  show codeAny (model prog w) (A.under (.builtin "type.__call__" ⟨.ref C :: rest, []⟩)) (.call f ⟨.ref (h.objs.size + 1) :: rest, []⟩) _ _
  refine codeAny_mono hq fun r s' z => ?_
  rcases r with x | (v | _ | _ | _) <;> first | exact z | exact z.elim | skip
  obtain ⟨rfl, z⟩ := z
  exact wpAny_pure (wpAny_pure z)
end
end L2
set_option Elab.async false
set_option linter.all false
set_option maxRecDepth 100000
namespace L2
open PySem PySem.Spec PyProof.Rows
section
variable {M : Model} {prog : Program} {w : World} {A : Around} {E : Value → Shared → Prop} {h : Heap} {g : Array GenState} {d : Drawn} {t : Nat} {os : OsState} {C e f : Addr} {bm : List Value} {env : Env}
theorem check_sa {x : Addr} {v nv : Value} {Q : Unit → Shared → Prop} {o : Obj} (X : XC C bm h) (hx : h.get? x = some o) (hc : o.cls = .ref C) (k : Q () ⟨h, g, d, t, os⟩) :
    wpAny (model prog w) A (checkBuiltinCall "object.__setattr__" ⟨[.ref x, nv, v], []⟩) Q E ⟨h, g, d, t, os⟩ := by
  have SF := PySem.F.store_ValueError
  obtain ⟨nm, q, N, bs, sn, sub, ab, col, dd, k0, k1, k2, k3, k5, hC⟩ := X.ex
  have cO : (Value.ref C :: bm).contains (.type "object") = true := by rw [List.contains_cons, X.tl.hasType (X := "object") (b := true) (by decide +kernel), Bool.or_true]
  have ha := SF.args (.ref x) nv v
  simp only [checkBuiltinCall, SF.kind, SF.split]
  refine wpAny_bind ?_
  unfold isInstance
  repeat (first | (with_reducible refine wpAny_loadPart_at hx ?_; rw [hc]) | (with_reducible refine wpAny_isSubtype_exc hC ?_; rw [cO]) | wp_step)
  exact k
theorem store_exc {x : Addr} {n : Str} {v : Value} {Q : Unit → Shared → Prop} {ns : List Str} {mA : Str → Option Value} (X : XC C bm h) (hs : PySem.W.Looks (model prog w) h (typeLookup (.ref C) "__setattr__") (some (.builtin "object.__setattr__")))
    (hn : PySem.W.Looks (model prog w) h (typeLookup (.ref C) n) none) (hrf : ∀ self, refuseLoop self "__setattr__" bm = pure ())
    (dx : Option Addr) (tp : Addr) (hx : h.get? x = some (newX C tp dx)) (hd : (dx = none ∧ mA = fun _ => none) ∨ ∃ d', dx = some d' ∧ d' ≠ x ∧ h.Ns1 d' mA) (wi : Within mA ns) (sz : ns.length + 1 ≤ sizeLine)
    (k : ∀ h' tk' d', h'.get? x = some (newX C tp (some d')) → d' ≠ x → h'.Ns1 d' (fun y => if y = n then some v else mA y) → (dx = none ∧ h.objs.size ≤ d' ∨ dx = some d') → (∀ b o, b ≠ x → b ≠ d' → h.get? b = some o → h'.get? b = some o) → Q () ⟨h', g, d, tk', os⟩) :
    wpAny (model prog w) A (setAttr (.ref x) n v) Q E ⟨h, g, d, t, os⟩ := by
  have SF := PySem.F.store_ValueError
  obtain ⟨nm, q, N, bs, sn, sub, ab, col, dd, k0, k1, k2, k3, k5, hC⟩ := X.ex
  have f3 := SF.slot.bind (.ref x)
  have hpass := hrf (.ref x)
  unfold setAttr callSpecial? specialOf
  repeat (any_goals (first | assumption | (with_reducible refine wpAny_loadPart_at hx ?_) | (with_reducible refine wpAny_bind (hs.here ?_)) | (with_reducible refine hs.here ?_) | wp_step))
  refine codeAny_call_builtin SF.slot.plain SF.entry (check_sa X hx rfl ?_)
  unfold Builtin.«object.__setattr__»
  repeat (first | rw [refuse_eq] | (rw [refuseLoop_ref, hpass]) | (with_reducible refine wpAny_loadPart_at hx ?_) | with_reducible refine wpAny_mroOf_exc hC ?_ | (with_reducible refine wpAny_bind (hn.here ?_)) | wp_step)
  rcases hd with ⟨rfl, rfl⟩ | ⟨dd', rfl, ne, N1⟩
  · have lt : x < h.objs.size := Heap.lt_size hx
    have h1 : (h.push PySem.W.emptyDict).get? x = some (newX C tp none) := Heap.get?_push_of_some _ hx
    dsimp only
    rw [if_neg (by simp [typeHasDict])]
    refine wpAny_bind (wpAny_alloc' (wpAny_bind (wpAny_update' h1 (wpAny_pure ?_))))
    generalize hg : ((h.push { cls := .type "dict", data := .dict #[] }).update x fun o => { cls := o.cls, dict := some h.objs.size, data := o.data, slots := o.slots }) = h2
    have g1 : h2.get? x = some (newX C tp (some h.objs.size)) := by
      rw [← hg]
      exact Heap.get?_update_self _ h1 rfl
    have g2 : ∀ b o, b ≠ x → (h.push PySem.W.emptyDict).get? b = some o → h2.get? b = some o := fun b o n q => by
      rw [← hg]
      exact (Heap.get?_update_ne _ _ _ _ n).trans q
    have g3 : h2.Ns h.objs.size (fun _ => none) := ⟨_, #[], _, g2 _ _ (Nat.ne_of_gt lt) (Heap.get?_push_at rfl rfl), rfl, fun z hz => absurd hz (by simp), fun _ => rfl⟩
    show wpAny _ _ (Builtin.ObjectAttr.storeInDict h.objs.size (.str n t) n v) _ _ _
    unfold Builtin.ObjectAttr.storeInDict Builtin.ObjectAttr.newKeyGuard
    refine wpAny_bind (wpAny_pure (wpAny_bind (wpAny_nsSet1 (Heap.Ns1.of_empty g3) fun h' n' sb => ?_)))
    obtain ⟨oD, es, ep, q1, q2, q3⟩ := n'.count (PySem.Within.cons n v PySem.Within.nil)
    refine wpAny_bind (wpAny_lookBehind q1 (by rw [q2]; exact pastItsLine_dict (Nat.le_trans q3 (by rw [List.length_cons, List.length_nil, sizeLine_eq]; omega))) ?_)
    wp_walk
    exact k h' _ h.objs.size ((sb.2 x (Nat.ne_of_lt lt)).trans g1) (Nat.ne_of_gt lt) n' (.inl ⟨rfl, Nat.le_refl _⟩) fun b o n1 n2 q => (sb.2 b n2).trans (g2 b o n1 (Heap.get?_push_of_some _ q))
  · dsimp only
    refine wpAny_pure ?_
    show wpAny _ _ (Builtin.ObjectAttr.storeInDict dd' (.str n t) n v) _ _ _
    unfold Builtin.ObjectAttr.storeInDict Builtin.ObjectAttr.newKeyGuard
    refine wpAny_bind (wpAny_pure (wpAny_bind (wpAny_nsSet1 N1 fun h' n' sb => ?_)))
    obtain ⟨oD, es, ep, q1, q2, q3⟩ := n'.count (PySem.Within.cons n v wi)
    refine wpAny_bind (wpAny_lookBehind q1 (by rw [q2]; exact pastItsLine_dict (Nat.le_trans q3 (by rw [List.length_cons]; omega))) ?_)
    wp_walk
    exact k h' _ dd' ((sb.2 x ne.symm).trans hx) ne n' (.inr rfl) fun b o _ n2 q => (sb.2 b n2).trans q
end
end L2
set_option Elab.async false
set_option linter.all false
set_option maxRecDepth 100000
namespace L2
open PySem PySem.Spec PyProof.Rows
section
variable {M : Model} {prog : Program} {w : World} {A : Around} {E : Value → Shared → Prop} {h : Heap} {g : Array GenState} {d : Drawn} {t : Nat} {os : OsState} {C e f : Addr} {bm : List Value} {env : Env}
theorem check_gx {x : Addr} {nv : Value} {Q : Unit → Shared → Prop} {o : Obj} (X : XC C bm h) (hx : h.get? x = some o) (hc : o.cls = .ref C) (k : Q () ⟨h, g, d, t, os⟩) :
    wpAny (model prog w) A (checkBuiltinCall "BaseException.__getattribute__" ⟨[.ref x, nv], []⟩) Q E ⟨h, g, d, t, os⟩ := by
  have hk : builtinKind "BaseException.__getattribute__" = some .slot := by decide +kernel
  have hs : splitId "BaseException.__getattribute__" = some ("BaseException", "__getattribute__") := by decide +kernel
  obtain ⟨nm, q, N, bs, sn, sub, ab, col, dd, k0, k1, k2, k3, k5, hC⟩ := X.ex
  have cB : (Value.ref C :: bm).contains (.type "BaseException") = true := by rw [List.contains_cons, X.tl.hasType (X := "BaseException") (b := true) (by decide +kernel), Bool.or_true]
  have ha := F.args_bexc_ga (.ref x) nv
  simp only [checkBuiltinCall, hk, hs]
  refine wpAny_bind ?_
  unfold isInstance
  repeat (first | (with_reducible refine wpAny_loadPart_at hx ?_; rw [hc]) | (with_reducible refine wpAny_isSubtype_exc hC ?_; rw [cB]) | wp_step)
  exact k
theorem get_exc {x dx : Addr} {n : Str} {v : Value} {expr : Bool} {Q : Value → Shared → Prop} {mA : Str → Option Value} {o : Obj} (X : XC C bm h)
    (hga : PySem.W.Looks (model prog w) h (typeLookup (.ref C) "__getattribute__") (some (.builtin "BaseException.__getattribute__")))
    (hgn : PySem.W.Looks (model prog w) h (typeLookup (.ref C) "__getattr__") none) (hn : PySem.W.Looks (model prog w) h (typeLookup (.ref C) n) none)
    (hx : h.get? x = some o) (hc : o.cls = .ref C) (hd : o.dict = some dx) {vs : Array Value} (hdat : o.data = .fields vs) (ns : h.Ns dx mA) (hv : mA n = some v) (hh : PySem.W.handedIn v = true) (k : Q v ⟨h, g, d, t + 1, os⟩) :
    wpAny (model prog w) A (getAttr (.ref x) n expr) Q E ⟨h, g, d, t, os⟩ := by
  have f3 := F.excAttr_ValueError.ga.bind (.ref x)
  have x0 : (expr && onTheHeap (Value.builtin "BaseException.__getattribute__")) = false := by cases expr <;> rfl
  have x2 : (Value.builtin "BaseException.__getattribute__" == Value.builtin "object.__getattribute__") = false := by decide +kernel
  have x1 : (onTheHeap (Value.ref C) && Value.builtin "BaseException.__getattribute__" == Value.builtin "object.__getattribute__") = false := by rw [x2]; rfl
  unfold getAttr
  repeat (any_goals (first | assumption | (with_reducible refine wpAny_loadPart_at hx ?_; rw [hc]) | (with_reducible refine wpAny_bind (hga.here ?_)) | (with_reducible refine wpAny_bind (hgn.here ?_)) | (with_reducible refine hga.here ?_) | (with_reducible refine hgn.here ?_) | wp_step))
  refine codeAny_call_builtin F.excAttr_ValueError.ga.plain F.entry_bexc_ga (check_gx X hx hc ?_)
  repeat (any_goals (first | assumption | (with_reducible refine wpAny_loadPart_at hx ?_; rw [hc]) | (with_reducible refine wpAny_bind (hn.here ?_)) | (with_reducible refine hn.here ?_) | wp_step))
  obtain ⟨oc, od, odt, osl⟩ := o
  dsimp only at hc hd hdat
  subst hc hd hdat
  obtain ⟨nm, q, N, bs, sn, sub, ab, col, dd, k0, k1, k2, k3, k5, hC⟩ := X.ex
  dsimp only
  unfold Builtin.ObjectAttr.inDict
  repeat (any_goals (first | assumption | (with_reducible refine wpAny_loadPart_at hx ?_) | (with_reducible refine wpAny_nsGet ns ?_; rw [hv]) | (with_reducible refine wpAny_bind (wpAny_nsGet ns ?_); rw [hv]) | (rw [PySem.W.handedOut_of hh]) | wp_step))
  show wpAny _ A (handedOut v) Q E _
  rw [PySem.W.handedOut_of hh]
  exact wpAny_pure k
theorem init_excC {x tp : Addr} {dx : Option Addr} {rest : List Value} {R : Result → Shared → Prop} (X : XC C bm h) (hx : h.get? x = some (newX C tp dx)) (hz : rest.length ≤ sizeLine)
    (k : ∀ h' tp', h.objs.size ≤ tp' → h'.get? x = some (newX C tp' dx) → (∀ b o, b ≠ x → h.get? b = some o → h'.get? b = some o) → R (.ok (.ret .none)) ⟨h', g, d, t, os⟩) :
    codeAny (model prog w) A (.call (.builtin "ValueError.__init__") ⟨.ref x :: rest, []⟩) R ⟨h, g, d, t, os⟩ := by
  have FB := PySem.F.excBase_ValueError
  obtain ⟨nm, q, N, bs, sn, sub, ab, col, dd, k0, k1, k2, k3, k5, hC⟩ := X.ex
  refine codeAny_call_builtin FB.init.plain FB.initEntry (wpAny_check_init_subT FB X.tl hC hx rfl ?_)
  wp_walk
  have hx' := Heap.get?_push_of_some { cls := .type "tuple", data := .seq rest.toArray } hx
  exact k _ h.objs.size (Nat.le_refl _) (Heap.get?_update_self _ hx' rfl) fun b o n q => (Heap.get?_update_other _ _ n.symm).trans (Heap.get?_push_of_some _ q)
theorem init_exc {x tp : Addr} {dx : Option Addr} {rest : List Value} {Q : Value → Shared → Prop} (X : XC C bm h) (hx : h.get? x = some (newX C tp dx)) (hz : rest.length ≤ sizeLine)
    (k : ∀ h' tp', h'.get? x = some (newX C tp' dx) → (∀ b o, b ≠ x → h.get? b = some o → h'.get? b = some o) → Q .none ⟨h', g, d, t, os⟩) :
    wpAny (model prog w) A (call (.builtin "ValueError.__init__") (.ref x :: rest)) Q E ⟨h, g, d, t, os⟩ :=
  wpAny_call (init_excC X hx hz fun h' tp' _ => k h' tp')
theorem call_exc {rest : List Value} {Q : Value → Shared → Prop} (X : XC C bm h) (hi : PySem.W.Looks (model prog w) h (typeLookup (.ref C) "__init__") (some (.builtin "ValueError.__init__"))) (hz : rest.length ≤ sizeLine)
    (k : ∀ h' e tp, h.objs.size ≤ e → h'.get? e = some (newX C tp none) → (∀ b o, h.get? b = some o → h'.get? b = some o) → Q (.ref e) ⟨h', g, d, t, os⟩) : wpAny (model prog w) A (call (.ref C) rest) Q E ⟨h, g, d, t, os⟩ := by
  have e2 : (newXH h C rest).get? (h.objs.size + 1) = some (newX C h.objs.size none) := by heap_get
  have kp : ∀ b o, h.get? b = some o → (newXH h C rest).get? b = some o := fun b o e => Heap.get?_push_of_some _ (Heap.get?_push_of_some _ e)
  refine wpAny_call (make_exc X hi (fun self => .of_pure (PySem.F.excBase_ValueError.init.bind self)) hz (init_excC (X.keeps kp) e2 hz fun h' tp' _ q1 q2 => ⟨rfl, ?_⟩))
  exact k h' _ tp' (Nat.le_succ _) q1 fun b o q => q2 b o (Nat.ne_of_lt (Nat.lt_succ_of_lt (Heap.lt_size q))) (kp b o q)
end
end L2
set_option Elab.async false
set_option linter.all false
set_option maxRecDepth 100000
namespace L2
open PySem PySem.Spec PyProof.Rows
structure Lost (l : List Env) (H H' : Hp) (h B h' : Heap) : Prop where
  keep : ∀ b o, h.get? b = some o → H b = none → b ∉ frs l → B.get? b = some o
  slot : ∀ b o, h.get? b = some o → H b = none → b ∈ frs l → ∃ sl, h'.get? b = some { o with slots := sl }
  free : ∀ b o, h.get? b = some o → H b = none → H' b = none
  there : ∀ b o, h.get? b = some o → b ∉ frs l → ∃ o', B.get? b = some o'
  tups : ∀ b xs, H b = some (.tup xs) → H' b = some (.tup xs)
  frzs : ∀ b o u, H b = some (.frz o u) → H' b = some (.frz o u)
  tbls : ∀ b ps, H b = some (.tbl ps) → ∃ more, H' b = some (.tbl (ps ++ more))
def CXE (P : Program) (w : World) : CXT := fun outer H s E e s' => ∃ (ea C : Addr) (d : Option Addr) (B : Heap) (H' : Hp), e = .ref ea ∧ s'.os = s.os ∧ AllBare s'.gens ∧
  AtW B outer ea C d .none s'.heap ∧ Lost outer H H' s.heap B s'.heap ∧ HOk P w H' B ∧ H' ea = none ∧ E (.ref C) d H'
def XAl (X : Cx) (E : XK) (e : Value) (s' : Shared) : Prop := ∃ (ea C L : Addr) (d : Option Addr) (B : Heap) (H' : Hp), e = .ref ea ∧ X.A.frames = some (X.env :: X.outer) ∧ X.env.frame = some L ∧ s'.os = X.s_0.os ∧ AllBare s'.gens ∧
  Any B (X.env :: X.outer) ea C d L s'.heap ∧ Lost X.outer X.H_0 H' X.s_0.heap B s'.heap ∧ HOk X.prog X.w H' B ∧ H' ea = none ∧ E (.ref C) d H'
section
variable {l : List Env} {H H1 H' : Hp} {h h1 h' h2 B : Heap} {P : Program} {w : World} {E : XK} {X : Cx}
theorem Lost.slots (x : Lost l H H' h B h') (ff : h'.FunFrames B l) (u : h'.UpToSlots h2) : Lost l H H' h B h2 := by
  refine ⟨x.keep, fun b o q n m => ?_, x.free, x.there, x.tups, x.frzs, x.tbls⟩
  obtain ⟨sl, e⟩ := x.slot b o q n m
  obtain ⟨_, o', e', nf⟩ := ff.mem m
  rw [e] at e'
  cases e'
  obtain ⟨sl', e2⟩ := u b _ e nf
  exact ⟨sl', e2⟩
theorem Lost.from {env : Env} {outer : List Env} {h0 : Heap} {H0 : Hp} {L : Addr} (u : Un (frs outer) [] H0 H h0 h) (x : Lost (env :: outer) H H' h B h') (hf : env.frame = some L) (hL : h0.objs.size ≤ L) : Lost outer H0 H' h0 B h' := by
  have no : ∀ b : Addr, b ∉ ([] : List Addr) := fun b z => by cases z
  have sub : frs (env :: outer) = L :: frs outer := by simp [frs, List.filterMap_cons, hf]
  have ne : ∀ b o, h0.get? b = some o → b ≠ L := fun b o q => Nat.ne_of_lt (Nat.lt_of_lt_of_le (Heap.lt_size q) hL)
  refine ⟨fun b o q n m => ?_, fun b o q n m => ?_, fun b o q n => ?_, fun b o q m => ?_, fun b xs q => x.tups b xs (u.tups b xs q), fun b o v q => x.frzs b o v (u.frzs b o v q), fun b ps q => ?_⟩
  · refine x.keep b o (u.keep b o q n m (no b)) (u.free b o q n (no b)) ?_
    rw [sub]
    exact fun z => (List.mem_cons.mp z).elim (ne b o q) m
  · obtain ⟨sl, e⟩ := u.slot b o q n m (no b)
    obtain ⟨sl', e'⟩ := x.slot b _ e (u.free b o q n (no b)) (by rw [sub]; exact List.mem_cons_of_mem _ m)
    exact ⟨sl', e'⟩
  · obtain ⟨o', e⟩ := u.there b o q (no b)
    exact x.free b o' e (u.free b o q n (no b))
  · obtain ⟨o', e⟩ := u.there b o q (no b)
    exact x.there b o' e (by rw [sub]; exact fun z => (List.mem_cons.mp z).elim (ne b o q) m)
  · obtain ⟨m1, e1⟩ := u.tbls b ps q
    obtain ⟨m2, e2⟩ := x.tbls b _ e1
    exact ⟨m1 ++ m2, by rw [e2, Array.append_assoc]⟩
theorem Lost.un (x : Lost l H H' h B h') (st : B.StaysIn h') (ff : h'.FunFrames B l) : Un (frs l) [] H H' h h' := by
  refine ⟨fun b o q n m _ => st _ _ (x.keep b o q n m), fun b o q n m _ => x.slot b o q n m, fun b o q n _ => x.free b o q n, fun b o q _ => ?_, x.tups, x.frzs, x.tbls⟩
  by_cases m : b ∈ frs l
  · obtain ⟨_, o', e, _⟩ := ff.mem m
    exact ⟨o', e⟩
  · obtain ⟨o', e⟩ := x.there b o q m
    exact ⟨o', st _ _ e⟩
theorem pass_al (hs : X.stack = X.env :: X.outer) (hL : X.env.frame = some X.env.locals) (hex : X.ex = []) (hp : X.prog = P) (hw : X.w = w) : Passes (CXE P w) (X.wish (XAl X E)) E := by
  subst hp hw
  rintro pins σ H s e s' I ⟨ea, C, d, B, H', rfl, os, bare, a, x, hok, he, hE⟩
  have I' := I.unwish
  have st' : (X.wish (XAl X E)).stack = X.env :: X.outer := hs
  rw [st'] at a x
  refine ⟨ea, C, X.env.locals, d, B, H', rfl, hs ▸ I'.ok.frames, hL, os.trans I'.os, bare, ⟨a.st, a.ne, a.ff, ?_⟩, Lost.from (by have := I'.base; rw [hex] at this; exact this) x hL I'.ok.above, hok, he, hE⟩
  obtain ⟨vs, o, w⟩ := a.ob
  exact ⟨vs, o, .inr (.inl w)⟩
theorem own_al {M : Model} : PassesOwn M X.A X.env (XAl X E) := by
  rintro e s' ⟨ea, C, L, d, B, H', rfl, hfr, hf, os, bare, a, x, hok, he, hE⟩
  exact own_it hfr hf a fun h' a' u' => ⟨ea, C, L, d, B, H', rfl, hfr, hf, os, bare, a', x.slots a.tail.ff u', hok, he, hE⟩
theorem leave_al {M : Model} {e : Value} {s' : Shared} {Er : Value → Shared → Prop} (h : XAl X E e s') : wpAny M X.A (leaving X.env e) (fun _ s'' => CXE X.prog X.w X.outer X.H_0 X.s_0 E e s'') Er s' := by
  obtain ⟨ea, C, L, d, B, H', rfl, hfr, hf, os, bare, a, x, hok, he, hE⟩ := h
  exact leaves_it hfr hf a fun h' a' u' => ⟨ea, C, d, B, H', rfl, os, bare, a', x.slots a.tail.ff u', hok, he, hE⟩
end
abbrev cxE (P : Program) (w : World) (K : PySem.W.Frag) (mg : Str → Option Value) (base : Heap) (N : List Str) (qual : Str) (scope : Scope) (f : Addr) (cd : Value) (A : Around) (outer : List Env) (s : Shared) (H : Hp) (E : XK) : Cx :=
  (cxOf (CXE P w) P w K mg base N qual scope f cd A outer s H E).wish (XAl (cxOf (CXE P w) P w K mg base N qual scope f cd A outer s H E) E)
section
variable {P : Program} {w : World} {K : PySem.W.Frag} {mg : Str → Option Value} {base : Heap}
theorem PSs.wished {X : Cx} {E1 : Value → Shared → Prop} {st : List Stmt} {t : TS} (h : PSs (X.wish E1) st t) (k : ∀ e s, E1 e s → X.xe e s) : PSs X st t := fun pins s σ H D I hw =>
  wpAny_mono (h pins s σ H D (I.wish _) hw) (fun _ _ q => q.unwish) k
theorem Fun.okE {x qual : Str} {st : Stmt} {f : Addr} {fd : FuncData} {N ps : List Str} {k : Nat} {sp : Sp} (F : Fun K x qual st f fd) (S : FnScope N ps (defScope st)) (len : ∀ vs H Q E, sp vs H Q E → vs.length = ps.length)
    (hbody : ∀ (cdv : Value) (A : Around) (outer : List Env) (s : Shared) (H : Hp) (vs : List V) (Q : VK) (E : XK), Room k (A.deeper (envOfC qual (defScope st) s.heap.objs.size f cdv)) → sp vs H Q E →
      ∃ t, PSs (cxE P w K mg base N qual (defScope st) f cdv A outer s H E) (defBody st) t ∧ t { nx := fun _ H' => Q .non H', rt := Q } (start N vs) H) : FnOk P w K mg base (CXE P w) (k + 1) f fd ps sp := by
  obtain ⟨oc, od, kV, doc, pm, an, cdv, ct, osl, rfl, lk, hcd⟩ := F.ex
  refine fn_of lk hcd S len fun A outer s H vs Q E hr hsp => ?_
  obtain ⟨t, h, q⟩ := hbody cdv A outer s H vs Q E hr hsp
  exact ⟨t, h.wished fun e s' z => leave_al z, q⟩
theorem passE {N : List Str} {qual : Str} {scope : Scope} {f : Addr} {cd : Value} {A : Around} {outer : List Env} {s : Shared} {H : Hp} {E : XK} : Passes (CXE P w) (cxE P w K mg base N qual scope f cd A outer s H E) E :=
  pass_al rfl rfl rfl rfl rfl
theorem ownE {M : Model} {N : List Str} {qual : Str} {scope : Scope} {f : Addr} {cd : Value} {A : Around} {outer : List Env} {s : Shared} {H : Hp} {E : XK} :
    PassesOwn M (cxE P w K mg base N qual scope f cd A outer s H E).A (cxE P w K mg base N qual scope f cd A outer s H E).env (cxE P w K mg base N qual scope f cd A outer s H E).xe := own_al
def FnE (P : Program) (w : World) (K : PySem.W.Frag) (mg : Str → Option Value) (base : Heap) (k : Nat) (x : Str) (ps : List Str) (sp : Sp) : Prop :=
  ∃ f fd, FnOk P w K mg base (CXE P w) k f fd ps sp ∧ mg x = some (.ref f) ∧ PySem.W.keepIn K (.ref f) = true ∧ Binds K fd ps []
theorem FnE.mono {j k : Nat} {x : Str} {ps : List Str} {sp : Sp} (C : FnE P w K mg base j x ps sp) (h : j ≤ k) : FnE P w K mg base k x ps sp := by
  obtain ⟨f, fd, F, r⟩ := C
  exact ⟨f, fd, F.mono h, r⟩
def tCallE (sp : Sp) (E : XK) (t : TA) : TE := fun σ H Q => t σ H fun vs H1 => sp vs H1 Q E
theorem pe_callE {X : Cx} {k : Nat} {ps : List Str} {sp : Sp} {x : Str} {p pos : Pos} {e : Expr} {es : List Expr} {t : TA} {E : XK} (C : FnE X.prog X.w X.K X.mg X.base k x ps sp) (hr : Room k X.A) (hg : Gl X x) (ha : PA X (e :: es) t) (hx : Passes (CXE X.prog X.w) X E)
    (hdb : (x == ("__debug__" : Str)) = false := by decide) (he : starEach (e :: es) X.env = (false, eval e X.env) :: starEach es X.env := by rfl) (hpl : (backTo pos (starEach es X.env)).any (·.1) = false := by rfl) :
    PE X (.Call (.Name x p) (e :: es) [] pos) (tCallE sp E t) := by
  obtain ⟨f, fd, F, hm, hk, hb⟩ := C
  intro pins s σ H Q I h
  refine pe_call (p := p) (dvs := []) F hr hg hm hk hb .nil hx ha hdb he hpl pins s σ H Q I ?_
  unfold tCall
  simp only [List.append_nil]
  exact h
theorem go_callE {sp : Sp} {E : XK} {tA : TA} {σ : St} {H : Hp} {Q : VK} (h : tA σ H fun vs H1 => sp vs H1 Q E) : tCallE sp E tA σ H Q := h
end
end L2
set_option Elab.async false
set_option linter.all false
set_option maxRecDepth 100000
namespace L2
open PySem PySem.Spec PyProof.Rows
def XO (x C : Addr) (d : Option Addr) : HO := .ext fun h => ∃ tp, h.get? x = some (newX C tp d)
def XD (x C : Addr) (d : Option Addr) : HO := .ext fun h => ∃ o vs, h.get? x = some o ∧ o.cls = .ref C ∧ o.dict = d ∧ o.data = .fields vs
def del (H : Hp) (x : Addr) : Hp := fun b => if b = x then none else H b
theorem del_same {H : Hp} {x : Addr} : del H x x = none := by unfold del; rw [if_pos rfl]
theorem del_ne {H : Hp} {x b : Addr} (n : b ≠ x) : del H x b = H b := by unfold del; rw [if_neg n]
section
variable {P : Program} {w : World} {H H' : Hp} {h h' B : Heap} {x C a : Addr} {d : Option Addr} {o : HO}
theorem ObjOk.there (q : ObjOk P w H h a o) : ∃ ob, h.get? a = some ob := by
  induction o with
  | lst xs => obtain ⟨_, _, _, _, e⟩ := q; exact ⟨_, e⟩
  | tup xs => obtain ⟨_, _, _, ob, e, _⟩ := q; exact ⟨_, e⟩
  | dK kvs => obtain ⟨_, _, _, _, o, _, _, e, _⟩ := q; exact ⟨_, e⟩
  | dT kvs => obtain ⟨_, _, _, _, o, _, _, e, _⟩ := q; exact ⟨_, e⟩
  | set S n => obtain ⟨o, _, _, _, e, _⟩ := q; exact ⟨_, e⟩
  | ins C dx fs => obtain ⟨_, _, _, e, _⟩ := q; exact ⟨_, e⟩
  | own y => exact q
  | xd fs => obtain ⟨_, ⟨_, _, _, e, _⟩, _⟩ := q; exact ⟨_, e⟩
  | rng lo hi => obtain ⟨_, _, _, e⟩ := q; exact ⟨_, e⟩
  | frz ob u => obtain ⟨e, _⟩ := q; exact ⟨_, e⟩
  | tbl ps => exact ⟨_, (show h.get? a = some _ from q)⟩
  | met f y => exact ⟨_, (show h.get? a = some _ from q)⟩
  | ext φ => exact q.2.1
theorem xo_mk {tp : Addr} (e : h.get? x = some (newX C tp d)) : ObjOk P w H h x (XO x C d) := ⟨⟨tp, e⟩, ⟨_, e⟩, fun _ _ ⟨tp, e⟩ k => ⟨tp, k _ e⟩⟩
theorem xo_get (q : HOk P w H h) (e : H x = some (XO x C d)) : ∃ tp, h.get? x = some (newX C tp d) := (q x _ e).1
theorem xd_mk {o : Obj} {vs : Array Value} (e : h.get? x = some o) (h1 : o.cls = .ref C) (h2 : o.dict = d) (h3 : o.data = .fields vs) : ObjOk P w H h x (XD x C d) :=
  ⟨⟨o, vs, e, h1, h2, h3⟩, ⟨_, e⟩, fun _ _ ⟨o, vs, e, r⟩ k => ⟨o, vs, k _ e, r⟩⟩
theorem xd_get (q : HOk P w H h) (e : H x = some (XD x C d)) : ∃ o vs, h.get? x = some o ∧ o.cls = .ref C ∧ o.dict = d ∧ o.data = .fields vs := (q x _ e).1
def Soft (H : Hp) (e : Addr) : Prop := H e = none ∨ ∃ φ, H e = some (.ext φ)
theorem Soft.ne {e b : Addr} {u : HO} (s : Soft H e) (q : H b = some u) (n : ∀ φ, u ≠ .ext φ) : b ≠ e := by
  rintro rfl
  rcases s with z | ⟨φ, z⟩
  · rw [z] at q; cases q
  · rw [z] at q; cases q; exact n _ rfl
theorem HOk.hidden {e : Addr} {l : List Addr} (q : HOk P w H h) (s : Soft H e) (n : ∀ b ∈ l, H b = none) (he : H' e = none) (hn : ∀ b, b ≠ e → H' b = H b) : HOk P w H' (PySem.W.hideAll h (e :: l)) := fun a o z => by
  have ae : a ≠ e := fun r => by rw [r, he] at z; cases z
  rw [hn a ae] at z
  refine (q a o z).stay (fun b u r g => PySem.W.hideAll_get _ g fun m => ?_) (fun b r => ?_) fun b xs r => ?_
  · have nb : H b ≠ none := by
      rcases r with rfl | r
      · rw [z]; simp
      · rw [r]; simp
    rcases List.mem_cons.mp m with rfl | m
    · rcases r with rfl | r
      · exact ae rfl
      · exact s.ne r (by intro φ; simp) rfl
    · exact nb (n b m)
  · rw [hn b (s.ne r (by intro φ; simp))]; exact r
  · rw [hn b (s.ne r (by intro φ; simp))]; exact r
end
theorem al_of {X : Cx} {E : XK} {pins : List (Addr × Obj)} {σ : St} {H H' : Hp} {s s' : Shared} {e C : Addr} {d : Option Addr} {vs : Array Value} (I : Inv X pins σ H s) (hs : X.stack = X.env :: X.outer) (hL : X.env.frame = some X.env.locals) (hex : X.ex = [])
    (hsz : X.s_0.heap.objs.size ≤ e) (hfe : ∀ b ∈ frs (X.env :: X.outer), b ≠ e) (so : Soft H e) (hk : ∀ b o, b ≠ e → s.heap.get? b = some o → s'.heap.get? b = some o) (he : H' e = none) (hn : ∀ b, b ≠ e → H' b = H b) (ho : s'.os = s.os) (hg : s'.gens = s.gens)
    (o : XObj e C d vs s'.heap) (fr : vs[1]? = some .none) (hE : E (.ref C) d H') : XAl X E (.ref e) s' := by
  have no : ∀ b : Addr, b ∉ X.ex := fun b z => by rw [hex] at z; cases z
  have sub : frs (X.env :: X.outer) = X.env.locals :: frs X.outer := by simp [frs, List.filterMap_cons, hL]
  have fre : ∀ b ∈ frs (X.env :: X.outer), H b = none := hs ▸ I.stkFree
  have ne : ∀ b o, X.s_0.heap.get? b = some o → b ≠ X.env.locals := fun b o q => Nat.ne_of_lt (Nat.lt_of_lt_of_le (Heap.lt_size q) I.ok.above)
  have nee : ∀ b o, X.s_0.heap.get? b = some o → b ≠ e := fun b o q => Nat.ne_of_lt (Nat.lt_of_lt_of_le (Heap.lt_size q) hsz)
  have ff : s.heap.FunFrames X.base (X.env :: X.outer) := hs ▸ I.stack
  have out : ∀ b, b ∉ frs X.outer → b ≠ X.env.locals → b ≠ e → b ∉ e :: frs (X.env :: X.outer) := fun b h1 h2 h3 z => by
    rw [sub] at z
    rcases List.mem_cons.mp z with z | z
    · exact h3 z
    · rcases List.mem_cons.mp z with z | z
      · exact h2 z
      · exact h1 z
  refine ⟨e, C, X.env.locals, d, PySem.W.hideAll s.heap (e :: frs (X.env :: X.outer)), H', rfl, hs ▸ I.ok.frames, hL, ho.trans I.os, by rw [hg]; exact I.bare, ⟨fun b u q => ?_, PySem.W.hideAll_none _ List.mem_cons_self, ?_, vs, o, .inl fr⟩, ⟨fun b u q n m => ?_, fun b u q n m => ?_, fun b u q n => ?_, fun b u q m => ?_, fun b xs q => ?_, fun b u v q => ?_, fun b ps q => ?_⟩, I.hok.hidden so fre he hn, he, hE⟩
  · refine hk b u (fun z => ?_) (PySem.W.of_hideAll _ q)
    rw [z, PySem.W.hideAll_none _ List.mem_cons_self] at q
    cases q
  · have go : ∀ l : List Env, s.heap.FunFrames X.base l → (∀ b ∈ frs l, b ∈ frs (X.env :: X.outer)) → s'.heap.FunFrames (PySem.W.hideAll s.heap (e :: frs (X.env :: X.outer))) l := by
      intro l
      induction l with
      | nil => exact fun _ _ => trivial
      | cons v l ih =>
        rintro ⟨k1, ⟨L, ob, k2, k3, k4, k5⟩, k6⟩ hm
        have hmem : L ∈ frs (v :: l) := List.mem_filterMap.mpr ⟨v, List.mem_cons_self, k2⟩
        have Lne : L ≠ e := hfe L (hm L hmem)
        exact ⟨k1, ⟨L, ob, k2, PySem.W.hideAll_none _ (List.mem_cons_of_mem _ (hm L hmem)), hk L ob Lne k4, k5⟩, ih k6 fun b hb => hm b (by
          obtain ⟨v', h1, h2⟩ := List.mem_filterMap.mp hb
          exact List.mem_filterMap.mpr ⟨v', List.mem_cons_of_mem _ h1, h2⟩)⟩
    exact go _ ff fun _ z => z
  · exact PySem.W.hideAll_get _ (I.base.keep b u q n m (no b)) (out b m (ne b u q) (nee b u q))
  · obtain ⟨sl, z⟩ := I.base.slot b u q n m (no b)
    exact ⟨sl, hk b _ (nee b u q) z⟩
  · rw [hn b (nee b u q)]
    exact I.base.free b u q n (no b)
  · obtain ⟨u', z⟩ := I.base.there b u q (no b)
    exact ⟨u', PySem.W.hideAll_get _ z (out b m (ne b u q) (nee b u q))⟩
  · have z := I.base.tups b xs q
    rw [hn b (so.ne z (by intro φ; simp))]
    exact z
  · have z := I.base.frzs b u v q
    rw [hn b (so.ne z (by intro φ; simp))]
    exact z
  · obtain ⟨m, z⟩ := I.base.tbls b ps q
    exact ⟨m, by rw [hn b (so.ne z (by intro φ; simp))]; exact z⟩
structure XM0 (K : PySem.W.Frag) (mg : Str → Option Value) (x : Str) (C : Addr) (bm : List Value) : Prop where
  c : xcIn K C bm = true
  b : mg x = some (.ref C)
  k : PySem.W.keepIn K (.ref C) = true
  n : PySem.W.findIn K (.ref C) "__init__" = some (some (.builtin "ValueError.__init__"))
def XMk (P : Program) (w : World) (K : PySem.W.Frag) (mg : Str → Option Value) (base : Heap) (k : Nat) (x : Str) (C : Addr) (bm : List Value) (ps : List Str) (sp : Sp) : Prop :=
  ∃ f fd, xcIn K C bm = true ∧ mg x = some (.ref C) ∧ PySem.W.keepIn K (.ref C) = true ∧ PySem.W.findIn K (.ref C) "__init__" = some (some (.ref f)) ∧ PySem.W.isFn K (.ref f) = true ∧ FnOk P w K mg base CX0 k f fd ps sp ∧ Binds K fd ps []
def tRaiseX (C : Addr) (sp : Sp) (E : XK) (t : TA) : TS := fun _ σ H => t σ H fun vs H1 => vs.length ≤ sizeLine ∧ ∀ x, H1 x = none → sp (.ref x :: vs) (upd H1 x (XO x C none)) (fun v H2 => v = .non ∧ ∃ d, H2 x = some (XO x C d) ∧ E (.ref C) d (del H2 x)) E0
def tRaise0 (C : Addr) (E : XK) (t : TA) : TS := fun _ σ H => t σ H fun vs H1 => vs.length ≤ sizeLine ∧ E (.ref C) none H1
theorem made_exc {X : Cx} {k : Nat} {x : Str} {C : Addr} {bm : List Value} {ps : List Str} {sp : Sp} {pins : List (Addr × Obj)} {σ : St} {H : Hp} {s : Shared} {us : List Value} {vs : List V} {Q : Value → Shared → Prop} {Qx : Addr → VK} (M : XMk X.prog X.w X.K X.mg X.base k x C bm ps sp) (hr : Room (k + 1) X.A)
    (I : Inv X pins σ H s) (r : Vals vs us) (hz : vs.length ≤ sizeLine) (h : ∀ y, H y = none → sp (.ref y :: vs) (upd H y (XO y C none)) (Qx y) E0)
    (hq : ∀ y v H2 s2, s.heap.objs.size ≤ y → Inv X pins σ H2 s2 → Qx y v H2 → v = .non ∧ Q (.ref y) s2) : wpAny (model X.prog X.w) X.A (call (.ref C) us) Q X.xe s := by
  obtain ⟨f, fd, xc, hm, hk, hi, hfn, F, hb⟩ := M
  obtain ⟨hp, g, d, t, os⟩ := s
  have XX : XC C bm hp := XC.of_in I.kIn xc
  have e2 : (newXH hp C us).get? (hp.objs.size + 1) = some (newX C hp.objs.size none) := by heap_get
  have I1 := I.kept (h' := hp.push { cls := .type "tuple", data := .seq us.toArray }) (t' := t) fun b u q => Heap.get?_push_of_some _ q
  have I2 : Inv X pins σ (upd H (hp.objs.size + 1) (XO (hp.objs.size + 1) C none)) ⟨newXH hp C us, g, d, t, os⟩ :=
    I1.laid (a := hp.objs.size + 1) (o := XO (hp.objs.size + 1) C none) (t' := t) (fun b u q => Heap.get?_push_of_some _ q) (Nat.le_of_eq (Heap.size_push _ _)) (xo_mk e2)
  have hs := h (hp.objs.size + 1) (I.hok.fresh (Nat.le_succ _))
  have r2 : Vals (V.ref (hp.objs.size + 1) :: vs) (Value.ref (hp.objs.size + 1) :: us) := .cons rfl r
  have hl : (Value.ref (hp.objs.size + 1) :: us).length = ps.length := by rw [← r2.length]; exact F.len _ _ _ _ hs
  have hb' := hb ⟨newXH hp C us, g, d, t, os⟩ (Value.ref (hp.objs.size + 1) :: us) I2.kIn (by rw [List.append_nil]; exact hl)
  rw [List.append_nil] at hb'
  refine wpAny_call (make_exc XX (PySem.W.looks_findIn I.kIn hi) (fun self => PySem.W.bind_fn I.kIn self (beq_iff_eq.mp hfn)) (by rw [← r.length]; exact hz)
    (codeAny_mono (F.run _ X.stack _ _ ⟨Value.ref (hp.objs.size + 1) :: us, []⟩ _ _ _ E0 (hr.make C us []) (I2.env0.make C us []) hb' r2 hs) fun q s' hq' => ?_))
  cases q with
  | error e => exact hq'.elim
  | ok fl =>
    cases fl with
    | ret u =>
      obtain ⟨v, H', I3, rv, q3⟩ := I2.after hq'
      obtain ⟨ev, q4⟩ := hq _ v H' s' (Nat.le_succ _) I3 q3
      subst ev
      exact ⟨rv, q4⟩
    | next => exact hq'.elim
    | brk => exact hq'.elim
    | cont => exact hq'.elim
section
variable {X : Cx} {E : XK} {k : Nat} {x : Str} {C : Addr} {bm : List Value} {ps : List Str} {sp : Sp} {np cpos pos : Pos} {e : Expr} {es : List Expr} {t : TA}
theorem ps_raiseX (M : XMk X.prog X.w X.K X.mg X.base k x C bm ps sp) (hr : Room (k + 1) X.A) (hs : X.stack = X.env :: X.outer) (hL : X.env.frame = some X.env.locals) (hex : X.ex = []) (hxe : X.xe = XAl X E) (hg : Gl X x) (ha : PA X (e :: es) t)
    (hdb : (x == ("__debug__" : Str)) = false := by decide) (he : starEach (e :: es) X.env = (false, eval e X.env) :: starEach es X.env := by rfl) (hpl : (backTo cpos (starEach es X.env)).any (·.1) = false := by rfl) :
    PS X (.Raise (some (.Call (.Name x np) (e :: es) [] cpos)) none pos) (tRaiseX C sp E t) := by
  intro pins s σ H D I h
  have M' := M
  obtain ⟨f, fd, xc, hm, hk, _⟩ := M'
  rw [arm_exec_Raise]
  refine wpAny_bind (wpAny_standAt ?_)
  simp only [evalOpt, Option.map]
  refine raise_made (C := C) (bm := bm) hr.hd (wpAny_bind (wpAny_mono (wpAny_Call_Name_kw (Q := fun v s₁ => ∃ y H2 d, v = .ref y ∧ X.s_0.heap.objs.size ≤ y ∧ Inv X pins σ H2 s₁ ∧ H2 y = some (XO y C d) ∧ E (.ref C) d (del H2 y)) (ld_glob I hg hm ?_ hdb)) (fun v s3 q => ?_) fun _ _ z => z))
  · refine PySem.W.callWith_K (h₀ := X.base) I.ok.mod.kin hk (thn (ha cpos pins s σ H _ I h) fun us s1 ⟨vs, H1, I1, r, q1, q2⟩ => ⟨I1.kIn, ?_⟩) he hpl
    refine made_exc M hr I1 r q1 q2 fun y v H2 s2 hy I2 ⟨ev, d, q3, q4⟩ => ⟨ev, y, H2, d, rfl, ?_, I2, q3, q4⟩
    exact Nat.le_trans I1.sz hy
  · obtain ⟨y, H2, d, rfl, hy, I2, q3, q4⟩ := q
    refine wpAny_bind (wpAny_standAt (wpAny_pure ?_))
    obtain ⟨tp, hx⟩ := xo_get I2.hok q3
    refine ⟨y, _, _, rfl, XC.of_in I2.kIn xc, hx, rfl, rfl, rfl, ?_⟩
    rw [hxe]
    exact al_of I2 hs hL hex hy (fun b hb z => by have := I2.stkFree b (by rw [hs]; exact hb); rw [z, q3] at this; cases this) (.inr ⟨_, q3⟩) (fun b o _ z => z) del_same (fun b n => del_ne n) rfl rfl ⟨⟨_, hx, rfl, rfl, rfl⟩, Nat.le_of_ble_eq_true rfl⟩ rfl q4
theorem ps_raise0 (M : XM0 X.K X.mg x C bm) (hr : Room 1 X.A) (hs : X.stack = X.env :: X.outer) (hL : X.env.frame = some X.env.locals) (hex : X.ex = []) (hxe : X.xe = XAl X E) (hg : Gl X x) (ha : PA X (e :: es) t)
    (hdb : (x == ("__debug__" : Str)) = false := by decide) (he : starEach (e :: es) X.env = (false, eval e X.env) :: starEach es X.env := by rfl) (hpl : (backTo cpos (starEach es X.env)).any (·.1) = false := by rfl) :
    PS X (.Raise (some (.Call (.Name x np) (e :: es) [] cpos)) none pos) (tRaise0 C E t) := by
  intro pins s σ H D I h
  rw [arm_exec_Raise]
  refine wpAny_bind (wpAny_standAt ?_)
  simp only [evalOpt, Option.map]
  refine raise_made (C := C) (bm := bm) hr.hd (wpAny_bind (wpAny_mono (wpAny_Call_Name_kw (Q := fun v s₁ => ∃ y tp H2 s0, v = .ref y ∧ Inv X pins σ H2 s0 ∧ s0.heap.objs.size ≤ y ∧ s₁.heap.get? y = some (newX C tp none) ∧ (∀ b o, s0.heap.get? b = some o → s₁.heap.get? b = some o) ∧ s₁.os = s0.os ∧ s₁.gens = s0.gens ∧ E (.ref C) none H2) (ld_glob I hg M.b ?_ hdb)) (fun v s3 q => ?_) fun _ _ z => z))
  · refine PySem.W.callWith_K (h₀ := X.base) I.ok.mod.kin M.k (thn (ha cpos pins s σ H _ I h) fun us s1 ⟨vs, H1, I1, r, q1, q2⟩ => ⟨I1.kIn, ?_⟩) he hpl
    obtain ⟨hp, g, d, t', os⟩ := s1
    exact call_exc (XC.of_in I1.kIn M.c) (PySem.W.looks_findIn I1.kIn M.n) (by rw [List.nil_append, ← r.length]; exact q1) fun h' y tp hy hx hk => ⟨y, tp, H1, ⟨hp, g, d, t', os⟩, rfl, I1, hy, hx, hk, rfl, rfl, q2⟩
  · obtain ⟨y, tp, H2, s0, rfl, I2, hy, hx, hk, ho, hgn, q4⟩ := q
    refine wpAny_bind (wpAny_standAt (wpAny_pure ?_))
    refine ⟨y, _, _, rfl, (XC.of_in I2.kIn M.c).keeps hk, hx, rfl, rfl, rfl, ?_⟩
    rw [hxe]
    have hn : H2 y = none := I2.hok.fresh hy
    refine al_of I2 hs hL hex (Nat.le_trans I2.sz hy) (fun b hb z => ?_) (.inl hn) (fun b o _ z => hk b o z) hn (fun b n => rfl) ho hgn ⟨⟨_, hx, rfl, rfl, rfl⟩, Nat.le_of_ble_eq_true rfl⟩ rfl q4
    have ff := I2.stack
    rw [hs] at ff
    obtain ⟨_, o, z', _⟩ := ff.mem hb
    exact absurd (Heap.lt_size z') (by rw [z]; exact Nat.not_lt.mpr hy)
end
end L2
set_option Elab.async false
set_option linter.all false
set_option maxRecDepth 100000
namespace L2
open PySem PySem.Spec PyProof.Rows
def PX (X : Cx) (e : Expr) (t : St → Hp → VK → XK → Prop) : Prop :=
  ∀ (pins : List (Addr × Obj)) (s : Shared) (σ : St) (H : Hp) (Q : VK) (E : XK), Inv X pins σ H s → t σ H Q E → wpAny (model X.prog X.w) X.A (eval e X.env) (EP X pins σ Q) (fun x s' => ∃ H1 s1, Inv X pins σ H1 s1 ∧ CXE X.prog X.w X.stack H1 s1 E x s') s
abbrev Cx.within (X : Cx) (ea : Addr) : Cx := { X with A := X.A.mark (some (.ref ea)), calm := false, xe := fun _ _ => False }
theorem Cx.Ok.within {X : Cx} (ok : X.Ok) (ea : Addr) : (X.within ea).Ok :=
  ⟨ok.mod, ok.kind, ok.glob, ok.blt, ok.above, ok.inj, ok.has, ok.cab, (fun z => by cases z), ok.frames, ok.stk, ok.exf, ok.bs, ok.bsz, ok.noex, ok.exfs, ok.funs, ok.frf⟩
section
variable {X : Cx} {pins : List (Addr × Obj)} {σ : St} {H : Hp} {s : Shared} {ea : Addr}
theorem Inv.within (I : Inv X pins σ H s) (ea : Addr) : Inv (X.within ea) pins σ H s := ⟨I.ok.within ea, I.os, I.bare, I.base, I.loc, I.cell, I.free, I.freeC, I.pin, I.hok, I.len⟩
theorem Inv.back (ok : X.Ok) (I : Inv (X.within ea) pins σ H s) : Inv X pins σ H s := ⟨ok, I.os, I.bare, I.base, I.loc, I.cell, I.free, I.freeC, I.pin, I.hok, I.len⟩
theorem unbind_ok {M : Model} {A : Around} {E : Value → Shared → Prop} {j : Nat} {n : Str} {pos : Pos} {Q : Unit → Shared → Prop} (I : Inv X pins σ H s) (hN : X.N.Nodup) (hj : X.N[j]? = some n) (hl : X.env.scope.names.lookup n = some .local)
    (k : ∀ s', Inv X pins (σ.set j none) H s' → Q () s') : wpAny M A (do bindName X.env n .none; unbindBehindTheSuite X.env n pos) Q E s := by
  refine wpAny_bind (wpAny_bindName (store_ok (v := .non) I hN hj (.inl hl) rfl (fun s1 I1 => ?_) (.inr hl)))
  have hjσ : j < σ.length := by rw [I.len]; exact (List.getElem?_eq_some_iff.mp hj).1
  obtain ⟨m, hn, hv⟩ := id I1.loc
  obtain ⟨u, ru, lk⟩ := hv j n .non hj (by rw [List.getElem?_set_self hjσ]) (.inl hl)
  have hm : m n = some u := by
    rcases lk with ⟨_, e⟩ | ⟨k, _⟩
    · exact e
    · have hl' : X.env.kindOf n = some .local := hl
      rw [hl'] at k
      rcases k with k | k <;> cases k
  have cne := I1.cne
  unfold unbindBehindTheSuite
  refine wpAny_onRaise (wpAny_unbindName_local hl hn hm (by rw [I.ok.kind]; rfl) fun h' u' hn' hs => ?_)
  obtain ⟨oL, _, _, hoL, _⟩ := id hn
  refine k _ ⟨I1.ok, I1.os, I1.bare, ⟨fun b o e n hb hx => ?_, fun b o e n hb hx => ?_, I1.base.free, fun b o e hx => ?_, I1.base.tups, I1.base.frzs, I1.base.tbls⟩, ⟨_, hn', fun i y v' e1 e2 e3 => ?_⟩, fun y c e => ?_, I1.free, I1.freeC, fun p hp => ?_, fun b ob e => ?_, by rw [List.length_set]; exact I.len⟩
  · exact (hs.2 b (Nat.ne_of_lt (Nat.lt_of_lt_of_le (Heap.lt_size e) I.ok.above))).trans (I1.base.keep b o e n hb hx)
  · obtain ⟨sl, e1⟩ := I1.base.slot b o e n hb hx
    exact ⟨sl, (hs.2 b (Nat.ne_of_lt (Nat.lt_of_lt_of_le (Heap.lt_size e) I.ok.above))).trans e1⟩
  · obtain ⟨o', e1⟩ := I1.base.there b o e hx
    exact ⟨o', (hs.2 b (Nat.ne_of_lt (Nat.lt_of_lt_of_le (Heap.lt_size e) I.ok.above))).trans e1⟩
  · by_cases hi : i = j
    · subst hi
      rw [List.getElem?_set_self hjσ] at e2
      cases e2
    · rw [List.getElem?_set_ne (Ne.symm hi)] at e2
      obtain ⟨u', r', q⟩ := hv i y v' e1 (by rw [List.getElem?_set_ne (Ne.symm hi)]; exact e2) e3
      refine ⟨u', r', ?_⟩
      rcases q with ⟨k, e⟩ | ⟨k, c, e, z⟩
      · have ny : y ≠ n := fun e => hi (nodup_ix hN e1 (e ▸ hj))
        exact .inl ⟨k, by show (if y = n then _ else m y) = _; rw [if_neg ny]; exact e⟩
      · exact .inr ⟨k, c, e, z.sameBut hs (cne y c e)⟩
  · obtain ⟨w', z⟩ := I1.cell y c e
    exact ⟨w', z.sameBut hs (cne y c e)⟩
  · obtain ⟨e, n, ne, nf, d⟩ := I1.pin p hp
    exact ⟨(hs.2 p.1 ne).trans e, n, ne, nf, d⟩
  · refine (I1.hok b ob e).stay (fun c w' hc q => (hs.2 c ?_).trans q) (fun _ q => q) fun _ _ q => q
    rintro rfl
    rcases hc with rfl | hc
    · rw [I1.free] at e; cases e
    · rw [I1.free] at hc; cases hc
theorem Inv.caught {C : Addr} {d : Option Addr} {B : Heap} {H' : Hp} {s' : Shared} {h2 : Heap} {x : Value} (I : Inv X pins σ H s) (ho : s'.os = s.os) (hg : AllBare s'.gens) (lo : Lost X.stack H H' s.heap B h2) (hok : HOk X.prog X.w H' B) (hn : H' ea = none)
    (a : AtW B X.stack ea C d x h2) : Inv X pins σ (upd H' ea (XD ea C d)) { s' with heap := h2 } := by
  have J : Inv X pins σ H' { s' with heap := h2 } := I.call' ho (lo.un a.st a.ff) (hok.kept a.st) hg fun b z => by cases z
  obtain ⟨vs, ⟨⟨o, e1, e2, e3, e4⟩, _⟩, _⟩ := a.ob
  have hex : ea ∉ ([] : List Addr) := fun z => by cases z
  have new : ObjOk X.prog X.w (upd H' ea (XD ea C d)) h2 ea (XD ea C d) := xd_mk e1 e2 e3 e4
  have nk : ∀ b u, H' b = some u → b ≠ ea := fun b u q z => by rw [z, hn] at q; cases q
  have ok2 : HOk X.prog X.w (upd H' ea (XD ea C d)) h2 := fun b u q => by
    by_cases hb : b = ea
    · subst hb
      rw [upd_same] at q
      cases q
      exact new
    · rw [upd_ne hb] at q
      exact (J.hok b u q).stay (fun c v _ r => r) (fun c r => by rw [upd_ne (nk _ _ r)]; exact r) fun c xs r => by rw [upd_ne (nk _ _ r)]; exact r
  have fr : ∀ b o, s.heap.get? b = some o → H b = none → b ≠ ea := fun b o q n z => by
    subst z
    by_cases m : b ∈ frs X.stack
    · obtain ⟨_, o', e', nf⟩ := a.ff.mem m
      rw [e1] at e'
      cases e'
      exact nf _ e4
    · have := lo.keep b o q n m
      rw [a.ne] at this
      cases this
  have un : Un (frs X.stack) [] H (upd H' ea (XD ea C d)) s.heap h2 := by
    have u := lo.un a.st a.ff
    exact ⟨u.keep, u.slot, fun b o q n m => by rw [upd_ne (fr b o q n)]; exact u.free b o q n m, u.there, fun b xs q => by rw [upd_ne (nk _ _ (u.tups b xs q))]; exact u.tups b xs q, fun b o v q => by rw [upd_ne (nk _ _ (u.frzs b o v q))]; exact u.frzs b o v q,
      fun b ps q => by
        obtain ⟨m, z⟩ := u.tbls b ps q
        exact ⟨m, by rw [upd_ne (nk _ _ z)]; exact z⟩⟩
  exact I.call' ho un ok2 hg fun b z => by cases z
end
theorem matches_exc {P : Program} {w : World} {A : Around} {E : Value → Shared → Prop} {s : Shared} {ea C W : Addr} {bm bW : List Value} {o : Obj} {Q : Bool → Shared → Prop} (XE : XC C bm s.heap) (XW : XC W bW s.heap) (he : s.heap.get? ea = some o) (hc : o.cls = .ref C)
    (hb : (Value.ref C :: bm).contains (.ref W) = true) (k : Q true s) : wpAny (model P w) A (excMatches (.ref ea) (.ref W)) Q E s := by
  obtain ⟨nm, q, N, bs, sn, sub, ab, col, dd, k0, k1, k2, k3, k5, hC⟩ := XE.ex
  obtain ⟨nm', q', N', bs', sn', sub', ab', col', dd', k0', k1', k2', k3', k5', hW⟩ := XW.ex
  have cB : (Value.ref W :: bW).contains (.type "BaseException") = true := by rw [List.contains_cons, XW.tl.hasType (X := "BaseException") (b := true) (by decide +kernel), Bool.or_true]
  have f := tc_notTuple
  obtain ⟨h, g, d, t, os⟩ := s
  unfold excMatches
  repeat (first | (with_reducible refine wpAny_loadPart_at he ?_; rw [hc]) | with_reducible refine wpAny_loadPart_at hW ?_ | (with_reducible refine wpAny_isSubtype_exc hW ?_; rw [cB]) | (with_reducible refine wpAny_isSubtype_exc hC ?_; rw [hb]) | wp_step)
  exact k
def tTry (K : PySem.W.Frag) (W : Addr) (j : Nat) (tc : St → Hp → VK → XK → Prop) (ts : TS) : TS := fun D σ H => tc σ H D.rt fun v d H' => ∃ C bm, v = .ref C ∧ xcIn K C bm = true ∧ (Value.ref C :: bm).contains (.ref W) = true ∧
  ∀ y, H' y = none → ts { nx := fun σ' H2 => D.nx (σ'.set j none) H2, rt := D.rt, bk := fun σ' H2 => D.bk (σ'.set j none) H2, ct := fun σ' H2 => D.ct (σ'.set j none) H2 } (σ.set j (some (.ref y))) (upd H' y (XD y C d))
theorem ps_try {X : Cx} {ce : Expr} {rpos pos hpos np : Pos} {x n : Str} {b0 : Stmt} {suite : List Stmt} {tc : St → Hp → VK → XK → Prop} {ts : TS} {W : Addr} {bW : List Value} {j : Nat} (hc : PX X ce tc) (hL : X.env.frame = some X.env.locals) (hs : X.stack = X.env :: X.outer) (hg : Gl X x) (hW : X.mg x = some (.ref W)) (xW : xcIn X.K W bW = true)
    (hN : X.N.Nodup) (hj : X.N[j]? = some n) (hl : X.env.scope.names.lookup n = some .local) (hsuite : ∀ ea, PSs (X.within ea) (b0 :: suite) ts) (hdb : (x == ("__debug__" : Str)) = false := by decide) :
    PS X (.Try [.Return (some ce) rpos] [.ExceptHandler (some (.Name x np)) (some n) (b0 :: suite) hpos] [] [] pos) (tTry X.K W j tc ts) := by
  intro pins s σ H D I h
  refine wpAny_Try_except (wpAny_execs_cons (wpAny_Return_some (wpAny_mono (hc pins s σ H D.rt _ I h) (fun v s1 ⟨u, H', I1, r, q⟩ => ⟨u, σ, H', I1, r, q⟩) ?_)))
  rintro e s1 ⟨H0, s0, I0, ea, C', d, B, H', rfl, os, bare, a, lo, hok, hn, C, bm, hC, xc, hb, hy⟩
  cases hC
  have fr : X.A.frames = some (X.env :: X.outer) := hs ▸ I0.ok.frames
  rw [hs] at a lo
  have any : Any B (X.env :: X.outer) ea C' d X.env.locals s1.heap := by
    obtain ⟨vs, o, w⟩ := a.ob
    exact ⟨a.st, a.ne, a.ff, vs, o, .inr (.inl w)⟩
  refine note_it fr hL any fun g1 a1 u1 => ?_
  refine flight_to (s := { s1 with heap := g1 }) (f := none) a1 fun g2 a2 u2 => ?_
  have lo2 := (lo.slots a.ff u1).slots a1.ff u2
  have I2 : Inv X pins σ (upd H' ea (XD ea C' d)) { s1 with heap := g2 } := I0.caught os bare (hs ▸ lo2) hok hn (hs ▸ a2)
  obtain ⟨o, vs, e1, e2, _, _⟩ := xd_get I2.hok upd_same
  refine wpAny_handleBy_cons (codeAny_handlers_test (ld_glob (X := X.within ea) (I2.within ea) hg hW ?_ hdb)) (by intro q; cases q)
  refine matches_exc (XC.of_in I2.kIn xc) (XC.of_in I2.kIn xW) e1 e2 hb ?_
  refine codeAny_handlers_suite_as (flight_to (s := { s1 with heap := g2 }) (f := none) a2 fun g3 a3 u3 => ?_)
  have I3 : Inv X pins σ (upd H' ea (XD ea C' d)) { s1 with heap := g3 } := I0.caught os bare (hs ▸ lo2.slots a2.ff u3) hok hn (hs ▸ a3)
  refine store_ok (i := j) (v := .ref ea) I3 hN hj (.inl hl) rfl (fun s4 I4 => ?_) (.inr hl)
  refine wpAny_mono (hsuite ea pins s4 _ _ _ (I4.within ea) (hy ea hn)) (fun f s5 q => ?_) fun _ _ z => z.elim
  have ok := I0.ok
  cases f with
  | next =>
    obtain ⟨σ', H2, I5, q⟩ := q
    exact unbind_ok (I5.back ok) hN hj hl fun s6 I6 => ⟨_, _, I6, q⟩
  | brk =>
    obtain ⟨σ', H2, I5, q⟩ := q
    exact unbind_ok (I5.back ok) hN hj hl fun s6 I6 => ⟨_, _, I6, q⟩
  | cont =>
    obtain ⟨σ', H2, I5, q⟩ := q
    exact unbind_ok (I5.back ok) hN hj hl fun s6 I6 => ⟨_, _, I6, q⟩
  | ret u =>
    obtain ⟨v, σ', H2, I5, r, q⟩ := q
    exact unbind_ok (I5.back ok) hN hj hl fun s6 I6 => ⟨v, _, _, I6, r, q⟩
end L2
set_option Elab.async false
set_option linter.all false
set_option maxRecDepth 100000
namespace L2
open PySem PySem.Spec PyProof.Rows
section
variable {prog : Program} {w : World} {A : Around} {E : Value → Shared → Prop} {s : Shared}
end
section
variable {prog : Program} {w : World} {A : Around} {E : Value → Shared → Prop} {s : Shared}
end
end L2
set_option Elab.async false
set_option linter.all false
set_option maxRecDepth 100000
namespace L2
open PySem PySem.Spec PyProof.Rows
section
variable {prog : Program} {w : World} {A : Around} {E : Value → Shared → Prop} {s : Shared}
end
section
variable {prog : Program} {w : World} {A : Around} {E : Value → Shared → Prop} {s : Shared}
end
section
variable {prog : Program} {w : World} {A : Around} {E : Value → Shared → Prop} {s : Shared} {K : PySem.W.Frag} {a : Addr} {k : Str} {tk : Tok} {r : Option Value}
end
section
variable {X : Cx} {o i e : Expr} {pos : Pos} {td ty : TE}
end
def MtC (P : Program) (w : World) (K : PySem.W.Frag) (mg : Str → Option Value) (base : Heap) (k : Nat) (C : Addr) (m : Str) (ps : List Str) (sp : Sp) : Prop :=
  ∃ f fd, Cls K C ∧ Meth K C m f ∧ FnOk P w K mg base CX0 k f fd ps sp ∧ Binds K fd ps []
theorem MtC.mono {P : Program} {w : World} {K : PySem.W.Frag} {mg : Str → Option Value} {base : Heap} {j k : Nat} {C : Addr} {m : Str} {ps : List Str} {sp : Sp} (c : MtC P w K mg base j C m ps sp) (h : j ≤ k) : MtC P w K mg base k C m ps sp := by
  obtain ⟨f, fd, a, b, F, r⟩ := c
  exact ⟨f, fd, a, b, F.mono h, r⟩
section
variable {X : Cx} {k : Nat} {C : Addr} {ps : List Str} {sp : Sp} {x m : Str} {p pos apos : Pos} {e o : Expr} {es : List Expr} {ta : TE} {t : TA}
end
section
variable {σ : St} {H : Hp} {Q : VK} {K : PySem.W.Frag} {ta tv te : TE} {t : TA} {f m : Str} {nx bk ct : St → Hp → Prop} {rt : VK} {C a : Addr} {sp : Sp} {R : It → Hp → Prop}
end
end L2
set_option Elab.async false
set_option linter.all false
set_option maxRecDepth 100000
set_option maxHeartbeats 1000000
namespace L2
open PySem PySem.Spec PyProof.Rows
section
variable {prog : Program} {w : World} {A : Around} {E : Value → Shared → Prop} {h : Heap} {g : Array GenState} {d : Drawn} {t : Nat} {os : OsState} {C x : Addr} {bm : List Value} {o : Obj}
theorem classX_get {R : Result → Shared → Prop} (X : XC C bm h) (hx : h.get? x = some o) (hc : o.cls = .ref C) (k : R (.ok (.ret (.ref C))) ⟨h, g, d, t, os⟩) :
    codeAny (model prog w) A (.call (.builtin "getset_descriptor.__get__") ⟨[.builtin "object.__class__", .ref x, .ref C], []⟩) R ⟨h, g, d, t, os⟩ := by
  have hT5 : (⟨h, g, d, t, os⟩ : Shared).TypeIs (.builtin "object.__class__") "getset_descriptor" := F.typeOf_object_class
  obtain ⟨nm, q, N, bs, sn, sub, ab, col, dd, k0, k1, k2, k3, k5, hC⟩ := id X.ex
  have cO : (Value.ref C :: bm).contains (.type (".".intercalate ("object.__class__".cutAt '.').dropLast)) = true := by
    rw [F.owner_object_class, List.contains_cons, X.tl.hasType (X := "object") (b := true) (by decide +kernel), Bool.or_true]
  refine codeAny_call_builtin F.slot_gs_get.plain F.entry_gs_get (F.slot_gs_get.check _ _ _ _ _ _ _ _ hT5 (F.args_gs_get _ _ _) ?_)
  repeat (any_goals (first | assumption | (with_reducible refine wpAny_loadPart_at hx ?_; rw [hc]) | (with_reducible refine wpAny_isSubtype_exc hC ?_; rw [cO]) | wp_step))
  refine ⟨Code.quiet_builtin _ (by decide +kernel), codeAny_builtin F.entry_object_class ?_⟩
  repeat (any_goals (first | assumption | (with_reducible refine wpAny_loadPart_at hx ?_; rw [hc]) | wp_step))
theorem classX_entry {tk : Tok} {Q : Fin → Shared → Prop} (X : XC C bm h) (hn : PySem.W.Looks (model prog w) h (typeLookup (.ref C) "__class__") (some (.builtin "object.__class__")))
    (hx : h.get? x = some o) (hc : o.cls = .ref C) (k : Q (.done (.ret (.ref C))) ⟨h, g, d, t, os⟩) : wpAny (model prog w) A (Builtin.«object.__getattribute__» ⟨[.ref x, .str "__class__" tk], []⟩) Q E ⟨h, g, d, t, os⟩ := by
  have hT5 : (⟨h, g, d, t, os⟩ : Shared).TypeIs (.builtin "object.__class__") "getset_descriptor" := F.typeOf_object_class
  have f5 := F.typeOf_object_class
  have f6 := F.slot_gs_get.lookup
  have f7 := F.slot_gs_set.lookup
  repeat (any_goals (first | assumption | (with_reducible refine wpAny_loadPart_at hx ?_; rw [hc]) | (with_reducible refine wpAny_bind (hn.here ?_)) | (with_reducible refine hn.here ?_) | wp_step))
  refine classX_get X hx hc ?_
  repeat (any_goals (first | assumption | wp_step))
theorem classX_by {tk : Tok} {Q : Value → Shared → Prop} (X : XC C bm h) (hga : PySem.W.Looks (model prog w) h (typeLookup (.ref C) "__getattribute__") (some (.builtin "BaseException.__getattribute__")))
    (hgn : PySem.W.Looks (model prog w) h (typeLookup (.ref C) "__getattr__") none) (hn : PySem.W.Looks (model prog w) h (typeLookup (.ref C) "__class__") (some (.builtin "object.__class__")))
    (hx : h.get? x = some o) (hc : o.cls = .ref C) (k : Q (.ref C) ⟨h, g, d, t, os⟩) : wpAny (model prog w) A (getAttrBy (.ref x) (.str "__class__" tk) false) Q E ⟨h, g, d, t, os⟩ := by
  have f3 := F.excAttr_ValueError.ga.bind (.ref x)
  have x2 : (Value.builtin "BaseException.__getattribute__" == Value.builtin "object.__getattribute__") = false := by decide +kernel
  have x1 : (onTheHeap (Value.ref C) && Value.builtin "BaseException.__getattribute__" == Value.builtin "object.__getattribute__") = false := by rw [x2]; rfl
  have x0 : (false && onTheHeap (Value.builtin "BaseException.__getattribute__")) = false := rfl
  repeat (any_goals (first | assumption | (with_reducible refine wpAny_loadPart_at hx ?_; rw [hc]) | (with_reducible refine wpAny_bind (hga.here ?_)) | (with_reducible refine wpAny_bind (hgn.here ?_)) | (with_reducible refine hga.here ?_) | (with_reducible refine hgn.here ?_) | wp_step))
  refine codeAny_call_builtin F.excAttr_ValueError.ga.plain F.entry_bexc_ga (check_gx X hx hc (classX_entry X hn hx hc ?_))
  repeat (any_goals (first | assumption | wp_step))
theorem class_exc {Q : Option Value → Shared → Prop} (X : XC C bm h) (hga : PySem.W.Looks (model prog w) h (typeLookup (.ref C) "__getattribute__") (some (.builtin "BaseException.__getattribute__")))
    (hgn : PySem.W.Looks (model prog w) h (typeLookup (.ref C) "__getattr__") none) (hn : PySem.W.Looks (model prog w) h (typeLookup (.ref C) "__class__") (some (.builtin "object.__class__")))
    (hx : h.get? x = some o) (hc : o.cls = .ref C) (k : Q (some (.ref C)) ⟨h, g, d, t + 1, os⟩) : wpAny (model prog w) A (getAttr? (.ref x) "__class__") Q E ⟨h, g, d, t, os⟩ := by
  unfold getAttr? getAttrBy?
  repeat (any_goals (first | assumption | with_reducible apply classX_by X hga hgn hn hx hc | wp_step))
end
end L2
set_option Elab.async false
set_option linter.all false
set_option maxRecDepth 100000
namespace L2
open PySem PySem.Spec PyProof.Rows
structure XF (K : PySem.W.Frag) (C : Addr) (bm : List Value) : Prop where
  c : xcIn K C bm = true
  ga : PySem.W.findIn K (.ref C) "__getattribute__" = some (some (.builtin "BaseException.__getattribute__"))
  gn : PySem.W.findIn K (.ref C) "__getattr__" = some none
  cl : PySem.W.findIn K (.ref C) "__class__" = some (some (.builtin "object.__class__"))
  sa : PySem.W.findIn K (.ref C) "__setattr__" = some (some (.builtin "object.__setattr__"))
theorem kitx_exc {K : PySem.W.Frag} {x C : Addr} {bm : List Value} (F : XF K C bm) : PySem.W.KitX K (.ref x) (.ref C) (fun h => ∃ o, h.get? x = some o ∧ o.cls = .ref C) where
  ty := fun M h _ ⟨o, e, hc⟩ => hc ▸ (PySem.W.Looks.ld e).andThen .now
  it := fun M h X _ => by
    obtain ⟨nm, q, N, bs, sn, sub, ab, col, dd, k0, k1, k2, k3, k5, hC⟩ := (XC.of_in X F.c).ex
    intro A Q E s k hq
    unfold isType loadHead
    exact wpAny_bind (wpAny_loadPart (k _ _ hC) (wpAny_pure hq))
  ne := fun h tp dd its n sl X htp => by
    obtain ⟨nm, q, N, bs, sn, sub, ab, col, dd, k0, k1, k2, k3, k5, hC⟩ := (XC.of_in X F.c).ex
    refine Bool.eq_false_iff.mpr fun z => ?_
    have e : C = tp := Value.ref.inj (beq_iff_eq.mp z)
    subst e
    rw [hC] at htp
    have c := congrArg (fun o : Option Obj => o.map (·.cls)) htp
    simp at c
  ca := fun {prog w A E Q s} X p k => by
    obtain ⟨o, e, hc⟩ := p
    obtain ⟨h, g, d, t, os⟩ := s
    exact class_exc (XC.of_in X F.c) (PySem.W.looks_findIn X F.ga) (PySem.W.looks_findIn X F.gn) (PySem.W.looks_findIn X F.cl) e hc k
def rIsX (K : PySem.W.Frag) : List V → Hp → VK → Prop := fun xs H Q => ∃ y C d bm vc b, xs = [.ref y, vc] ∧ H y = some (XD y C d) ∧ XF K C bm ∧ ((∃ D, vc = .ref D ∧ PySem.W.kitOne K (.ref C) (.ref D) = some b) ∨ ∃ T, vc = .ty T ∧ PySem.W.kitOne K (.ref C) (.type T) = some b) ∧ Q (.bl b) H
theorem kIsX {X : Cx} (K : PySem.W.Frag) (e : X.K = K := by rfl) : CallR X (.builtin "isinstance") (rIsX K) := by
  subst e
  intro pins s σ H xs us Q I r h
  obtain ⟨y, C, d, bm, vc, b, rfl, hy, F, hk, q⟩ := h
  obtain ⟨u, v, rfl, ru, rv⟩ := r.two
  obtain rfl : u = Value.ref y := ru
  obtain ⟨o, vs, e1, e2, _, _⟩ := xd_get I.hok hy
  rcases hk with ⟨D, rfl, hk⟩ | ⟨T, rfl, hk⟩
  · obtain rfl : v = Value.ref D := rv
    exact PySem.W.kia_one (kitx_exc F) I.kIn ⟨o, e1, e2⟩ hk (fun z => nomatch z) fun tk => ⟨.bl b, H, I.tok _, rfl, q⟩
  · obtain rfl : v = Value.type T := rv
    exact PySem.W.kia_one (kitx_exc F) I.kIn ⟨o, e1, e2⟩ hk (fun z => nomatch z) fun tk => ⟨.bl b, H, I.tok _, rfl, q⟩
def tFldX (K : PySem.W.Frag) (te : TE) (n : Str) : TE := fun σ H Q => te σ H fun v H1 => ∃ y C d fs u bm, v = .ref y ∧ H1 y = some (XD y C (some d)) ∧ H1 d = some (.xd fs) ∧ fs.lookup n = some u ∧ XF K C bm ∧ PySem.W.findIn K (.ref C) n = some none ∧ Q u H1
theorem handed_V {v : V} {u : Value} (r : RelV v u) : PySem.W.handedIn u = true := by
  cases v with
  | non => cases (show u = Value.none from r); rfl
  | bl b => cases (show u = Value.bool b from r); rfl
  | int i => obtain ⟨t, q⟩ := (show ∃ t, u = Value.int i t from r); subst q; rfl
  | str x => obtain ⟨t, q⟩ := (show ∃ t, u = Value.str x t from r); subst q; rfl
  | byt b => obtain ⟨t, q⟩ := (show ∃ t, u = Value.bytes b t from r); subst q; rfl
  | flt b => obtain ⟨t, q⟩ := (show ∃ t, u = Value.float b t from r); subst q; rfl
  | ref a => cases (show u = Value.ref a from r); rfl
  | ty n => cases (show u = Value.type n from r); rfl
theorem pe_fldX {X : Cx} (K : PySem.W.Frag) {e : Expr} {n : Str} {pos : Pos} {te : TE} (he : PE X e te) (hb : attributeBase e n X.env (eval e X.env) = eval e X.env) (ek : X.K = K := by rfl) : PE X (.Attribute e n pos) (tFldX K te n) := by
  subst ek
  intro pins s σ H Q I h
  refine attr_of hb (thn (he pins s σ H _ I h) fun u s1 ⟨x, H1, I1, rx, y, C, d, fs, v, bm, ex, hy, hd, l, F, hn, q⟩ => ?_)
  subst ex
  obtain rfl : u = Value.ref y := rx
  obtain ⟨o, vs, e1, e2, e3, e4⟩ := xd_get I1.hok hy
  obtain ⟨mA, ns, rel⟩ := (show ObjOk X.prog X.w H1 s1.heap d (.xd fs) from I1.hok d _ hd)
  have rn := rel n
  rw [l] at rn
  cases z : mA n with
  | none => rw [z] at rn; exact rn.elim
  | some u =>
    rw [z] at rn
    have hh := handed_V (show RelV v u from rn)
    have XX := XC.of_in I1.kIn F.c
    have L1 := PySem.W.looks_findIn (M := model X.prog X.w) I1.kIn F.ga
    have L2' := PySem.W.looks_findIn (M := model X.prog X.w) I1.kIn F.gn
    have L3 := PySem.W.looks_findIn (M := model X.prog X.w) I1.kIn hn
    have It := I1.tok (s1.toks + 1)
    obtain ⟨hp, g, dr, tk, os⟩ := s1
    exact get_exc XX L1 L2' L3 e1 e2 e3 e4 ns.ns z hh ⟨v, H1, It, rn, q⟩
def tWInit (K : PySem.W.Frag) (t : TA) : TE := fun σ H Q => t σ H fun vs H1 => ∃ y C d bm z, vs = [.ref y, z] ∧ H1 y = some (XO y C d) ∧ xcIn K C bm = true ∧ Q .non H1
structure XW (K : PySem.W.Frag) (mg : Str → Option Value) (x : Str) (W : Addr) : Prop where
  b : mg x = some (.ref W)
  rd : PySem.W.readsIn K W (.type "type") = true
  fc : PySem.W.findCls K (.ref W) (.type "type") "__init__" = some (.val (.builtin "ValueError.__init__"))
  sg : PySem.W.specialIn K (.ref W) "__getattribute__" = some (some (.builtin "type.__getattribute__"))
theorem pe_winit {X : Cx} {K : PySem.W.Frag} {x : Str} {W : Addr} {np apos pos : Pos} {e : Expr} {es : List Expr} {t : TA} {pl : Sem Bool} (F : XW K X.mg x W) (hg : Gl X x) (ha : PA X (e :: es) t) (ek : X.K = K := by rfl)
    (hdb : (x == ("__debug__" : Str)) = false := by decide) (he : starEach (e :: es) X.env = (false, eval e X.env) :: starEach es X.env := by rfl) (hpl : (backTo pos (starEach es X.env)).any (·.1) = false := by rfl)
    (ht : eval (.Call (.Attribute (.Name x np) "__init__" apos) (e :: es) [] pos) X.env = (do
      let ov ← eval (.Name x np) X.env
      standAt apos.atName
      let (f, first) ← holding [ov] (getMethod ov "__init__" pl)
      callWith pos f first (backTo pos (starEach (e :: es) X.env)) (backToKw pos (keywordEach [] X.env))) := by rfl) :
    PE X (.Call (.Attribute (.Name x np) "__init__" apos) (e :: es) [] pos) (tWInit K t) := by
  subst ek
  intro pins s σ H Q I h
  refine PySem.W.methodCall_KW (pl := pl) (ld_glob I hg F.b ?_ hdb) ht
  refine PySem.W.method_cls I.kIn F.sg (PySem.W.cls_value I.kIn F.rd F.fc (by decide +kernel) ?_)
  have It := I.tok (s.toks + 1)
  refine PyProof.Rows.callWith_builtin1 (thn (ha pos pins _ σ H _ It h) fun us s1 ⟨vs, H1, I1, r, y, C, d, bm, z, ev, hy, xc, q⟩ => ?_) he hpl
  subst ev
  obtain ⟨u, v, rfl, ru, rv⟩ := r.two
  obtain rfl : u = Value.ref y := ru
  obtain ⟨tp, hx⟩ := xo_get I1.hok hy
  have XX := XC.of_in I1.kIn xc
  have step : ∀ h' tp', h'.get? y = some (newX C tp' d) → (∀ b o, b ≠ y → s1.heap.get? b = some o → h'.get? b = some o) → Inv X pins σ H1 { s1 with heap := h' } := fun h' tp' q1 q2 => by
    have w := I1.write (x := y) (e := y) (o := XO y C d) (t' := s1.toks) (by rw [hy]; exact True.intro) (.inl rfl) (fun b u hb z => q2 b u hb z) ⟨_, q1⟩ (xo_mk q1)
    have eq : upd H1 y (XO y C d) = H1 := by
      funext b
      by_cases hb : b = y
      · rw [hb, upd_same, hy]
      · exact upd_ne hb
    rw [eq] at w
    exact w
  obtain ⟨hp, g, dr, tk, os⟩ := s1
  exact init_exc XX hx (by show 1 ≤ sizeLine; decide) fun h' tp' q1 q2 => ⟨.non, H1, step h' tp' q1 q2, rfl, q⟩
end L2
set_option Elab.async false
set_option linter.all false
set_option maxRecDepth 100000
namespace L2
open PySem PySem.Spec PyProof.Rows
theorem Inv.two {X : Cx} {pins : List (Addr × Obj)} {σ : St} {H : Hp} {s : Shared} {x d : Addr} {φ : Heap → Prop} {o1 o2 : HO} {h' : Heap} {t' : Nat} (I : Inv X pins σ H s) (hx : H x = some (.ext φ)) (hd : (H d = none ∧ s.heap.objs.size ≤ d) ∨ ∃ fs, H d = some (.xd fs)) (ne : d ≠ x)
    (k : ∀ b o, b ≠ x → b ≠ d → s.heap.get? b = some o → h'.get? b = some o) (n1 : ∀ H, ObjOk X.prog X.w H h' d o1) (n2 : ∀ H, ObjOk X.prog X.w H h' x o2) : Inv X pins σ (upd (upd H d o1) x o2) { s with heap := h', toks := t' } := by
  have off : ∀ b u, H b = some u → (∀ ψ, u ≠ .ext ψ) → (∀ fs, u ≠ .xd fs) → b ≠ x ∧ b ≠ d := fun b u q n m => by
    refine ⟨fun z => ?_, fun z => ?_⟩
    · rw [z, hx] at q; cases q; exact n _ rfl
    · rw [z] at q
      rcases hd with ⟨e, _⟩ | ⟨fs, e⟩
      · rw [e] at q; cases q
      · rw [e] at q; cases q; exact m _ rfl
  have free : ∀ b o, s.heap.get? b = some o → H b = none → b ≠ x ∧ b ≠ d := fun b o q n => by
    refine ⟨fun z => (by rw [z, hx] at n; cases n), fun z => ?_⟩
    rcases hd with ⟨e, l⟩ | ⟨fs, e⟩
    · exact absurd (Heap.lt_size q) (Nat.not_lt.mpr (z ▸ l))
    · rw [z, e] at n; cases n
  have new : ∀ b, b ≠ x → b ≠ d → upd (upd H d o1) x o2 b = H b := fun b h1 h2 => by rw [upd_ne h1, upd_ne h2]
  have hok : HOk X.prog X.w (upd (upd H d o1) x o2) h' := fun b u q => by
    by_cases h1 : b = x
    · subst h1; rw [upd_same] at q; cases q; exact n2 _
    rw [upd_ne h1] at q
    by_cases h2 : b = d
    · subst h2; rw [upd_same] at q; cases q; exact n1 _
    rw [upd_ne h2] at q
    refine (I.hok b u q).stay (fun c v r z => ?_) (fun c r => ?_) fun c xs r => ?_
    · rcases r with rfl | r
      · exact k _ _ h1 h2 z
      · obtain ⟨a1, a2⟩ := off c _ r (by intro ψ; simp) (by intro fs; simp)
        exact k _ _ a1 a2 z
    · obtain ⟨a1, a2⟩ := off c _ r (by intro ψ; simp) (by intro fs; simp)
      rw [new c a1 a2]; exact r
    · obtain ⟨a1, a2⟩ := off c _ r (by intro ψ; simp) (by intro fs; simp)
      rw [new c a1 a2]; exact r
  refine I.call (ch := []) ⟨fun b o q n _ _ => k b o (free b o q n).1 (free b o q n).2 q, fun b o q n _ _ => ⟨o.slots, k b o (free b o q n).1 (free b o q n).2 q⟩, fun b o q n _ => ?_, fun b o q _ => ?_, fun b xs q => ?_, fun b o v q => ?_, fun b ps q => ⟨#[], ?_⟩⟩ hok I.bare fun b z => by cases z
  · rw [new b (free b o q n).1 (free b o q n).2]; exact n
  · by_cases h1 : b = x
    · rw [h1]; exact (n2 H).there
    by_cases h2 : b = d
    · rw [h2]; exact (n1 H).there
    exact ⟨o, k b o h1 h2 q⟩
  · obtain ⟨a1, a2⟩ := off b _ q (by intro ψ; simp) (by intro fs; simp)
    rw [new b a1 a2]; exact q
  · obtain ⟨a1, a2⟩ := off b _ q (by intro ψ; simp) (by intro fs; simp)
    rw [new b a1 a2]; exact q
  · obtain ⟨a1, a2⟩ := off b _ q (by intro ψ; simp) (by intro fs; simp)
    rw [new b a1 a2, q]; simp
def sFldX (K : PySem.W.Frag) (W : Addr) (ta tv : TE) (n : Str) : TS := fun D σ H => tv σ H fun y H1 => ta σ H1 fun v H2 => ∃ x C d, v = .ref x ∧ H2 x = some (XO x C d) ∧ XF K C (.ref W :: vBm) ∧ PySem.W.findIn K (.ref C) n = some none ∧
  ((d = none ∧ ∀ dx, H2 dx = none → dx ≠ x → D.nx σ (upd (upd H2 dx (.xd [(n, y)])) x (XO x C (some dx)))) ∨ ∃ dx fs, d = some dx ∧ H2 dx = some (.xd fs) ∧ fs.length ≤ 10 ∧ dx ≠ x ∧ D.nx σ (upd (upd H2 dx (.xd (putF n y fs))) x (XO x C (some dx))))
theorem refuse_own (W : Addr) (self : Value) : refuseLoop self "__setattr__" (.ref W :: vBm) = pure () := by
  rw [refuseLoop_ref]
  exact PySem.F.store_ValueError.passes self
theorem rel_put {fs : List (Str × V)} {mA : Str → Option Value} {n : Str} {y : V} {u : Value} (r : ∀ f, RelO (fs.lookup f) (mA f)) (ry : RelV y u) (g : Str) : RelO ((putF n y fs).lookup g) (if g = n then some u else mA g) := by
  rw [lookup_putF]
  by_cases q : g = n
  · rw [if_pos q, if_pos q]; exact ry
  · rw [if_neg q, if_neg q]; exact r g
theorem within_of {fs : List (Str × V)} {mA : Str → Option Value} (r : ∀ f, RelO (fs.lookup f) (mA f)) : PySem.Within mA (fs.map (·.1)) := fun y hy => by
  have q := r y
  cases z : fs.lookup y with
  | none =>
    rw [z] at q
    exact absurd (RelO.none_of q) hy
  | some v => exact List.mem_map.mpr ⟨(y, v), PySem.mem_of_lookup z, rfl⟩
theorem ps_fldX {X : Cx} (K : PySem.W.Frag) (W : Addr) {o value : Expr} {n : Str} {pos pos' : Pos} {ta tv : TE} (ha : PE X o ta) (hv : PE X value tv) (hs : swapsWith value (some (.Attribute o n pos')) pos.line X.env = pure false) (ek : X.K = K := by rfl) :
    PS X (.Assign [.Attribute o n pos'] value pos) (sFldX K W ta tv n) := by
  subst ek
  intro pins s σ H D I h
  refine plainObj_wpAny_Assign_Attribute (thn (hv pins s σ H _ I h) fun u s1 ⟨y, H1, I1, ry, q⟩ => thn (ha pins s1 σ H1 _ I1 q) fun ov s2 ⟨v, H2, I2, rx, x, C, d, ex, hx, F, hn, q2⟩ => ?_) hs
  subst ex
  obtain rfl : ov = Value.ref x := rx
  obtain ⟨tp, e1⟩ := xo_get I2.hok hx
  have XX := XC.of_in I2.kIn F.c
  have L1 := PySem.W.looks_findIn (M := model X.prog X.w) I2.kIn F.sa
  have L3 := PySem.W.looks_findIn (M := model X.prog X.w) I2.kIn hn
  rcases q2 with ⟨rfl, q2⟩ | ⟨dx, fs, rfl, hdx, hl, ne, q2⟩
  · have go : ∀ h' tk' d', h'.get? x = some (newX C tp (some d')) → d' ≠ x → h'.Ns1 d' (fun y => if y = n then some u else none) → s2.heap.objs.size ≤ d' → (∀ b o, b ≠ x → b ≠ d' → s2.heap.get? b = some o → h'.get? b = some o) → SP X pins D .next { s2 with heap := h', toks := tk' } := fun h' tk' d' g1 g2 g3 g4 g5 => by
      have hf := I2.hok.fresh g4
      refine ⟨σ, _, I2.two hx (.inl ⟨hf, g4⟩) g2 g5 (o1 := .xd [(n, y)]) (o2 := XO x C (some d')) (fun _ => (show ∃ mA, h'.Ns1 d' mA ∧ ∀ f, RelO (([(n, y)] : List (Str × V)).lookup f) (mA f) from ⟨_, g3, fun f => ?_⟩)) (fun _ => xo_mk g1), q2 d' hf g2⟩
      exact rel_put (fs := []) (mA := fun _ => none) (fun _ => True.intro) ry f
    obtain ⟨hp, g, dr, tk, os⟩ := s2
    refine store_exc XX L1 L3 (refuse_own W) none tp e1 (.inl ⟨rfl, rfl⟩) (ns := []) (mA := fun _ => none) (fun y hy => absurd rfl hy) (by decide) fun h' tk' d' g1 g2 g3 g4 g5 => ?_
    rcases g4 with ⟨_, g4⟩ | g4
    · exact go h' tk' d' g1 g2 g3 g4 g5
    · cases g4
  · obtain ⟨mA, ns, rel⟩ := (show ObjOk X.prog X.w H2 s2.heap dx (.xd fs) from I2.hok dx _ hdx)
    have go : ∀ h' tk', h'.get? x = some (newX C tp (some dx)) → h'.Ns1 dx (fun y => if y = n then some u else mA y) → (∀ b o, b ≠ x → b ≠ dx → s2.heap.get? b = some o → h'.get? b = some o) → SP X pins D .next { s2 with heap := h', toks := tk' } := fun h' tk' g1 g3 g5 =>
      ⟨σ, _, I2.two hx (.inr ⟨fs, hdx⟩) ne g5 (o1 := .xd (putF n y fs)) (o2 := XO x C (some dx)) (fun _ => (show ∃ mA, h'.Ns1 dx mA ∧ ∀ f, RelO ((putF n y fs).lookup f) (mA f) from ⟨_, g3, rel_put rel ry⟩)) (fun _ => xo_mk g1), q2⟩
    obtain ⟨hp, g, dr, tk, os⟩ := s2
    refine store_exc XX L1 L3 (refuse_own W) (some dx) tp e1 (.inr ⟨dx, rfl, ne, ns⟩) (ns := fs.map (·.1)) (mA := mA) (within_of rel) (by rw [List.length_map, sizeLine_eq]; omega) fun h' tk' d' g1 g2 g3 g4 g5 => ?_
    rcases g4 with ⟨g4, _⟩ | g4
    · cases g4
    · cases g4
      exact go h' tk' g1 g3 g5
end L2
set_option Elab.async false
set_option linter.all false
set_option maxRecDepth 100000
namespace L2
open PySem PySem.Spec PyProof.Rows
def CallZ (P : Program) (w : World) (K : PySem.W.Frag) (mg : Str → Option Value) (base : Heap) (CX : CXT) (k : Nat) (f : Addr) (H : Hp) (Q : VK) (E : XK) : Prop :=
  ∀ (A : Around) (outer : List Env) (s : Shared), Room k A → Env0 P w K mg base A outer s H → codeAny (model P w) A (.call (.ref f) ⟨[], []⟩) (CR CX outer P w H s Q E) s
abbrev lamOf (qual : Str) (params : Arguments) (body : Expr) (scope : Scope) (cl : List (Str × Addr)) (dV ct pm : Value) (c : Addr) : FuncData :=
  { name := "<lambda>", qualname := qual, params, body := .expr body, scope, globals := mainGlobals, closure := cl, defaults := dV, kwdefaults := .none, doc := .none, pyModule := pm, annotations := none, code := .ref c, closureTuple := ct, builtins := builtinsNs }
def LamO (f : Addr) (fd : FuncData) : HO := .ext fun h => ∃ oc od osl, h.get? f = some ⟨oc, od, .func fd, osl⟩
def CodO (c : Addr) (q : Str) : HO := .ext fun h => h.CodeRec (.ref c) q
theorem codO_ok {P : Program} {w : World} {H : Hp} {h : Heap} {c : Addr} {q : Str} (e : h.CodeRec (.ref c) q) : ObjOk P w H h c (CodO c q) := by
  obtain ⟨c', o, vs, t, e1, e2, r⟩ := id e
  cases e1
  refine ⟨e, ⟨o, e2⟩, ?_⟩
  rintro h1 h2 ⟨c', o, vs, t, e1, e2, r⟩ k
  cases e1
  exact ⟨c, o, vs, t, rfl, k _ e2, r⟩
def frC (o : Obj) : HO := .frz o (.ext fun _ => True)
theorem frC_ok {P : Program} {w : World} {H : Hp} {h : Heap} {c : Addr} {o : Obj} (e : h.get? c = some o) : ObjOk P w H h c (frC o) := ⟨e, ⟨True.intro, ⟨o, e⟩, fun _ _ _ _ => True.intro⟩⟩
structure LamScope (N ps : List Str) (sc : Scope) : Prop where
  kind : sc.kind = .function
  co : sc.isCoroutine = false
  gen : sc.isGenerator = false
  nd : N.Nodup
  par : ∀ x ∈ ps, sc.names.lookup x = some .local
  nocell : ∀ y ∈ sc.names, y.2 ≠ .cell
abbrev envL (qual : Str) (scope : Scope) (L f c : Addr) (cl : List (Str × Addr)) : Env := newEnv scope L mainGlobals cl (qual ++ ".<locals>.") (some f) (.ref c) none builtinsNs
def delL (H : Hp) (l : List Addr) : Hp := fun b => if b ∈ l then none else H b
def putL (H' H : Hp) (l : List Addr) : Hp := fun b => if b ∈ l then H b else H' b
theorem delL_in {H : Hp} {l : List Addr} {b : Addr} (h : b ∈ l) : delL H l b = none := by unfold delL; rw [if_pos h]
theorem delL_out {H : Hp} {l : List Addr} {b : Addr} (h : b ∉ l) : delL H l b = H b := by unfold delL; rw [if_neg h]
theorem putL_in {H H' : Hp} {l : List Addr} {b : Addr} (h : b ∈ l) : putL H' H l b = H b := by unfold putL; rw [if_pos h]
theorem putL_out {H H' : Hp} {l : List Addr} {b : Addr} (h : b ∉ l) : putL H' H l b = H' b := by unfold putL; rw [if_neg h]
abbrev cxL (P : Program) (w : World) (K : PySem.W.Frag) (mg : Str → Option Value) (base : Heap) (N : List Str) (qual : Str) (scope : Scope) (f c : Addr) (cl : List (Str × Addr)) (A : Around) (outer : List Env) (s : Shared) (H : Hp) : Cx where
  prog := P
  w := w
  K := K
  mg := mg
  base := base
  A := A.deeper (envL qual scope s.heap.objs.size f c cl)
  N := N
  s_0 := s
  H_0 := H
  env := envL qual scope s.heap.objs.size f c cl
  outer := outer
  stack := envL qual scope s.heap.objs.size f c cl :: outer
  ex := []
  calm := true
  fn := fun _ => false
  pn := []
  xe := fun _ _ => False
section
variable {P : Program} {w : World} {A : Around} {R : Result → Shared → Prop} {s : Shared}
theorem codeAny_expr0 {e : Expr} {env : Env}
    (h : wpAny (model P w) (A.deeper env) (eval e env) (fun v s' => R (.ok (.ret v)) s') (fun x s' => wpAny (model P w) (A.deeper env) (leaving env x) (fun _ s'' => R (.error x) s'') (fun x' s'' => R (.error x') s'') s') s) : codeAny (model P w) A (.expr e env) R s := by
  refine codeAny_of_tree ?_
  show wpAny _ (A.deeper env) (do point; ret (← (eval e env).onRaise (leaving env))) _ _ s
  exact wpAny_bind (wpAny_point (wpAny_bind (wpAny_onRaise (wpAny_mono h (fun v s' q => wpAny_pure q) fun _ _ q => q))))
theorem call_lam {a : Addr} {args : Args} {o : Obj} {fd : FuncData} {body : Expr} (hroom : A.depth < recursionLimit) (ho : s.heap.get? a = some o) (hd' : o.data = .func fd) (hco : fd.scope.isCoroutine = false) (hgen : fd.scope.isGenerator = false) (hbody : fd.body = .expr body)
    (hcd : s.heap.CodeRec fd.code fd.qualname)
    (h : wpAny (model P w) A.in1 (bindArgs fd args) (fun binds s₁ => wpAny (model P w) A.in1 (newFunctionEnv fd.scope fd.globals fd.closure binds (fd.qualname ++ ".<locals>.") (some a) fd.code none fd.builtins)
        (fun env s₂ => s₂.heap.NoLimit ∧ codeAny (model P w) A (.expr body env) R s₂) (fun e s' => R (.error e) s') s₁) (fun e s' => R (.error e) s') s) : codeAny (model P w) A (.call (.ref a) args) R s := by
  refine codeAny_of_tree ?_
  show wpAny _ A.in1 (callAny (.ref a) args) _ _ s
  simp only [callAny]
  refine wpAny_bind (wpAny_load ho ?_)
  obtain ⟨c, oc, vs, tq, hc, hoc, hdc, hq⟩ := hcd
  simp only [hd', callFunction, hco, hgen, hbody, hc]
  rw [hc] at h
  refine wpAny_bind (m := field (.ref c) 1) (wpAny_field hoc hdc hq (wpAny_bind (wpAny_pure ?_)))
  refine wpAny_bind (wpAny_mono h (fun binds s₁ h₁ => ?_) fun _ _ q => q)
  refine wpAny_bind (wpAny_mono h₁ (fun env s₂ h₂ => ?_) fun _ _ q => q)
  exact wpAny_bind (wpAny_enterFrame h₂.1 hroom (wpAny_pure ⟨rfl, h₂.2⟩))
theorem newEnv_lam {M : Model} {E : Value → Shared → Prop} {scope : Scope} {globals : Addr} {cl : List (Str × Addr)} {binds : List (Str × Value)} {qual : Str} {func : Option Addr} {code : Value} {builtins : Addr} {Q : Env → Shared → Prop}
    (hk : scope.kind = .function) (hn : ∀ y ∈ scope.names, y.2 ≠ .cell) (hkind : ∀ x ∈ binds, scope.names.lookup x.1 = some .local)
    (hQ : ∀ env, env = newEnv scope s.heap.objs.size globals cl qual func code none builtins → ∀ s', InCall s env.locals (bindL env.kindOf binds fun _ => none) s' → Q env s') : wpAny M A (newFunctionEnv scope globals cl binds qual func code none builtins) Q E s := by
  have e1 : ∀ (names : List (Str × NameKind)) (n : Nat), (∀ y ∈ names, y.2 ≠ .cell) → cellsFrom n names cl = cl := by
    intro names
    induction names with
    | nil => intro n _; rfl
    | cons y r ih =>
      intro n hy
      have : (y.2 == NameKind.cell) = false := by
        have := hy y List.mem_cons_self
        cases h : y.2 <;> simp_all
      obtain ⟨y1, y2⟩ := y
      unfold cellsFrom
      rw [show (y2 == NameKind.cell) = false from this]
      exact ih n fun z hz => hy z (List.mem_cons_of_mem _ hz)
  have e2 : ∀ (names : List (Str × NameKind)) (h : Heap), (∀ y ∈ names, y.2 ≠ .cell) → pushCells h names = h := by
    intro names
    induction names with
    | nil => intro n _; rfl
    | cons y r ih =>
      intro n hy
      have : (y.2 == NameKind.cell) = false := by
        have := hy y List.mem_cons_self
        cases h : y.2 <;> simp_all
      obtain ⟨y1, y2⟩ := y
      unfold pushCells
      rw [show (y2 == NameKind.cell) = false from this]
      exact ih n fun z hz => hy z (List.mem_cons_of_mem _ hz)
  simp only [newFunctionEnv, Option.isSome_none, Bool.false_eq_true, if_false]
  refine wpAny_bind (wpAny_alloc ?_)
  refine wpAny_bind (wpAny_layCells _ (fun name kind cells => by cases hkc : kind == NameKind.cell <;> simp [hkc]) _ _ _ _ ?_)
  rw [e1 _ _ hn, e2 _ _ hn]
  generalize henv : newEnv scope s.heap.objs.size globals cl qual func code none builtins = env
  have go : ∀ (f : Str × Value → PUnit → Sem (ForInStep PUnit)) (hf : ∀ n v u, f (n, v) u = (do storeName env n v; pure (.yield ⟨⟩))) (bs : List (Str × Value)) (m : Str → Option Value) (s1 : Shared) (Q : PUnit → Shared → Prop),
      InCall s env.locals m s1 → (∀ x ∈ bs, scope.names.lookup x.1 = some .local) → (∀ s', InCall s env.locals (bindL env.kindOf bs m) s' → Q ⟨⟩ s') → wpAny M A (forIn bs ⟨⟩ f) Q E s1 := by
    intro f hf bs
    induction bs with
    | nil => intro m s1 Q x _ h; rw [List.forIn_nil]; exact wpAny_pure (h s1 x)
    | cons b r ih =>
      obtain ⟨n, v⟩ := b
      intro m s1 Q x hl h
      rw [List.forIn_cons, hf]
      have hl1 : env.kindOf n = some .local := by rw [← henv]; exact hl (n, v) List.mem_cons_self
      have hk1 : env.scope.kind = .function := by rw [← henv]; exact hk
      refine wpAny_bind (wpAny_bind (wpAny_storeName_local hl1 x.ns (fun h' hn' hs' => wpAny_pure (ih _ _ _ ⟨?_, hn', fun b o e => ?_, x.fresh⟩ (fun y hy => hl y (List.mem_cons_of_mem _ hy)) fun s' x' => h s' ?_)) (by rw [hk1]; rfl)))
      · obtain ⟨h1, tk, rfl⟩ := x.same
        exact ⟨h', _, rfl⟩
      · exact hs'.extBut b o (Nat.ne_of_lt (Nat.lt_of_lt_of_le (Heap.lt_size e) x.fresh)) (x.keep b o e)
      · unfold bindL
        rw [if_pos hl1]
        exact x'
  have el : env.locals = s.heap.objs.size := by rw [← henv]; rfl
  refine wpAny_bind (go _ (fun n v u => by rw [← henv]; rfl) binds _ _ _ ⟨⟨_, _, rfl⟩, by rw [el]; exact Heap.Ns.new s.heap (.type "frame"), fun b o e => Heap.get?_push_of_some _ e, Nat.le_of_eq el.symm⟩ hkind fun s' x => wpAny_pure ?_)
  have q := hQ env henv.symm s' x
  rw [← henv] at q
  exact q
end
theorem del_none {H : Hp} {l : List Addr} {b : Addr} (n : H b = none) : delL H l b = none := by
  unfold delL
  split
  · rfl
  · exact n
structure Cells (H : Hp) (cl : List (Str × Addr)) : Prop where
  inj : ∀ x y c, cl.lookup x = some c → cl.lookup y = some c → x = y
  fr : ∀ q ∈ cl, ∃ o v, H q.2 = some (frC o) ∧ o.data = .cell v
section
variable {P : Program} {w : World} {K : PySem.W.Frag} {mg : Str → Option Value} {base : Heap} {H H' : Hp} {cl : List (Str × Addr)} {h h' B : Heap} {l : List Env}
theorem Cells.ne (Z : Cells H cl) {b : Addr} {u : HO} (e : H b = some u) (n : ∀ o v, u ≠ .frz o v) : b ∉ cl.map (·.2) := fun z => by
  obtain ⟨q, hq, rfl⟩ := List.mem_map.mp z
  obtain ⟨o, v, e1, _⟩ := Z.fr q hq
  rw [e1] at e
  cases e
  exact n _ _ rfl
theorem Cells.some (Z : Cells H cl) {b : Addr} (h : b ∈ cl.map (·.2)) : ∃ o v, H b = some (frC o) ∧ o.data = .cell v := by
  obtain ⟨q, hq, rfl⟩ := List.mem_map.mp h
  exact Z.fr q hq
theorem Cells.hok (Z : Cells H cl) (q : HOk P w H h) : HOk P w (delL H (cl.map (·.2))) h := fun b u e => by
  have hb : b ∉ cl.map (·.2) := fun z => by rw [delL_in z] at e; cases e
  rw [delL_out hb] at e
  exact (q b u e).stay (fun _ _ _ r => r) (fun c r => by rw [delL_out (Z.ne r (by intro o v; simp))]; exact r) fun c xs r => by rw [delL_out (Z.ne r (by intro o v; simp))]; exact r
theorem Cells.back (Z : Cells H cl) (q : HOk P w H' B) (n : ∀ b ∈ cl.map (·.2), H' b = none) (k : ∀ b o, H b = .some (frC o) → B.get? b = .some o) : HOk P w (putL H' H (cl.map (·.2))) B := fun b u e => by
  by_cases hb : b ∈ cl.map (·.2)
  · rw [putL_in hb] at e
    obtain ⟨o, v, e1, _⟩ := Z.some hb
    rw [e1] at e
    cases e
    exact frC_ok (k b o e1)
  · rw [putL_out hb] at e
    have ne : ∀ c v, H' c = .some v → c ∉ cl.map (·.2) := fun c v r z => by rw [n c z] at r; cases r
    exact (q b u e).stay (fun _ _ _ r => r) (fun c r => by rw [putL_out (ne c _ r)]; exact r) fun c xs r => by rw [putL_out (ne c _ r)]; exact r
theorem Cells.un {fs ex : List Addr} (Z : Cells H cl) (hok : HOk P w H h) (u : Un fs ex (delL H (cl.map (·.2))) H' h h') (hx : ∀ b ∈ cl.map (·.2), b ∉ ex) : Un fs ex H (putL H' H (cl.map (·.2))) h h' := by
  have dn : ∀ b, H b = none → delL H (cl.map (·.2)) b = none := fun b n => del_none n
  have nf : ∀ b, H b = none → b ∉ cl.map (·.2) := fun b n z => by
    obtain ⟨o, v, e, _⟩ := Z.some z
    rw [n] at e; cases e
  refine ⟨fun b o q n => u.keep b o q (dn b n), fun b o q n => u.slot b o q (dn b n), fun b o q n hb => by rw [putL_out (nf b n)]; exact u.free b o q (dn b n) hb, fun b o q hb => u.there b o q hb, fun b xs q => ?_, fun b o v q => ?_, fun b ps q => ?_⟩
  · have z := Z.ne q (by intro o v; simp)
    rw [putL_out z]
    exact u.tups b xs (by rw [delL_out z]; exact q)
  · by_cases z : b ∈ cl.map (·.2)
    · rw [putL_in z]; exact q
    · rw [putL_out z]
      exact u.frzs b o v (by rw [delL_out z]; exact q)
  · have z := Z.ne q (by intro o v; simp)
    rw [putL_out z]
    exact u.tbls b ps (by rw [delL_out z]; exact q)
theorem Cells.lost (Z : Cells H cl) (u : Lost l (delL H (cl.map (·.2))) H' h B h') : Lost l H (putL H' H (cl.map (·.2))) h B h' := by
  have dn : ∀ b, H b = none → delL H (cl.map (·.2)) b = none := fun b n => del_none n
  have nf : ∀ b, H b = none → b ∉ cl.map (·.2) := fun b n z => by
    obtain ⟨o, v, e, _⟩ := Z.some z
    rw [n] at e; cases e
  refine ⟨fun b o q n => u.keep b o q (dn b n), fun b o q n => u.slot b o q (dn b n), fun b o q n => by rw [putL_out (nf b n)]; exact u.free b o q (dn b n), fun b o q hb => u.there b o q hb, fun b xs q => ?_, fun b o v q => ?_, fun b ps q => ?_⟩
  · have z := Z.ne q (by intro o v; simp)
    rw [putL_out z]
    exact u.tups b xs (by rw [delL_out z]; exact q)
  · by_cases z : b ∈ cl.map (·.2)
    · rw [putL_in z]; exact q
    · rw [putL_out z]
      exact u.frzs b o v (by rw [delL_out z]; exact q)
  · have z := Z.ne q (by intro o v; simp)
    rw [putL_out z]
    exact u.tbls b ps (by rw [delL_out z]; exact q)
theorem lam_run {k : Nat} {N ps : List Str} {scope : Scope} {qual : Str} {params : Arguments} {body : Expr} {dV ct pm : Value} {f c : Addr} {σ0 : St} {us : List Value} {Q : VK} {E : XK} (S : LamScope N ps scope) (Z : Cells H cl)
    (hf : H f = .some (LamO f (lamOf qual params body scope cl dV ct pm c))) (hc : H c = .some (CodO c qual)) (hbi : ∀ s : Shared, HOk P w H s.heap → BindsTo s (lamOf qual params body scope cl dV ct pm c) ⟨[], []⟩ (ps.zip us))
    (hlen : σ0.length = N.length) (has : ∀ x, scope.names.lookup x = .some .free → ∃ a, cl.lookup x = .some a)
    (hval : ∀ (i : Nat) x v, N[i]? = .some x → σ0[i]? = .some (.some v) → ∃ a o u, scope.names.lookup x = .some .free ∧ cl.lookup x = .some a ∧ H a = .some (frC o) ∧ o.data = .cell (.some u) ∧ RelV v u)
    (hbody : ∀ (A : Around) (outer : List Env) (s : Shared), Room k (A.deeper (envL qual scope s.heap.objs.size f c cl)) →
      ∃ t, PE ((cxL P w K mg base N qual scope f c cl A outer s (delL H (cl.map (·.2)))).wish (XAl (cxL P w K mg base N qual scope f c cl A outer s (delL H (cl.map (·.2)))) fun C d H' => (∀ b ∈ cl.map (·.2), H' b = none) → E C d (putL H' H (cl.map (·.2))))) body t ∧
        t σ0 (delL H (cl.map (·.2))) fun v H' => Q v (putL H' H (cl.map (·.2)))) : CallZ P w K mg base (CXE P w) (k + 1) f H Q E := by
  intro A outer s hr e0
  obtain ⟨oc, od, osl, lk⟩ := (e0.hok f _ hf).1
  have rcd : s.heap.CodeRec (.ref c) qual := (e0.hok c _ hc).1
  have lim : s.heap.NoLimit := e0.mod.nolimit.keeps fun b o e => (e0.bs b o e).1
  refine call_lam hr.depth lk rfl S.co S.gen rfl rcd (hbi s e0.hok _ _ _ _ ?_)
  refine newEnv_lam S.kind S.nocell (fun x hx => S.par x.1 (List.of_mem_zip hx).1) fun env he s1 x => ?_
  subst he
  refine ⟨lim.keeps x.keep, codeAny_expr0 ?_⟩
  obtain ⟨t, ht, hq⟩ := hbody A outer s (hr.deeper _)
  obtain ⟨h1, tk, rfl, hk⟩ := x.done
  have gets : ∀ b o, H b = .some (frC o) → s.heap.get? b = .some o := fun b o e => (e0.hok b _ e).1
  have hn0 : ∀ b, H b = none → delL H (cl.map (·.2)) b = none := fun b n => del_none n
  have mem : ∀ {y a}, cl.lookup y = .some a → a ∈ cl.map (·.2) := fun {y a} e => List.mem_map.mpr ⟨(y, a), PySem.mem_of_lookup e, rfl⟩
  have no : ∀ b : Addr, b ∉ ([] : List Addr) := fun b z => by cases z
  have I : Inv (cxL P w K mg base N qual scope f c cl A outer s (delL H (cl.map (·.2)))) [] σ0 (delL H (cl.map (·.2))) { s with heap := h1, toks := tk } := by
    refine ⟨⟨e0.mod, S.kind, rfl, rfl, Nat.le_refl _, Z.inj, fun y hy => ?_, (fun y a z => by cases z), fun _ => hr.hd, Around.frames_deeper e0.frames, .inr ⟨rfl, rfl⟩, fun b z => absurd z (no b), fun b o e => ⟨(e0.bs b o e).1, hn0 b (e0.bs b o e).2⟩, e0.bsz, fun b _ _ => no b, fun b z => absurd z (no b), e0.funs, fun b hb => hn0 b (e0.frf b hb)⟩,
      rfl, e0.bare, Un.kept hk, ⟨_, x.ns, fun i y v h1 h2 h3 => ?_⟩, fun y a e => ?_, hn0 _ (e0.hok.fresh (Nat.le_refl _)), fun y a e => delL_in (mem e), fun p hp => absurd (show p ∈ ([] : List (Addr × Obj)) from hp) (by simp), (Z.hok e0.hok).kept hk, hlen⟩
    · have hy : scope.names.lookup y = .some .cell ∨ scope.names.lookup y = .some .free := hy
      rcases hy with hy | hy
      · exact absurd rfl (S.nocell _ (PySem.mem_of_lookup hy))
      · exact has y hy
    · obtain ⟨a, o, u, n1, n2, n3, n4, n5⟩ := hval i y v h1 h2
      exact ⟨u, n5, .inr ⟨.inr n1, a, n2, o, hk _ _ (gets a o n3), n4⟩⟩
    · obtain ⟨o, v, e1, e2⟩ := Z.some (mem e)
      exact ⟨v, o, hk _ _ (gets a o e1), e2⟩
  have nk : ∀ {H1 : Hp} {h2 : Heap}, (∀ b o, s.heap.get? b = .some o → delL H (cl.map (·.2)) b = none → H1 b = none) → ∀ b ∈ cl.map (·.2), H1 b = none := fun fr b hb => by
    obtain ⟨o, v, e1, _⟩ := Z.some hb
    exact fr b o (gets b o e1) (delL_in hb)
  have nfr : ∀ b ∈ cl.map (·.2), b ∉ frs outer := fun b hb z => by
    obtain ⟨o, v, e1, _⟩ := Z.some hb
    rw [e0.frf b z] at e1; cases e1
  have J := I.wish (XAl (cxL P w K mg base N qual scope f c cl A outer s (delL H (cl.map (·.2)))) fun C d H' => (∀ b ∈ cl.map (·.2), H' b = none) → E C d (putL H' H (cl.map (·.2))))
  refine wpAny_mono (ht [] _ σ0 _ _ J hq) (fun u s' q => ?_) fun e s' q => ?_
  · obtain ⟨v, H1, I1, r, q⟩ := q
    have un := Z.un e0.hok I1.base fun b _ => no b
    refine ⟨v, _, I1.os, I1.bare, un, Z.back I1.hok (nk (h2 := s.heap) fun b o g n => I1.base.free b o g n (no b)) fun b o e => ?_, r, q⟩
    by_cases hb : b ∈ cl.map (·.2)
    · exact I1.base.keep b o (gets b o e) (delL_in hb) (nfr b hb) (no b)
    · have z := I1.base.frzs b o _ ((delL_out hb).trans e)
      exact (I1.hok b _ z).1
  · refine wpAny_mono (leave_al (X := cxL P w K mg base N qual scope f c cl A outer s (delL H (cl.map (·.2)))) (E := fun C d H' => (∀ b ∈ cl.map (·.2), H' b = none) → E C d (putL H' H (cl.map (·.2)))) q) (fun _ s'' z => ?_) fun _ _ z => z
    obtain ⟨ea, C, d, B, H1, rfl, os, bare, a, x, hok, he, hE⟩ := z
    refine ⟨ea, C, d, B, _, rfl, os, bare, a, Z.lost x, Z.back hok (nk (h2 := s.heap) x.free) (fun b o e => ?_), ?_, hE (nk (h2 := s.heap) x.free)⟩
    · by_cases hb : b ∈ cl.map (·.2)
      · exact x.keep b o (gets b o e) (delL_in hb) (nfr b hb)
      · have z := x.frzs b o _ ((delL_out hb).trans e)
        exact (hok b _ z).1
    · by_cases hb : ea ∈ cl.map (·.2)
      · obtain ⟨o, v, e1, _⟩ := Z.some hb
        have := x.keep ea o (gets ea o e1) (delL_in hb) (nfr ea hb)
        rw [a.ne] at this
        cases this
      · rw [putL_out hb]; exact he
end
end L2
set_option Elab.async false
set_option linter.all false
set_option maxRecDepth 100000
namespace L2
open PySem PySem.Spec PyProof.Rows
def TblOk (H : Hp) (P : Addr) (q : Str) : Prop := ∃ ps, H P = some (.tbl ps) ∧ TriplesOk ps.toList ∧ ∀ pos c', codeAmong pos ps.toList = some c' → ∃ c, c' = .ref c ∧ H c = some (CodO c q)
def BMod (base : Heap) (mg : Str → Option Value) : Prop := ∃ bm ob, mg "__builtins__" = some (.ref bm) ∧ bm ≠ builtinsNs ∧ base.get? bm = some ob ∧ ob.cls = .type "module" ∧ ob.dict = some builtinsNs ∧ ob.data = .plain
theorem among_snoc {pos : Pos} {a b : Int} {c x : Value} : ∀ {l : List Value}, TriplesOk l → codeAmong pos (l ++ [rawInt a, rawInt b, c]) = some x → codeAmong pos l = some x ∨ x = c
  | [], _, e => by
    have e' : (if a == pos.line && b == pos.col then some c else none) = some x := e
    split at e'
    · cases e'; exact .inr rfl
    · cases e'
  | .int a1 t1 :: .int b1 t2 :: y :: r, h, e => by
    have h' : TriplesOk r := h
    have e' : (if a1 == pos.line && b1 == pos.col then some y else codeAmong pos (r ++ [rawInt a, rawInt b, c])) = some x := e
    show (if a1 == pos.line && b1 == pos.col then some y else codeAmong pos r) = some x ∨ x = c
    split at e'
    · rename_i q; rw [if_pos q]; exact .inl e'
    · rename_i q; rw [if_neg q]; exact among_snoc h' e'
structure ClOf (names : List (Str × NameKind)) (cells cl : List (Str × Addr)) : Prop where
  from_ : ∀ q ∈ cl, cells.lookup q.1 = some q.2
  all : ∀ n, (n, NameKind.free) ∈ names → ∃ a, cl.lookup n = some a
theorem clos_ok {M : Model} {A : Around} {E : Value → Shared → Prop} {s : Shared} {scope : Scope} {env : Env} {Q : List (Str × Addr) → Shared → Prop} (has : ∀ n, (n, NameKind.free) ∈ scope.names → ∃ a, env.cells.lookup n = some a)
    (k : ∀ cl, ClOf scope.names env.cells cl → Q cl s) : wpAny M A (closureFor scope env) Q E s := by
  unfold closureFor
  have go : ∀ (names : List (Str × NameKind)) (acc : List (Str × Addr)) (f : Str × NameKind → List (Str × Addr) → Sem (ForInStep (List (Str × Addr))))
      (hf : ∀ n kd acc, f (n, kd) acc = if kd == .free then (do let a ← cellOf env n; pure (.yield ((n, a) :: acc))) else pure (.yield acc)) (Q : List (Str × Addr) → Shared → Prop),
      (∀ n, (n, NameKind.free) ∈ names → ∃ a, env.cells.lookup n = some a) → (∀ q ∈ acc, env.cells.lookup q.1 = some q.2) →
      (∀ cl, (∀ q ∈ cl, env.cells.lookup q.1 = some q.2) → (∀ n, (n, NameKind.free) ∈ names → ∃ a, (n, a) ∈ cl) → (∀ q ∈ acc, q ∈ cl) → Q cl s) → wpAny M A (forIn names acc f) Q E s := by
    intro names
    induction names with
    | nil => intro acc f hf Q _ h1 h2; rw [List.forIn_nil]; exact wpAny_pure (h2 acc h1 (fun n h => by cases h) fun q h => h)
    | cons y r ih =>
      obtain ⟨n, kd⟩ := y
      intro acc f hf Q hh h1 h2
      rw [List.forIn_cons, hf]
      by_cases e : kd = .free
      · subst e
        obtain ⟨a, ha⟩ := hh n List.mem_cons_self
        rw [if_pos (show (NameKind.free == NameKind.free) = true by decide)]
        refine wpAny_bind (wpAny_bind (wpAny_cellOf ha (wpAny_pure (ih _ f hf Q (fun m hm => hh m (List.mem_cons_of_mem _ hm)) (fun q hq => ?_) fun cl c1 c2 c3 => h2 cl c1 (fun m hm => ?_) fun q hq => c3 q (List.mem_cons_of_mem _ hq)))))
        · rcases List.mem_cons.mp hq with rfl | hq
          · exact ha
          · exact h1 q hq
        · rcases List.mem_cons.mp hm with e | hm
          · cases e; exact ⟨a, c3 _ List.mem_cons_self⟩
          · exact c2 m hm
      · rw [if_neg (by simpa using e)]
        refine wpAny_bind (wpAny_pure (ih _ f hf Q (fun m hm => hh m (List.mem_cons_of_mem _ hm)) h1 fun cl c1 c2 c3 => h2 cl c1 (fun m hm => ?_) c3))
        rcases List.mem_cons.mp hm with z | hm
        · cases z; exact absurd rfl e
        · exact c2 m hm
  refine wpAny_bind (go scope.names [] _ (fun n kd acc => by cases hk : kd == NameKind.free <;> simp [hk]) _ has (fun q h => by cases h) fun cl c1 c2 _ => wpAny_pure (k cl ⟨c1, fun n hn => ?_⟩))
  obtain ⟨a, ha⟩ := c2 n hn
  cases e : cl.lookup n with
  | some a => exact ⟨a, rfl⟩
  | none =>
    have : ∀ (l : List (Str × Addr)), (n, a) ∈ l → l.lookup n ≠ none := by
      intro l
      induction l with
      | nil => intro h; cases h
      | cons y r ih =>
        obtain ⟨m, b⟩ := y
        intro h z
        rw [List.lookup_cons] at z
        rcases List.mem_cons.mp h with e | h
        · cases e; simp at z
        · cases hb : n == m with
          | true => rw [hb] at z; cases z
          | false => rw [hb] at z; exact ih h z
    exact absurd e (this cl ha)
theorem Inv.coded {X : Cx} {pins : List (Addr × Obj)} {σ : St} {H : Hp} {s : Shared} {P c : Addr} {q : Str} {ps more : Array Value} {h' : Heap} {t' : Nat} (I : Inv X pins σ H s) (hP : H P = some (.tbl ps)) (hk : Heap.ExtBut P s.heap h') (hc : s.heap.objs.size ≤ c)
    (rec' : h'.CodeRec (.ref c) q) (hP' : h'.get? P = some { cls := .none, data := .fields (ps ++ more) }) : Inv X pins σ (upd (upd H c (CodO c q)) P (.tbl (ps ++ more))) { s with heap := h', toks := t' } := by
  have hf := I.hok.fresh hc
  have ne : ∀ b o, s.heap.get? b = some o → b ≠ c := fun b o e => Nat.ne_of_lt (Nat.lt_of_lt_of_le (Heap.lt_size e) hc)
  have nP : ∀ b u, H b = some u → (∀ ps, u ≠ .tbl ps) → b ≠ P := fun b u e n z => by rw [z, hP] at e; cases e; exact n _ rfl
  have new : ∀ b u, H b = some u → (∀ ps, u ≠ .tbl ps) → upd (upd H c (CodO c q)) P (.tbl (ps ++ more)) b = some u := fun b u e n => by
    rw [upd_ne (nP b u e n), upd_ne (ne_of_none e hf)]; exact e
  have hok : HOk X.prog X.w (upd (upd H c (CodO c q)) P (.tbl (ps ++ more))) h' := fun b u e => by
    by_cases h1 : b = P
    · subst h1; rw [upd_same] at e; cases e; exact hP'
    rw [upd_ne h1] at e
    by_cases h2 : b = c
    · subst h2; rw [upd_same] at e; cases e; exact codO_ok rec'
    rw [upd_ne h2] at e
    refine (I.hok b u e).stay (fun d v r z => hk d v ?_ z) (fun d r => new d _ r (by intro ps; simp)) fun d xs r => new d _ r (by intro ps; simp)
    rcases r with rfl | r
    · exact h1
    · exact nP d _ r (by intro ps; simp)
  have un0 : ∀ b o, s.heap.get? b = some o → H b = none → h'.get? b = some o := fun b o e n => hk b o (fun z => by rw [z, hP] at n; cases n) e
  refine I.call (ch := []) ⟨fun b o e n _ _ => un0 b o e n, fun b o e n _ _ => ⟨o.slots, un0 b o e n⟩, fun b o e n _ => ?_, fun b o e _ => ?_, fun b xs e => new b _ e (by intro ps; simp), fun b o v e => new b _ e (by intro ps; simp), fun b ps' e => ?_⟩ hok I.bare fun b z => by cases z
  · rw [upd_ne (fun z => by rw [z, hP] at n; cases n), upd_ne (ne b o e)]; exact n
  · by_cases h1 : b = P
    · rw [h1]; exact ⟨_, hP'⟩
    · exact ⟨o, hk b o h1 e⟩
  · by_cases h1 : b = P
    · subst h1
      rw [hP] at e
      cases e
      exact ⟨more, upd_same⟩
    · exact ⟨#[], by rw [upd_ne h1, upd_ne (ne_of_none e hf), e]; simp⟩
structure Made (H H' : Hp) (P f c : Addr) (qual : Str) (params : Arguments) (body : Expr) (scope : Scope) (cells cl : List (Str × Addr)) (dV ct pm : Value) : Prop where
  hf : H' f = some (LamO f (lamOf qual params body scope cl dV ct pm c))
  hc : H' c = some (CodO c qual)
  t : TblOk H' P qual
  same : ∀ b u, b ≠ P → H b = some u → H' b = some u
  fn : H f = none
  cl : ClOf scope.names cells cl
theorem make_lam {X : Cx} {pins : List (Addr × Obj)} {σ : St} {H : Hp} {s : Shared} {E : Value → Shared → Prop} {cc P : Addr} {qual : Str} {params : Arguments} {body : Expr} {scope : Scope} {pos : Pos} {fl : Nat} {dv : List Value} {Q : Value → Shared → Prop} (I : Inv X pins σ H s) (hcode : X.env.code = .ref cc) (hd : PySem.W.CodeHd X.base cc P)
    (T : TblOk H P qual) (B : BMod X.base X.mg) (hkw : params.kwonlyargs = []) (has : ∀ n, (n, NameKind.free) ∈ scope.names → X.env.kindOf n = some .cell ∨ X.env.kindOf n = some .free) (hz : dv.length ≤ 1)
    (k : ∀ f H' c cl dV ct pm s', Inv X pins σ H' s' → Made H H' P f c qual params body scope X.env.cells cl dV ct pm → (dv = [] → dV = .none) → (∀ u, dv = [u] → ∀ v, RelV v u → ∃ t, dV = .ref t ∧ H' t = some (.ext fun h => h.get? t = some { cls := .type "tuple", data := .seq #[u] })) → Q (.ref f) s') :
    wpAny (model X.prog X.w) X.A (makeFunction "<lambda>" qual params (.expr body) scope X.env dv [] [] pos fl) Q E s := by
  obtain ⟨ps, hP, hT, hA⟩ := T
  have core : ∀ (dV : Value) (H0 : Hp) (s0 : Shared), Inv X pins σ H0 s0 → H0 P = some (.tbl ps) → (∀ b u, H b = some u → H0 b = some u) → (∀ b, H0 b = none → H b = none) → (dv = [] → dV = .none) → (∀ u, dv = [u] → ∀ v, RelV v u → ∃ t, dV = .ref t ∧ H0 t = some (.ext fun h => h.get? t = some { cls := .type "tuple", data := .seq #[u] })) →
      wpAny (model X.prog X.w) X.A (do
        let closure ← closureFor scope X.env
        let closureTuple ← if closure.isEmpty then pure .none else newTextTuple ((closure.mergeSort fun a b => a.1.cps.toList ≤ b.1.cps.toList).map (.ref ·.2))
        let code ← functionCode X.env pos fl "<lambda>" qual params scope (.expr body)
        let blt ← builtinsFor X.env.globals X.env.builtins
        let nm ← nsGet X.env.globals "__name__"
        newObj (.type "function") (.func { name := "<lambda>", qualname := qual, params, body := .expr body, scope, globals := X.env.globals, closure, closureTuple, code, builtins := blt, defaults := dV, kwdefaults := .none, annotations := none, pyModule := nm.getD .none, doc := .none })) Q E s0 := by
    intro dV H0 s0 I0 hP0 hsub hnone hd0 hd1
    refine wpAny_bind (clos_ok (fun n hn => I0.ok.has n (has n hn)) fun cl C => ?_)
    have fin : ∀ (ct : Value) (s1 : Shared), Inv X pins σ H0 s1 → wpAny (model X.prog X.w) X.A (do
        let code ← functionCode X.env pos fl "<lambda>" qual params scope (.expr body)
        let blt ← builtinsFor X.env.globals X.env.builtins
        let nm ← nsGet X.env.globals "__name__"
        newObj (.type "function") (.func { name := "<lambda>", qualname := qual, params, body := .expr body, scope, globals := X.env.globals, closure := cl, closureTuple := ct, code, builtins := blt, defaults := dV, kwdefaults := .none, annotations := none, pyModule := nm.getD .none, doc := .none })) Q E s1 := by
      intro ct s1 I1
      have hPo : s1.heap.get? P = some { cls := .none, data := .fields ps } := I1.hok P _ hP0
      have hd' := hd.keeps (h' := s1.heap) fun b o e => I1.bk b o e
      have last : ∀ (c : Addr) (H2 : Hp) (s2 : Shared), Inv X pins σ H2 s2 → H2 c = some (CodO c qual) → TblOk H2 P qual → (∀ b u, b ≠ P → H0 b = some u → H2 b = some u) → (∀ b, H2 b = none → H0 b = none) → wpAny (model X.prog X.w) X.A (do
          let blt ← builtinsFor X.env.globals X.env.builtins
          let nm ← nsGet X.env.globals "__name__"
          newObj (.type "function") (.func { name := "<lambda>", qualname := qual, params, body := .expr body, scope, globals := X.env.globals, closure := cl, closureTuple := ct, code := .ref c, builtins := blt, defaults := dV, kwdefaults := .none, annotations := none, pyModule := nm.getD .none, doc := .none })) Q E s2 := by
        intro c H2 s2 I2 hc2 T2 sub2 non2
        obtain ⟨bm, ob, b1, b2, b3, b4, b5, b6⟩ := B
        have hg : s2.heap.Ns X.env.globals X.mg := by rw [I2.ok.glob]; exact I2.mod.glob.keeps I2.bk
        refine wpAny_bind (wpAny_builtinsFor hg b1 b2 (I2.bk _ _ b3) b4 b5 b6 (wpAny_bind (wpAny_nsGet hg ?_)))
        refine wpAny_newObj_type ?_ (by size_fits)
        have hf := I2.hok.fresh (Nat.le_refl s2.heap.objs.size)
        rw [I2.ok.glob]
        have I3 := I2.laid (a := s2.heap.objs.size) (o := LamO s2.heap.objs.size (lamOf qual params body scope cl dV ct (((X.mg "__name__").getD .none)) c)) (h' := s2.heap.push { cls := .type "function", data := .func (lamOf qual params body scope cl dV ct (((X.mg "__name__").getD .none)) c) }) (t' := s2.toks) (fun b u q => Heap.get?_push_of_some _ q) (Nat.le_refl _)
          ⟨⟨_, _, _, Heap.get?_push_size _ rfl⟩, ⟨_, Heap.get?_push_size _ rfl⟩, fun _ _ ⟨a, b, d, e⟩ k => ⟨a, b, d, k _ e⟩⟩
        have ne : ∀ b u, H2 b = some u → b ≠ s2.heap.objs.size := fun b u e => ne_of_none e hf
        obtain ⟨ps2, t1, t2, t3⟩ := T2
        refine k s2.heap.objs.size _ c cl dV ct _ _ I3 ⟨upd_same, by rw [upd_ne (ne c _ hc2)]; exact hc2, ⟨ps2, by rw [upd_ne (ne P _ t1)]; exact t1, t2, fun pos c' e => ?_⟩, fun b u hb e => ?_, hnone _ (non2 _ hf), C⟩ hd0 fun u e v r => ?_
        · obtain ⟨c1, e1, e2⟩ := t3 pos c' e
          exact ⟨c1, e1, by rw [upd_ne (ne c1 _ e2)]; exact e2⟩
        · have z := sub2 b u hb (hsub b u e)
          rw [upd_ne (ne b _ z)]; exact z
        · obtain ⟨t, e1, e2⟩ := hd1 u e v r
          have tP : t ≠ P := fun z => by rw [z, hP0] at e2; cases e2
          have z := sub2 t _ tP e2
          exact ⟨t, e1, by rw [upd_ne (ne t _ z)]; exact z⟩
      cases hm : codeAmong pos ps.toList with
      | some c' =>
        obtain ⟨c, rfl, hc⟩ := hA pos c' hm
        refine wpAny_bind (wpAny_functionCode_hit hcode (hd'.code hPo hT) hm ?_)
        exact last c H0 s1 I1 (hsub _ _ hc) ⟨ps, hP0, hT, fun p c' e => by
          obtain ⟨c1, e1, e2⟩ := hA p c' e
          exact ⟨c1, e1, hsub _ _ e2⟩⟩ (fun b u _ e => e) fun b e => e
      | none =>
        refine wpAny_bind (wpAny_functionCodeX hcode (hd'.code hPo hT) (hd'.tab hPo) hm fun c h' tk x1 x2 x3 x4 x5 x6 _ => ?_)
        have hf := I1.hok.fresh x2
        have ne : ∀ b u, H0 b = some u → b ≠ c := fun b u e => ne_of_none e hf
        have cP : c ≠ P := (ne P _ hP0).symm
        have I2 := I1.coded (q := qual) (more := #[rawInt pos.line, rawInt pos.col, .ref c]) (t' := tk) hP0 x1 x2 x5 x6.2
        refine last c _ _ I2 (by rw [upd_ne cP]; exact upd_same) ⟨_, upd_same, by rw [Array.toList_append]; exact TriplesOk_snoc _ _ _ _ hT, fun p c' e => ?_⟩ (fun b u hb e => by rw [upd_ne hb, upd_ne (ne b u e)]; exact e) fun b e => ?_
        · rw [Array.toList_append] at e
          rcases among_snoc hT e with e | rfl
          · obtain ⟨c1, e1, e2⟩ := hA p c' e
            have z := hsub _ _ e2
            exact ⟨c1, e1, by rw [upd_ne (fun r => by rw [r, hP0] at z; cases z), upd_ne (ne _ _ z)]; exact z⟩
          · exact ⟨c, rfl, by rw [upd_ne cP]; exact upd_same⟩
        · by_cases h1 : b = P
          · subst h1; rw [upd_same] at e; cases e
          rw [upd_ne h1] at e
          by_cases h2 : b = c
          · subst h2; exact hf
          · rw [upd_ne h2] at e; exact e
    by_cases he : cl.isEmpty = true
    · rw [if_pos he]
      exact wpAny_bind (wpAny_pure (fin _ s0 I0))
    · rw [if_neg he]
      exact wpAny_bind (wpAny_newTextTuple (fin _ _ (I0.kept (t' := s0.toks) fun b u q => Heap.get?_push_of_some _ q)))
  unfold makeFunction
  rw [hkw]
  cases dv with
  | nil => exact core .none H s I hP (fun _ _ e => e) (fun _ e => e) (fun _ => rfl) (fun u e => by cases e)
  | cons u r =>
    cases r with
    | cons _ _ => simp at hz
    | nil =>
      refine wpAny_bind (wpAny_newTextTuple ?_)
      have hf := I.hok.fresh (Nat.le_refl s.heap.objs.size)
      have I1 := I.laid (a := s.heap.objs.size) (o := .ext fun h => h.get? s.heap.objs.size = some { cls := .type "tuple", data := .seq #[u] }) (h' := s.heap.push { cls := .type "tuple", data := .seq #[u] }) (t' := s.toks) (fun b u q => Heap.get?_push_of_some _ q) (Nat.le_refl _)
        ⟨Heap.get?_push_size _ rfl, ⟨_, Heap.get?_push_size _ rfl⟩, fun _ _ e k => k _ e⟩
      have ne : ∀ b o, H b = some o → b ≠ s.heap.objs.size := fun b o e => ne_of_none e hf
      refine core (.ref s.heap.objs.size) _ _ I1 (by rw [upd_ne (ne _ _ hP)]; exact hP) (fun b o e => by rw [upd_ne (ne _ _ e)]; exact e) (fun b e => ?_) (fun e => by cases e) (fun u' e v _ => ?_)
      · by_cases hb : b = s.heap.objs.size
        · rw [hb]; exact hf
        · rw [upd_ne hb] at e; exact e
      · cases e
        exact ⟨_, rfl, upd_same⟩
end L2
set_option Elab.async false
set_option linter.all false
set_option maxRecDepth 100000
namespace L2
open PySem PySem.Spec PyProof.Rows
def DefOk (nd : Bool) (H : Hp) (dV : Value) : Prop := match nd with
  | false => dV = .none
  | true => ∃ t tk, dV = .ref t ∧ H t = some (.ext fun h => h.get? t = some { cls := .type "tuple", data := .seq #[.int 0 tk] })
def tLam (P : Addr) (qual : Str) (args : Arguments) (body : Expr) (scope : Scope) (cells : List (Str × Addr)) (nd : Bool) : TE := fun _ H Q => TblOk H P qual ∧ ∀ f H' c cl dV ct pm, Made H H' P f c qual args body scope cells cl dV ct pm → DefOk nd H' dV → Q (.ref f) H'
theorem pe_lam0 {X : Cx} {cc P : Addr} {args : Arguments} {body : Expr} {scope : Scope} {pos : Pos} {cells : List (Str × Addr)} {qual : Str} (hcode : X.env.code = .ref cc) (hd : PySem.W.CodeHd X.base cc P) (B : BMod X.base X.mg) (hq : X.env.qual ++ "<lambda>" = qual) (hcl : X.env.cells = cells)
    (has : ∀ n, (n, NameKind.free) ∈ scope.names → X.env.kindOf n = some .cell ∨ X.env.kindOf n = some .free) (hkw : args.kwonlyargs = [] := by rfl) (hdf : defaultsOf args X.env = ([], []) := by rfl) : PE X (.Lambda args body scope pos) (tLam P qual args body scope cells false) := by
  subst hq hcl
  intro pins s σ H Q I ⟨T, h⟩
  rw [arm_eval_Lambda, hdf]
  refine wpAny_bind (wpAny_pure (wpAny_bind (wpAny_holding (wpAny_pure ?_))))
  exact make_lam I hcode hd T B hkw has (Nat.zero_le _) fun f H' c cl dV ct pm s' I' M d0 _ => ⟨.ref f, H', I', rfl, h f H' c cl dV ct pm M (d0 rfl)⟩
theorem pe_lam1 {X : Cx} {cc P : Addr} {args : Arguments} {body : Expr} {scope : Scope} {pos dpos : Pos} {kd : Nat} {cells : List (Str × Addr)} {qual : Str} (hcode : X.env.code = .ref cc) (hd : PySem.W.CodeHd X.base cc P) (B : BMod X.base X.mg) (hq : X.env.qual ++ "<lambda>" = qual) (hcl : X.env.cells = cells)
    (has : ∀ n, (n, NameKind.free) ∈ scope.names → X.env.kindOf n = some .cell ∨ X.env.kindOf n = some .free) (hkw : args.kwonlyargs = [] := by rfl) (hdf : defaultsOf args X.env = ([eval (.Constant (.int 0) kd dpos) X.env], []) := by rfl) : PE X (.Lambda args body scope pos) (tLam P qual args body scope cells true) := by
  subst hq hcl
  intro pins s σ H Q I ⟨T, h⟩
  rw [arm_eval_Lambda, hdf]
  refine wpAny_bind ?_
  have c0 := (pe_int : PE X (.Constant (.int 0) kd dpos) (tC (.int 0))) pins s σ H (fun v H' => v = .int 0 ∧ H' = H) I ⟨rfl, rfl⟩
  refine wpAny_bind (wpAny_mono c0 (fun u s1 ⟨v, H1, I1, r, ev, eh⟩ => ?_) fun _ _ z => z)
  subst ev eh
  obtain ⟨tk, rfl⟩ := (show ∃ t, u = Value.int 0 t from r)
  refine wpAny_bind (wpAny_holding (wpAny_pure (wpAny_pure (wpAny_bind (wpAny_holding (wpAny_pure ?_))))))
  refine make_lam I1 hcode hd T B hkw has (by simp) fun f H' c cl dV ct pm s' I' M _ d1 => ⟨.ref f, H', I', rfl, h f H' c cl dV ct pm M ?_⟩
  obtain ⟨t, e1, e2⟩ := d1 _ rfl (.int 0) ⟨tk, rfl⟩
  exact ⟨t, tk, e1, e2⟩
def tCall0 (P : Program) (w : World) (K : PySem.W.Frag) (mg : Str → Option Value) (base : Heap) (k i : Nat) : St → Hp → VK → XK → Prop := fun σ H Q E => ∃ f fd, σ[i]? = some (some (.ref f)) ∧ H f = some (LamO f fd) ∧ CallZ P w K mg base (CXE P w) k f H Q E
theorem px_call0 {X : Cx} (P : Program) (w : World) (K : PySem.W.Frag) (mg : Str → Option Value) (base : Heap) (k : Nat) {i : Nat} {x : Str} {p pos : Pos} (hv : PE X.nox (.Name x p) (tVar i)) (hr : Room k X.A) (e1 : X.prog = P := by rfl) (e2 : X.w = w := by rfl) (e3 : X.K = K := by rfl) (e4 : X.mg = mg := by rfl) (e5 : X.base = base := by rfl) :
    PX X (.Call (.Name x p) [] [] pos) (tCall0 P w K mg base k i) := by
  subst e1 e2 e3 e4 e5
  rintro pins s σ H Q E I ⟨f, fd, hσ, hf, hz⟩
  refine wpAny_Call_Name_kw (wpAny_mono (hv pins s σ H (fun v H' => v = .ref f ∧ H' = H) (I.wish _) ⟨_, hσ, rfl, rfl⟩) (fun u s1 ⟨v, H1, I1, rv, ev, eh⟩ => ?_) fun _ _ z => z.elim)
  subst ev eh
  obtain rfl : u = Value.ref f := rv
  have I1 := I1.unwish
  obtain ⟨oc, od, osl, lk⟩ := (I1.hok f _ hf).1
  refine PySem.W.callWith_of (P := fun h => h.get? f = some ⟨oc, od, .func fd, osl⟩) rfl (fun h e => ⟨.frame, .inl rfl, ?_⟩) (evalArgs_nil3 ⟨lk, ?_⟩)
  · intro A Q E s k q
    unfold keeperOf
    exact wpAny_bind (wpAny_load (k _ _ e) (wpAny_pure q))
  · refine wpAny_call (codeAny_mono (hz X.A X.stack s1 hr I1.env0) fun r s' hq => ?_)
    cases r with
    | error e => exact ⟨H1, s1, I1, hq⟩
    | ok fl =>
      cases fl with
      | ret u => exact I1.after hq
      | next => exact False.elim hq
      | brk => exact False.elim hq
      | cont => exact False.elim hq
end L2
set_option Elab.async false
set_option linter.all false
set_option maxRecDepth 100000
namespace L2
open PySem PySem.Spec PyProof.Rows
structure Frz (H Hf : Hp) (cl : List (Str × Addr)) (N : List Str) (names : List (Str × NameKind)) (σ : St) : Prop where
  sub : ∀ b u, H b = some u → Hf b = some u
  out : ∀ b, b ∉ cl.map (·.2) → Hf b = H b
  cells : Cells Hf cl
  nin : ∀ b u, H b = some u → b ∉ cl.map (·.2)
  val : ∀ (i : Nat) x v, N[i]? = some x → σ[i]? = some (some v) → names.lookup x = some .cell → ∃ c o u, cl.lookup x = some c ∧ Hf c = some (frC o) ∧ o.data = .cell (some u) ∧ RelV v u
def tCallF (cl : List (Str × Addr)) (N : List Str) (names : List (Str × NameKind)) (sp : Sp) (t : TA) : TE := fun σ H Q => t σ H fun vs H1 => ∀ Hf, Frz H1 Hf cl N names σ → sp vs Hf (fun v H2 => Q v (delL H2 (cl.map (·.2)))) E0
theorem pe_callF {X : Cx} {k : Nat} {ps : List Str} {sp : Sp} {x : Str} {p pos : Pos} {e : Expr} {es : List Expr} {t : TA} {cl : List (Str × Addr)} {N : List Str} {names : List (Str × NameKind)} (C : FnC X.prog X.w X.K X.mg X.base k x ps sp) (hr : Room k X.A) (hg : Gl X x) (ha : PA X (e :: es) t)
    (hfn : ∀ x, X.fn x = true) (hex : X.ex = []) (hs : X.stack = X.env :: X.outer) (hL : X.env.frame = some X.env.locals) (hcl : X.env.cells = cl) (hN : X.N = N) (hnm : X.env.scope.names = names) (cap : ∀ q ∈ cl, cl.lookup q.1 = some q.2)
    (hdb : (x == ("__debug__" : Str)) = false := by decide) (he : starEach (e :: es) X.env = (false, eval e X.env) :: starEach es X.env := by rfl) (hpl : (backTo pos (starEach es X.env)).any (·.1) = false := by rfl) :
    PE X (.Call (.Name x p) (e :: es) [] pos) (tCallF cl N names sp t) := by
  subst hcl hN hnm
  obtain ⟨f, fd, F, hm, hk, hb⟩ := C
  intro pins s σ H Q I h
  refine wpAny_Call_Name_kw (ld_glob I hg hm ?_ hdb)
  refine PySem.W.callWith_K (h₀ := X.base) I.ok.mod.kin hk (thn (ha pos pins s σ H _ I h) fun us s1 ⟨vs, H1, I1, r, q⟩ => ⟨I1.kIn, ?_⟩) he hpl
  have cellAt : ∀ b ∈ X.env.cells.map (·.2), ∃ n o v, X.env.cells.lookup n = some b ∧ s1.heap.get? b = some o ∧ o.data = .cell v ∧ H1 b = none := fun b hb => by
    obtain ⟨⟨n, c⟩, hq, rfl⟩ := List.mem_map.mp hb
    have e1 := cap _ hq
    obtain ⟨v, o, e2, e3⟩ := I1.cell n c e1
    exact ⟨n, o, v, e1, e2, e3, I1.freeC n c e1⟩
  have high : ∀ b ∈ X.env.cells.map (·.2), X.s_0.heap.objs.size ≤ b := fun b hb => by
    obtain ⟨n, o, v, e1, _⟩ := cellAt b hb
    exact I1.ok.cab n b (hfn n) e1
  have low : ∀ b o, X.s_0.heap.get? b = some o → b ∉ X.env.cells.map (·.2) := fun b o g z => absurd (Heap.lt_size g) (Nat.not_lt.mpr (high b z))
  have frm : ∀ b ∈ frs X.stack, b ∉ X.env.cells.map (·.2) := fun b hb z => by
    rw [hs] at hb
    have sub : frs (X.env :: X.outer) = X.env.locals :: frs X.outer := by simp [frs, List.filterMap_cons, hL]
    rw [sub] at hb
    obtain ⟨n, o, v, e1, _⟩ := cellAt b z
    rcases List.mem_cons.mp hb with rfl | hb
    · exact I1.cne n _ e1 rfl
    · obtain ⟨_, o', g, _⟩ := I1.ok.funs.mem hb
      exact low b o' g z
  obtain ⟨Hf, hHf⟩ : ∃ Hf : Hp, Hf = fun b => if b ∈ X.env.cells.map (·.2) then (s1.heap.get? b).map frC else H1 b := ⟨_, rfl⟩
  have fin : ∀ b ∈ X.env.cells.map (·.2), Hf b = (s1.heap.get? b).map frC := fun b hb => by rw [hHf]; show (if _ then _ else _) = _; rw [if_pos hb]
  have fout : ∀ b, b ∉ X.env.cells.map (·.2) → Hf b = H1 b := fun b hb => by rw [hHf]; show (if _ then _ else _) = _; rw [if_neg hb]
  have tin : ∀ b u, H1 b = some u → b ∉ X.env.cells.map (·.2) := fun b u g z => by
    obtain ⟨n, o, v, _, _, _, e⟩ := cellAt b z
    rw [e] at g; cases g
  have frzAt : ∀ b ∈ X.env.cells.map (·.2), ∃ o v, Hf b = some (frC o) ∧ s1.heap.get? b = some o ∧ o.data = .cell v := fun b hb => by
    obtain ⟨n, o, v, _, e2, e3, _⟩ := cellAt b hb
    exact ⟨o, v, by rw [fin b hb, e2]; rfl, e2, e3⟩
  have Z : Cells Hf X.env.cells := ⟨I1.ok.inj, fun q hq => by
    obtain ⟨o, v, e1, _, e3⟩ := frzAt q.2 (List.mem_map_of_mem hq)
    exact ⟨o, v, e1, e3⟩⟩
  have okf : HOk X.prog X.w Hf s1.heap := fun b u g => by
    by_cases hb : b ∈ X.env.cells.map (·.2)
    · obtain ⟨o, v, e1, e2, _⟩ := frzAt b hb
      rw [e1] at g; cases g
      exact frC_ok e2
    · rw [fout b hb] at g
      exact (I1.hok b u g).stay (fun _ _ _ z => z) (fun c z => by rw [fout c (tin c _ z)]; exact z) fun c xs z => by rw [fout c (tin c _ z)]; exact z
  have F0 : Frz H1 Hf X.env.cells X.N X.env.scope.names σ := by
    refine ⟨fun b u g => by rw [fout b (tin b u g)]; exact g, fout, Z, tin, fun i y v e1 e2 e3 => ?_⟩
    obtain ⟨m, _, hl⟩ := I1.loc
    obtain ⟨u, r, lk⟩ := hl i y v e1 e2 (.inr (.inl e3))
    rcases lk with ⟨k, _⟩ | ⟨_, c, e4, o, e5, e6⟩
    · have k' : X.env.scope.names.lookup y = some .local := k
      rw [e3] at k'; cases k'
    · have hc : c ∈ X.env.cells.map (·.2) := List.mem_map.mpr ⟨(y, c), PySem.mem_of_lookup e4, rfl⟩
      exact ⟨c, o, u, e4, by rw [fin c hc, e5]; rfl, e6, r⟩
  have e0 : Env0 X.prog X.w X.K X.mg X.base X.A X.stack s1 Hf := by
    have e := I1.env0
    refine ⟨e.frames, e.mod, fun b o g => ⟨(e.bs b o g).1, ?_⟩, e.bsz, e.funs, fun b hb => ?_, okf, e.bare⟩
    · rw [fout b (low b o (I1.ok.bs b o g).1)]; exact (e.bs b o g).2
    · rw [fout b (frm b hb)]; exact e.frf b hb
  have hsp := q Hf F0
  have hl : (us ++ []).length = ps.length := by rw [List.append_nil, ← r.length]; exact F.len _ _ _ _ hsp
  have hbi := hb s1 us I1.kIn hl
  rw [List.append_nil] at hbi
  refine wpAny_call (codeAny_mono (F.run X.A X.stack s1 Hf ⟨us, []⟩ us vs _ E0 hr e0 hbi r hsp) fun rr s' hq => ?_)
  cases rr with
  | error e => exact hq.elim
  | ok fl =>
    cases fl with
    | next => exact False.elim hq
    | brk => exact False.elim hq
    | cont => exact False.elim hq
    | ret u =>
      obtain ⟨v, H2, os, bare, un, hok2, rv, q2⟩ := hq
      have Z2 : Cells H2 X.env.cells := ⟨Z.inj, fun q hq => by
        obtain ⟨o, v, e1, e2⟩ := Z.fr q hq
        exact ⟨o, v, un.frzs _ o _ e1, e2⟩⟩
      have un2 : Un (frs X.stack) [] H1 (delL H2 (X.env.cells.map (·.2))) s1.heap s'.heap := by
        refine ⟨fun b o g n hb hx => ?_, fun b o g n hb hx => ?_, fun b o g n hx => ?_, un.there, fun b xs g => ?_, fun b o v g => ?_, fun b ps g => ?_⟩
        · by_cases hc : b ∈ X.env.cells.map (·.2)
          · obtain ⟨o', v, e1, e2, _⟩ := frzAt b hc
            rw [g] at e2; cases e2
            exact (hok2 b _ (un.frzs b o _ e1)).1
          · exact un.keep b o g (by rw [fout b hc]; exact n) hb hx
        · have hc := frm b hb
          exact un.slot b o g (by rw [fout b hc]; exact n) hb hx
        · by_cases hc : b ∈ X.env.cells.map (·.2)
          · exact delL_in hc
          · rw [delL_out hc]
            exact un.free b o g (by rw [fout b hc]; exact n) hx
        · have hc := tin b _ g
          rw [delL_out hc]
          exact un.tups b xs (by rw [fout b hc]; exact g)
        · have hc := tin b _ g
          rw [delL_out hc]
          exact un.frzs b o v (by rw [fout b hc]; exact g)
        · have hc := tin b _ g
          rw [delL_out hc]
          exact un.tbls b ps (by rw [fout b hc]; exact g)
      exact ⟨v, _, I1.call' os un2 (Z2.hok hok2) bare (fun b z => by cases z), rv, q2⟩
theorem go_callF {cl : List (Str × Addr)} {N : List Str} {names : List (Str × NameKind)} {sp : Sp} {t : TA} {σ : St} {H : Hp} {Q : VK} (h : t σ H fun vs H1 => ∀ Hf, Frz H1 Hf cl N names σ → sp vs Hf (fun v H2 => Q v (delL H2 (cl.map (·.2)))) E0) : tCallF cl N names sp t σ H Q := h
structure FunC (K : PySem.W.Frag) (x qual : Str) (st : Stmt) (f : Addr) (fd : FuncData) (cc : Addr) : Prop where
  ex : ∃ (oc : Value) (od : Option Addr) (kV doc pm : Value) (an : Option Addr) (ct : Value) (osl : Array (Option Value)),
    fd = PySem.W.fnOf x qual (defArgs st) (defBody st) (defScope st) .none kV doc pm an (.ref cc) ct ∧ K.lookup f = some ⟨oc, od, .func fd, osl⟩ ∧ PySem.W.codeIn K (.ref cc) qual = true
theorem FunC.ok {P : Program} {w : World} {K : PySem.W.Frag} {mg : Str → Option Value} {base : Heap} {x qual : Str} {st : Stmt} {f : Addr} {fd : FuncData} {cc : Addr} {N ps : List Str} {k : Nat} {sp : Sp} (F : FunC K x qual st f fd cc) (S : FnScope N ps (defScope st)) (len : ∀ vs H Q E, sp vs H Q E → vs.length = ps.length)
    (hbody : ∀ (A : Around) (outer : List Env) (s : Shared) (H : Hp) (vs : List V) (Q : VK) (E : XK), Room k (A.deeper (envOfC qual (defScope st) s.heap.objs.size f (.ref cc))) → sp vs H Q E →
      ∃ t, PSs (cxOf CX0 P w K mg base N qual (defScope st) f (.ref cc) A outer s H E).nox (defBody st) t ∧ t { nx := fun _ H' => Q .non H', rt := Q } (start N vs) H) : FnOk P w K mg base CX0 (k + 1) f fd ps sp := by
  obtain ⟨oc, od, kV, doc, pm, an, ct, osl, rfl, lk, hcd⟩ := F.ex
  refine fn_of lk hcd S len fun A outer s H vs Q E hr hsp => ?_
  obtain ⟨t, h, q⟩ := hbody A outer s H vs Q E hr hsp
  exact ⟨t, h.nox, q⟩
end L2
set_option Elab.async false
set_option linter.all false
set_option maxRecDepth 100000
namespace L2
open PySem PySem.Spec PyProof.Rows
def OnlyT (H : Hp) (T : Addr) : Prop := H T = some (.tbl #[]) ∧ ∀ b, b ≠ T → H b = none ∨ ∃ o xs, H b = some (.frz o (.lst xs))
theorem law_callT {P : Program} {w : World} {K : PySem.W.Frag} {mg mb : Str → Option Value} {k : Nat} {fa a cc T : Addr} {fd : FuncData} {x : Str} {sp : Sp} {s₁ : Shared} {vs : List Value} {ns : List Int}
    (KX : K.In s₁.heap) (hns : s₁.heap.Ns mainGlobals mg) (hb : s₁.heap.Ns builtinsNs mb) (hbb : ∀ x : Str, x ≠ "__name__" → mb x = bootBuiltins x) (hlim : s₁.heap.NoLimit) (hg : s₁.gens = #[])
    (ha : s₁.heap.get? a = some { cls := .type "list", data := .seq vs.toArray }) (hi : IntsAre vs ns) (hl : ns.length ≤ sizeLine) (hr : Room k callerA) (hT : s₁.heap.get? T = some (PySem.W.tabObj #[])) (hc : PySem.W.CodeHd s₁.heap cc T) (hbm : BMod s₁.heap mg) (hnt : PySem.W.noTabs K = true)
    (F : ∀ base : Heap, K.In base → base.Ns mainGlobals mg → PySem.W.CodeHd base cc T → BMod base mg → FnOk P w K mg base CX0 k fa fd [x] sp) (hbind : ∀ (s : Shared) (u : Value), BindsTo s fd ⟨[u], []⟩ [(x, u)])
    (hsp : ∀ H : Hp, OnlyT H T → SqL K H a (ns.map V.int) → sp [.ref a] H (fun v _ => v = .bl true) E0) :
    codeAny (model P w) callerA (.call (.ref fa) ⟨[.ref a], []⟩) (fun r s' => r = .ok (.ret (.bool true)) ∧ OldK s₁.heap s'.heap ∧ s'.os = s₁.os ∧ AllBare s'.gens) s₁ := by
  have rv := vals_ints hi
  have lenV := hi.length
  have aT : a ≠ T := fun z => by
    rw [z, hT] at ha
    have c := congrArg (fun o : Option Obj => o.map (·.cls)) ha
    simp at c
  have KT : K.lookup T = none := by
    cases q : K.lookup T with
    | none => rfl
    | some o =>
      have e := KX T o q
      rw [hT] at e
      cases e
      have h2 := List.all_eq_true.mp hnt _ (PySem.W.mem_of_lookupK q)
      exact absurd (show false = true from h2) Bool.false_ne_true
  have core : ∀ H : Hp, OnlyT H T → SqL K H a (ns.map V.int) → HOk P w H s₁.heap → (∀ b, H b ≠ none → b = a ∨ b = T) → (H a ≠ none → K.lookup a = none) →
      codeAny (model P w) callerA (.call (.ref fa) ⟨[.ref a], []⟩) (fun r s' => r = .ok (.ret (.bool true)) ∧ OldK s₁.heap s'.heap ∧ s'.os = s₁.os ∧ AllBare s'.gens) s₁ := by
    intro H hO hS hok hA hK
    have base_of : ∀ {b : Addr} {o : Obj}, s₁.heap.get? b = some o → H b = none → (hidT s₁.heap H).get? b = some o := fun e n => hidT_get e n
    have off : ∀ {b : Addr} {o : Obj}, s₁.heap.get? b = some o → (∀ xs : Array Value, ∀ n, o.data ≠ .seq xs n) → (∀ ps, o ≠ PySem.W.tabObj ps) → H b = none := fun {b o} e d1 d2 => by
      cases q : H b with
      | none => rfl
      | some u =>
        rcases hA b (by rw [q]; simp) with rfl | rfl
        · rw [ha] at e; cases e
          exact absurd rfl (d1 _ _)
        · rw [hT] at e; cases e
          exact absurd rfl (d2 _)
    have nsK : ∀ {b : Addr} {m : Str → Option Value}, s₁.heap.Ns b m → (hidT s₁.heap H).Ns b m := fun {b m} ⟨o, es, ep, e, d, r⟩ => ⟨o, es, ep, base_of e (off e (by intro xs n; rw [d]; simp) (by rintro ps rfl; cases d)), d, r⟩
    have hKb : K.In (hidT s₁.heap H) := fun b o e => base_of (KX b o e) (by
      cases q : H b with
      | none => rfl
      | some u =>
        rcases hA b (by rw [q]; simp) with rfl | rfl
        · rw [hK (by rw [q]; simp)] at e; cases e
        · rw [KT] at e; cases e)
    have hM : Mod K mg (hidT s₁.heap H) := ⟨hKb, nsK hns, ⟨mb, nsK hb, hbb⟩, let ⟨mc, h1, h2⟩ := hlim; ⟨mc, nsK h1, h2⟩⟩
    have hcb : PySem.W.CodeHd (hidT s₁.heap H) cc T := by
      obtain ⟨o, ws, file, tf, flags, tg, inF, text, tt, e, c, d, r⟩ := hc
      exact ⟨o, ws, file, tf, flags, tg, inF, text, tt, base_of e (off e (by intro xs n; rw [d]; simp) (by rintro ps rfl; cases c)), c, d, r⟩
    have hbb2 : BMod (hidT s₁.heap H) mg := by
      obtain ⟨bm, ob, e1, e2, e3, e4, e5, e6⟩ := hbm
      exact ⟨bm, ob, e1, e2, base_of e3 (off e3 (by intro xs n; rw [e6]; simp) (by rintro ps rfl; cases e4)), e4, e5, e6⟩
    have e0 : Env0 P w K mg (hidT s₁.heap H) callerA [] s₁ H := ⟨rfl, hM, fun b o e => of_hidT e, Nat.le_of_eq (hidT_size _ _), trivial, fun b hb => absurd (show b ∈ ([] : List Addr) from hb) (by simp), hok, .of_eq hg⟩
    refine codeAny_mono ((F _ hKb (nsK hns) hcb hbb2).run callerA [] s₁ H ⟨[.ref a], []⟩ [.ref a] [.ref a] _ _ hr e0 (hbind s₁ (.ref a)) (.cons rfl .nil) (hsp H hO hS)) fun r s' h => ?_
    cases r with
    | error e => exact h.elim
    | ok fl =>
      cases fl with
      | next => exact False.elim h
      | brk => exact False.elim h
      | cont => exact False.elim h
      | ret u =>
        obtain ⟨v, H', os, bare, un, hok', r', q⟩ := h
        have q' : v = .bl true := q
        subst q'
        obtain rfl : u = Value.bool true := r'
        have no : ∀ b : Addr, b ∉ ([] : List Addr) := fun b z => by cases z
        refine ⟨rfl, ⟨fun b o e => ?_, fun b o e => un.there b o e (no b)⟩, os, bare⟩
        by_cases hbT : b = T
        · subst hbT
          obtain ⟨more, z⟩ := un.tbls b #[] hO.1
          have z2 : s'.heap.get? b = some { cls := .none, data := .fields (#[] ++ more) } := hok' b _ z
          rw [hT] at e
          cases e
          exact .inr (.inl ⟨(hc.tab hT).isCodeTable, rfl, #[], more, rfl, z2⟩)
        · left
          rcases hO.2 b hbT with z | ⟨ob, xs, z⟩
          · exact un.keep b o e z (by intro z; exact absurd (show b ∈ ([] : List Addr) from z) (by simp)) (no b)
          · have z2 := un.frzs b ob _ z
            obtain ⟨e1, _⟩ := hok b _ z
            obtain ⟨e2, _⟩ := hok' b _ z2
            rw [e] at e1; cases e1
            exact e2
  have okT : ∀ H : Hp, ObjOk P w H s₁.heap T (.tbl #[]) := fun H => hT
  cases hk : K.lookup a with
  | some o =>
    have e := KX a o hk
    rw [ha] at e
    cases e
    refine core (upd (fun _ => none) T (.tbl #[])) ⟨upd_same, fun b hb => .inl (upd_ne hb)⟩ (.inr ⟨_, vs.toArray, _, hk, rfl, rfl, rfl, by rw [List.size_toArray, lenV]; exact hl, by simpa using rv⟩) (fun b u z => ?_) (fun b z => ?_) fun z => absurd (upd_ne aT) z
    · by_cases hb : b = T
      · subst hb; rw [upd_same] at z; cases z; exact hT
      · rw [upd_ne hb] at z; cases z
    · by_cases hb : b = T
      · exact .inr hb
      · exact absurd (upd_ne hb) z
  | none =>
    refine core (upd (upd (fun _ => none) T (.tbl #[])) a (.frz { cls := .type "list", data := .seq vs.toArray } (.lst (ns.map V.int)))) ⟨by rw [upd_ne aT.symm]; exact upd_same, fun b hb => ?_⟩ (.inl (.inr ⟨{ cls := .type "list", data := .seq vs.toArray }, upd_same⟩)) (fun b u z => ?_) (fun b z => ?_) fun _ => hk
    · by_cases h2 : b = a
      · subst h2; exact .inr ⟨_, _, upd_same⟩
      · exact .inl (by rw [upd_ne h2, upd_ne hb])
    · by_cases h2 : b = a
      · subst h2
        rw [upd_same] at z; cases z
        exact ⟨ha, by rw [List.length_map]; exact hl, vs, _, rv, ha⟩
      · rw [upd_ne h2] at z
        by_cases hb : b = T
        · subst hb; rw [upd_same] at z; cases z; exact hT
        · rw [upd_ne hb] at z; cases z
    · by_cases h2 : b = a
      · exact .inl h2
      · by_cases hb : b = T
        · exact .inr hb
        · exact absurd (by rw [upd_ne h2, upd_ne hb]) z
theorem walkT_of {l : PySem.W.OpenLaw} {n k : Nat} {q : Program} {loose : List Str} {XP : (Str → Option Value) → Heap → Prop} {YP : World → Heap → Prop} {d e : DefRec} {K : Params → PySem.W.Frag} {sp : World → Sp} {x : Str} {cc T : World → Addr}
    (hn : l.most = some n) (hn2 : n ≤ sizeLine) (hdf : d.params.defaults = []) (hr : Room k callerA) (hrec : (recsOf q).find? (fun r => r.name == Str.ofString "law") = some e)
    (hY : ∀ (w : World) (h : Heap), YP w h → (K w.params).In h)
    (F : ∀ (w : World) (mg : Str → Option Value) (fa : Addr) (h : Heap), (K w.params).In h → h.Ns mainGlobals mg → mg d.name = some (.ref fa) → PySem.W.noTabs (K w.params) = true ∧ PySem.W.tabIn (K w.params) "law" = some (cc w, T w) ∧
      ∃ fd : FuncData, (∀ (s : Shared) (u : Value), BindsTo s fd ⟨[u], []⟩ [(x, u)]) ∧
        ∀ base : Heap, (K w.params).In base → base.Ns mainGlobals mg → PySem.W.CodeHd base (cc w) (T w) → BMod base mg → FnOk l.prog w (K w.params) mg base CX0 k fa fd [x] (sp w))
    (hsp : ∀ (w : World) (H : Hp) (a : Addr) (ns : List Int), ns.length ≤ n → OnlyT H (T w) → SqL (K w.params) H a (ns.map V.int) → sp w [.ref a] H (fun v _ => v = .bl true) E0) :
    PySem.W.WalkO q loose XP YP l.row.toRowW d [] (fun f vs => PySem.call f vs) := by
  refine Att.attach_call hn hdf fun w s₀ s₁ mg mb fa o pm cd doc a vs ns G Y ho hd hcd hmg hobj hints hlen hg => ?_
  have KX := hY w _ Y
  obtain ⟨hnt, ht, fd, hb, hF⟩ := F w mg fa _ KX G.T.g hmg
  obtain ⟨hc, hT⟩ := PySem.W.tab_of G.T KX hrec ht
  exact law_callT KX G.T.g G.T.b G.T.builtins G.T.nolimit hg hobj hints (Nat.le_trans hlen hn2) hr hT hc G.T.bmain hnt hF hb fun H hO hS => hsp w H a ns hlen hO hS
end L2
set_option Elab.async false
set_option linter.all false
set_option maxRecDepth 100000
namespace L2
open PySem PySem.Spec PyProof.Rows
section
variable {σ : St} {H : Hp} {Q : VK} {K : PySem.W.Frag} {nx bk ct : St → Hp → Prop} {rt : VK} {p b : Addr} {g : TG} {tb : TS}
end
section
variable {X : Cx} (K : PySem.W.Frag) {o e value : Expr} {f : Str} {pos pos' tpos : Pos} {ta tv : TE}
end
theorem pe_gref {X : Cx} {x : Str} {a : Addr} {pos : Pos} (hg : Gl X x) (hm : X.mg x = some (.ref a)) (hd : (x == ("__debug__" : Str)) = false := by decide) : PE X (.Name x pos) (tC (.ref a)) := pe_glob (v := .ref a) hg hm rfl hd
section
variable {σ : St} {H : Hp} {K : PySem.W.Frag} {ta : TE} {QB : Bool → Hp → Prop} {p : Addr} {Q : VK}
end
structure ClsN (K : PySem.W.Frag) (C : Addr) (ks : List Str) : Prop where
  c : Cls K C
  n : ∀ k ∈ ks, NoAttr K C k
section
variable {H : Hp} {Q : VK} {K : PySem.W.Frag} {a C dx : Addr} {ks : List Str} {vs : List V} {k : Str} {v y : V} {nx : St → Hp → Prop} {σ : St}
end
end L2
set_option Elab.async false
set_option linter.all false
set_option maxRecDepth 100000
namespace L2
open PySem PySem.Spec PyProof.Rows
theorem pss_any {X : Cx} {l : List Stmt} : PSs X l (fun _ _ _ => False) := fun _ _ _ _ _ _ h => h.elim
def spXI (K : PySem.W.Frag) (W C : Addr) (n : Str) : Sp := fun vs H Q _ => ∃ x i, vs = [.ref x, .int i] ∧ H x = some (XO x C none) ∧ -1 ≤ i ∧ i ≤ 3000 ∧ ∀ dx, H dx = none → dx ≠ x → Q .non (upd (upd H dx (.xd [(n, .int i)])) x (XO x C (some dx)))
section
variable {σ : St} {H H1 : Hp} {t : TA} {tv ta te : TE} {D : Ends} {E : XK} {K : PySem.W.Frag} {W C : Addr} {n m : Str} {sp : Sp} {Q : VK} {nx bk ct : St → Hp → Prop} {rt : VK}
theorem go_raiseX (h : t σ H fun vs H1 => vs.length ≤ sizeLine ∧ ∀ x, H1 x = none → sp (.ref x :: vs) (upd H1 x (XO x C none)) (fun v H2 => v = .non ∧ ∃ d, H2 x = some (XO x C d) ∧ E (.ref C) d (del H2 x)) E0) : tRaiseX C sp E t D σ H := h
theorem go_raise0 (h : t σ H fun vs H1 => vs.length ≤ sizeLine ∧ E (.ref C) none H1) : tRaise0 C E t D σ H := h
theorem raise_one {i : Int} (h0 : -1 ≤ i) (h1 : i ≤ 3000) (k : ∀ d H', Same H1 H' → H' d = some (.xd [(n, .int i)]) → E (.ref C) (some d) H') :
    [V.int i].length ≤ sizeLine ∧ ∀ x, H1 x = none → spXI K W C n (.ref x :: [V.int i]) (upd H1 x (XO x C none)) (fun v H2 => v = .non ∧ ∃ d, H2 x = some (XO x C d) ∧ E (.ref C) d (del H2 x)) E0 := by
  refine ⟨Nat.le_of_ble_eq_true rfl, fun x hx => ⟨x, i, rfl, upd_same, h0, h1, fun dx hdx ne => ⟨rfl, some dx, upd_same, k dx _ (fun b u e => ?_) ?_⟩⟩⟩
  · have bx : b ≠ x := ne_of_none e hx
    have bd : b ≠ dx := fun z => by rw [z] at e; rw [upd_ne ne, e] at hdx; cases hdx
    rw [del_ne bx, upd_ne bx, upd_ne bd, upd_ne bx]; exact e
  · rw [del_ne ne, upd_ne ne]; exact upd_same
theorem go_winit (h : t σ H fun vs H1 => ∃ y C d bm z, vs = [.ref y, z] ∧ H1 y = some (XO y C d) ∧ xcIn K C bm = true ∧ Q .non H1) : tWInit K t σ H Q := h
theorem go_sfldX (h : tv σ H fun y H1 => ta σ H1 fun v H2 => ∃ x C d, v = .ref x ∧ H2 x = some (XO x C d) ∧ XF K C (.ref W :: vBm) ∧ PySem.W.findIn K (.ref C) n = some none ∧
  ((d = none ∧ ∀ dx, H2 dx = none → dx ≠ x → nx σ (upd (upd H2 dx (.xd [(n, y)])) x (XO x C (some dx)))) ∨ ∃ dx fs, d = some dx ∧ H2 dx = some (.xd fs) ∧ fs.length ≤ 10 ∧ dx ≠ x ∧ nx σ (upd (upd H2 dx (.xd (putF n y fs))) x (XO x C (some dx))))) : sFldX K W ta tv n ⟨nx, rt, bk, ct⟩ σ H := h
theorem go_fldX (h : te σ H fun v H1 => ∃ y C d fs u bm, v = .ref y ∧ H1 y = some (XD y C (some d)) ∧ H1 d = some (.xd fs) ∧ fs.lookup n = some u ∧ XF K C bm ∧ PySem.W.findIn K (.ref C) n = some none ∧ Q u H1) : tFldX K te n σ H Q := h
end
end L2
set_option Elab.async false
set_option linter.all false
set_option maxRecDepth 100000
namespace L2
open PySem PySem.Spec PyProof.Rows
section
variable {X : Cx}
theorem kEqD (K : PySem.W.Frag) (hu : X.A.units + 64 < cLine) (e : X.K = K := by rfl) : OpR X (compareOp .Eq) (rEqD K) := e ▸ op_eqD hu
theorem countP_eqU {x : V} : ∀ {xs : List V} {us : List Value}, Vals xs us → xs.all flatV = true → us.countP (eqU x) = xs.countP fun y => eqV y x
  | _, _, .nil, _ => rfl
  | y :: xs, u :: us, .cons r t, f => by
    rw [List.all_cons, Bool.and_eq_true] at f
    rw [List.countP_cons, List.countP_cons, eqU_of r f.1, countP_eqU t f.2]
def rCountL : V → List V → Hp → VK → Prop := fun x vs H Q => ∃ l xs y, x = .ref l ∧ vs = [y] ∧ H l = some (.lst xs) ∧ flatV y = true ∧ xs.all flatV = true ∧ Q (.int (xs.countP fun z => eqV z y : Nat)) H
theorem mt_countL : MtM X "list.count" rCountL := by
  intro pins s σ H x vs v us Q I rx rv h
  obtain ⟨l, xs, y, rfl, rfl, hH, fy, fs, q⟩ := h
  cases rx
  obtain ⟨u, rfl, ru⟩ := rv.one
  obtain ⟨z, its, n, r, hl, e⟩ := I.lstM hH
  refine call_meets F.slot_list_count ⟨_, e, rfl⟩ F.entry_list_count (F.args_list_count_2 _ _) (SeqAt.list_countAt l its.toArray n _ _ u (eqU y)) ⟨e, fun w hw => mem_eqAt ru fy r fs w (by simpa using hw), ?_⟩
  refine ⟨.int _, H, I.tok _, ⟨s.toks, ?_⟩, q⟩
  rw [show its.toArray.toList = its from rfl, countP_eqU r fs]
end
section
variable {H : Hp} {Q : VK} {p : Addr} {xs : List V} {y : V}
theorem go_countL (h : H p = some (.lst xs)) (fy : flatV y = true) (fs : xs.all flatV = true) (q : Q (.int (xs.countP fun z => eqV z y : Nat)) H) : rCountL (.ref p) [y] H Q := ⟨p, xs, y, rfl, rfl, h, fy, fs, q⟩
end
end L2
set_option Elab.async false
set_option linter.all false
set_option maxRecDepth 100000
namespace L2
open PySem PySem.Spec PyProof.Rows
theorem kIndex {X : Cx} (K : PySem.W.Frag) (e : X.K = K := by rfl) : MtR X "list.index" (rIndex K) := e ▸ mt_index
theorem go_index {K : PySem.W.Frag} {a : Addr} {ys : List V} {y z : V} {j : Nat} {H : Hp} {Q : VK} (h : H a = some (.lst ys)) (f1 : flatV y = true) (f2 : ys.all flatV = true) (e : ys[j]? = some z) (e2 : eqV z y = true) (no : ∀ (m : Nat) z', m < j → ys[m]? = some z' → eqV z' y = false) (q : Q (.int (j : Nat)) H) : rIndex K (.ref a) [y] H Q :=
  ⟨a, ys, y, j, z, rfl, rfl, SqL.of h, f1, f2, e, e2, no, q⟩
theorem go_isX {K : PySem.W.Frag} {y C D : Addr} {d : Option Addr} {bm : List Value} {b : Bool} {H : Hp} {Q : VK} (h : H y = some (XD y C d)) (F : XF K C bm) (k : PySem.W.kitOne K (.ref C) (.ref D) = some b) (q : Q (.bl b) H) : rIsX K [.ref y, .ref D] H Q := ⟨y, C, d, bm, _, b, rfl, h, F, .inl ⟨D, rfl, k⟩, q⟩
theorem go_isXt {K : PySem.W.Frag} {y C : Addr} {T : String} {d : Option Addr} {bm : List Value} {b : Bool} {H : Hp} {Q : VK} (h : H y = some (XD y C d)) (F : XF K C bm) (k : PySem.W.kitOne K (.ref C) (.type T) = some b) (q : Q (.bl b) H) : rIsX K [.ref y, .ty T] H Q := ⟨y, C, d, bm, _, b, rfl, h, F, .inr ⟨T, rfl, k⟩, q⟩
structure Ks where
  cP : Addr
  cH : Addr
  cW : Addr
  cO : Addr
  cL : Addr
  cG : Addr
  cF : Addr
  cR : Addr
  cM : Addr
  cT : Addr
def Ks.l (k : Ks) : List Addr := [k.cP, k.cH, k.cW, k.cO, k.cL, k.cG, k.cF, k.cR, k.cM, k.cT]
structure KsG (mg : Str → Option Value) (k : Ks) : Prop where
  g_BadProgram : mg "BadProgram" = some (.ref k.cP)
  g_BadHanded : mg "BadHanded" = some (.ref k.cH)
  g_BadWay : mg "BadWay" = some (.ref k.cW)
  g_BadOften : mg "BadOften" = some (.ref k.cO)
  g_BadLog : mg "BadLog" = some (.ref k.cL)
  g_BadWeights : mg "BadWeights" = some (.ref k.cG)
  g_BadFalls : mg "BadFalls" = some (.ref k.cF)
  g_BadPrice : mg "BadPrice" = some (.ref k.cR)
  g_BadMarks : mg "BadMarks" = some (.ref k.cM)
  g_BadText : mg "BadText" = some (.ref k.cT)
def ksIn (K : PySem.W.Frag) (k : Ks) (C : Addr) (i : Nat) : Bool := (List.range 10).all (fun j => PySem.W.kitOne K (.ref C) (.ref (k.l.getD j 0)) == some (decide (j = i))) && PySem.W.kitOne K (.ref C) (.type "ValueError") == some true
structure XK1 (K : PySem.W.Frag) (k : Ks) (W C : Addr) (i : Nat) : Prop where
  f : XF K C (.ref W :: vBm)
  a : k.l[i]? = some C
  s : ksIn K k C i = true
theorem XK1.at_ {K : PySem.W.Frag} {k : Ks} {W C : Addr} {i : Nat} (x : XK1 K k W C i) (j : Nat) {D : Addr} (h : k.l[j]? = some D) : PySem.W.kitOne K (.ref C) (.ref D) = some (decide (j = i)) := by
  have hs := x.s
  unfold ksIn at hs
  rw [Bool.and_eq_true] at hs
  have hj : j < 10 := (List.getElem?_eq_some_iff.mp h).1
  have q := List.all_eq_true.mp hs.1 j (List.mem_range.mpr hj)
  have q' := beq_iff_eq.mp q
  rwa [show k.l.getD j 0 = D by rw [List.getD_eq_getElem?_getD, h]; rfl] at q'
theorem XK1.ve {K : PySem.W.Frag} {k : Ks} {W C : Addr} {i : Nat} (x : XK1 K k W C i) : PySem.W.kitOne K (.ref C) (.type "ValueError") = some true := by
  have hs := x.s
  unfold ksIn at hs
  rw [Bool.and_eq_true] at hs
  exact beq_iff_eq.mp hs.2
section
variable {X : Cx} {o e : Expr} {es : List Expr} {to : TE} {t : TA} {name : Str} {apos cpos : Pos} {T id : String} {r : V → List V → Hp → VK → Prop}
theorem pe_bmK (K : PySem.W.Frag) (pa : PlainAttrs T) (slot : Slot T name id) (hty : typeOf (.builtin id) = pure (.type "method_descriptor")) (hm : MtR X id r) (ho : PE X o to) (ha : PA X (e :: es) t)
    (hbase : attributeBase o name X.env (eval o X.env) = eval o X.env := by rfl)
    (hfew : ((backTo cpos (starEach (e :: es) X.env)).all (fun x => !x.1) && (backToKw cpos (keywordEach [] X.env)).all (fun x => x.1.isSome)
      && decide ((e :: es).length + ([] : List Keyword).length + (if ([] : List Keyword).isEmpty then 0 else 1) < 30)) = true := by rfl)
    (hline : (apos.endLine == cpos.line) = true := by rfl) (hs : starEach (e :: es) X.env = (false, eval e X.env) :: starEach es X.env := by rfl) (hplain : (backTo cpos (starEach es X.env)).any (·.1) = false := by rfl) (hK : X.K = K := by rfl) :
    PE X (.Call (.Attribute o name apos) (e :: es) [] cpos) (tBM K T r to t) := by
  subst hK
  exact pe_bm pa slot hty hm ho ha hbase hfew hline hs hplain
end
theorem CallZ.mono {P : Program} {w : World} {K : PySem.W.Frag} {mg : Str → Option Value} {base : Heap} {k : Nat} {f : Addr} {H : Hp} {Q : VK} {E E' : XK} (h : CallZ P w K mg base (CXE P w) k f H Q E) (hE : ∀ v d H', E v d H' → E' v d H') : CallZ P w K mg base (CXE P w) k f H Q E' :=
  fun A outer s hr e0 => codeAny_mono (h A outer s hr e0) fun r s' q => by
    cases r with
    | ok c => cases c <;> exact q
    | error e =>
      obtain ⟨ea, C, d, B, H', h1, h2, h3, h4, h5, h6, h7, h8⟩ := q
      exact ⟨ea, C, d, B, H', h1, h2, h3, h4, h5, h6, h7, hE _ _ _ h8⟩
end L2
set_option linter.all false
namespace Lw
def lxLt : List Int → List Int → Bool
  | [], [] => false
  | [], _ :: _ => true
  | _ :: _, [] => false
  | x :: xs, y :: ys => if x = y then lxLt xs ys else decide (x < y)
theorem lxLt_tot : ∀ {a b : List Int}, lxLt a b = false → lxLt b a = false → a = b
  | [], [], _, _ => rfl
  | [], _ :: _, h, _ => by simp [lxLt] at h
  | _ :: _, [], _, h => by simp [lxLt] at h
  | x :: xs, y :: ys, h, h' => by
    unfold lxLt at h h'
    by_cases e : x = y
    · subst e
      rw [if_pos rfl] at h h'
      rw [lxLt_tot h h']
    · rw [if_neg e] at h
      rw [if_neg (fun z => e z.symm)] at h'
      have h1 := of_decide_eq_false h
      have h2 := of_decide_eq_false h'
      omega
theorem lxLt_neg : ∀ {a b c : List Int}, lxLt a b = false → lxLt b c = false → lxLt a c = false
  | [], b, [], _, _ => rfl
  | [], [], _ :: _, _, h => by simp [lxLt] at h
  | [], _ :: _, _ :: _, h, _ => by simp [lxLt] at h
  | _ :: _, _, [], _, _ => rfl
  | _ :: _, [], _ :: _, _, h => by simp [lxLt] at h
  | x :: xs, y :: ys, z :: zs, h, h' => by
    unfold lxLt at h h' ⊢
    by_cases e : x = y
    · subst e
      rw [if_pos rfl] at h
      by_cases e' : x = z
      · subst e'
        rw [if_pos rfl] at h' ⊢
        exact lxLt_neg h h'
      · rw [if_neg e'] at h' ⊢
        exact h'
    · rw [if_neg e] at h
      have h1 := of_decide_eq_false h
      by_cases e' : y = z
      · subst e'
        rw [if_neg e]
        exact h
      · rw [if_neg e'] at h'
        have h2 := of_decide_eq_false h'
        rw [if_neg (by omega)]
        exact decide_eq_false (by omega)
def prLt (a b : Int × List Int) : Bool := if a.1 = b.1 then lxLt a.2 b.2 else decide (a.1 < b.1)
theorem prLt_tot {a b : Int × List Int} (h : prLt a b = false) (h' : prLt b a = false) : a = b := by
  obtain ⟨a1, a2⟩ := a
  obtain ⟨b1, b2⟩ := b
  unfold prLt at h h'
  dsimp only at h h'
  by_cases e : a1 = b1
  · subst e
    rw [if_pos rfl] at h h'
    rw [lxLt_tot h h']
  · rw [if_neg e] at h
    rw [if_neg (fun z => e z.symm)] at h'
    have h1 := of_decide_eq_false h
    have h2 := of_decide_eq_false h'
    omega
theorem prLt_neg {a b c : Int × List Int} (h : prLt a b = false) (h' : prLt b c = false) : prLt a c = false := by
  obtain ⟨a1, a2⟩ := a
  obtain ⟨b1, b2⟩ := b
  obtain ⟨c1, c2⟩ := c
  unfold prLt at h h' ⊢
  dsimp only at h h' ⊢
  by_cases e : a1 = b1
  · subst e
    rw [if_pos rfl] at h
    by_cases e' : a1 = c1
    · subst e'
      rw [if_pos rfl] at h' ⊢
      exact lxLt_neg h h'
    · rw [if_neg e'] at h' ⊢
      exact h'
  · rw [if_neg e] at h
    have h1 := of_decide_eq_false h
    by_cases e' : b1 = c1
    · subst e'
      rw [if_neg e]
      exact h
    · rw [if_neg e'] at h'
      have h2 := of_decide_eq_false h'
      rw [if_neg (by omega)]
      exact decide_eq_false (by omega)
theorem prLt_cons {c c' d : Int} {m : Int} {a b : List Int} (h : prLt (c, a) (c', b) = false) : prLt (d + c, m :: a) (d + c', m :: b) = false := by
  unfold prLt at h ⊢
  dsimp only at h ⊢
  by_cases e : c = c'
  · subst e
    rw [if_pos rfl] at h ⊢
    unfold lxLt
    rw [if_pos rfl]
    exact h
  · rw [if_neg e] at h
    have h1 := of_decide_eq_false h
    rw [if_neg (by omega)]
    exact decide_eq_false (by omega)
def seg (W : List Int) (a b : Int) : Int := ((W.drop a.toNat).take (b.toNat - a.toNat)).sum
def againM (W F : List Int) (s e : Int) : Int := ((F.filter fun f => decide (s ≤ f) && decide (f < e)).map fun f => seg W s f).sum
def Cm (W F : List Int) (p : Int) : Int → List Int → Int
  | s, [] => againM W F s (W.length + 1)
  | s, m :: r => againM W F s m + p + Cm W F p m r
def Adm (s n : Int) (ms : List Int) : Prop := ms.Pairwise (· < ·) ∧ ∀ m ∈ ms, s < m ∧ m < n
structure Opt (W F : List Int) (p s : Int) (x : Int × List Int) : Prop where
  adm : Adm s W.length x.2
  val : x.1 = Cm W F p s x.2
  low : ∀ ms, Adm s W.length ms → prLt (Cm W F p s ms, ms) x = false
theorem Opt.uniq {W F : List Int} {p s : Int} {x y : Int × List Int} (h : Opt W F p s x) (h' : Opt W F p s y) : x = y := by
  refine prLt_tot ?_ ?_
  · have q := h'.low x.2 h.adm
    rw [← h.val] at q
    exact q
  · have q := h.low y.2 h'.adm
    rw [← h'.val] at q
    exact q
def chs (W F : List Int) (p s : Int) (B : Nat → Int × List Int) : Nat → List (Int × List Int)
  | 0 => [(againM W F s (W.length + 1), [])]
  | k + 1 => chs W F p s B k ++ [(againM W F s (s + 1 + k) + p + (B k).1, (s + 1 + k) :: (B k).2)]
theorem chs_length (W F : List Int) (p s : Int) (B : Nat → Int × List Int) : ∀ k, (chs W F p s B k).length = k + 1
  | 0 => rfl
  | k + 1 => by rw [chs, List.length_append, chs_length W F p s B k]; rfl
theorem chs_mem {W F : List Int} {p s : Int} {B : Nat → Int × List Int} {x : Int × List Int} : ∀ {k : Nat}, x ∈ chs W F p s B k → x = (againM W F s (W.length + 1), []) ∨ ∃ j, j < k ∧ x = (againM W F s (s + 1 + j) + p + (B j).1, (s + 1 + j) :: (B j).2)
  | 0, h => by rw [chs] at h; exact .inl (by simpa using h)
  | k + 1, h => by
    rw [chs, List.mem_append] at h
    rcases h with h | h
    · rcases chs_mem h with h | ⟨j, hj, h⟩
      · exact .inl h
      · exact .inr ⟨j, by omega, h⟩
    · exact .inr ⟨k, by omega, by simpa using h⟩
theorem chs_zero {W F : List Int} {p s : Int} {B : Nat → Int × List Int} : ∀ k : Nat, (againM W F s (W.length + 1), []) ∈ chs W F p s B k
  | 0 => by rw [chs]; exact .head _
  | k + 1 => by rw [chs]; exact List.mem_append_left _ (chs_zero k)
theorem chs_at {W F : List Int} {p s : Int} {B : Nat → Int × List Int} {j : Nat} : ∀ {k : Nat}, j < k → (againM W F s (s + 1 + j) + p + (B j).1, (s + 1 + j) :: (B j).2) ∈ chs W F p s B k
  | 0, h => by omega
  | k + 1, h => by
    rw [chs]
    by_cases e : j = k
    · subst e; exact List.mem_append_right _ (.head _)
    · exact List.mem_append_left _ (chs_at (by omega))
theorem Adm.tail {s n m : Int} {r : List Int} (h : Adm s n (m :: r)) : Adm m n r ∧ s < m ∧ m < n := by
  obtain ⟨h1, h2⟩ := h
  rw [List.pairwise_cons] at h1
  exact ⟨⟨h1.2, fun x hx => ⟨h1.1 x hx, (h2 x (.tail _ hx)).2⟩⟩, h2 m (.head _)⟩
theorem Adm.cons {s n m : Int} {r : List Int} (h : Adm m n r) (h1 : s < m) (h2 : m < n) : Adm s n (m :: r) :=
  ⟨List.pairwise_cons.mpr ⟨fun x hx => (h.2 x hx).1, h.1⟩, fun x hx => by
    rcases List.mem_cons.mp hx with rfl | hx
    · exact ⟨h1, h2⟩
    · exact ⟨by have := (h.2 x hx).1; omega, (h.2 x hx).2⟩⟩
theorem Adm.nil (s n : Int) : Adm s n [] := ⟨List.Pairwise.nil, fun _ h => nomatch h⟩
theorem opt_step {W F : List Int} {p s : Int} {B : Nat → Int × List Int} {k : Nat} {x : Int × List Int} (hk : (k : Int) = W.length - (s + 1) ∨ (k = 0 ∧ (W.length : Int) ≤ s + 1)) (hB : ∀ j, j < k → Opt W F p (s + 1 + j) (B j))
    (hx : x ∈ chs W F p s B k) (hlow : ∀ y ∈ chs W F p s B k, prLt y x = false) : Opt W F p s x := by
  refine ⟨?_, ?_, fun ms hm => ?_⟩
  · rcases chs_mem hx with rfl | ⟨j, hj, rfl⟩
    · exact Adm.nil _ _
    · exact (hB j hj).adm.cons (by omega) (by omega)
  · rcases chs_mem hx with rfl | ⟨j, hj, rfl⟩
    · rfl
    · show _ = againM W F s (s + 1 + j) + p + Cm W F p (s + 1 + j) (B j).2
      rw [← (hB j hj).val]
  · cases ms with
    | nil => exact hlow _ (chs_zero k)
    | cons m r =>
      obtain ⟨ha, h1, h2⟩ := hm.tail
      obtain ⟨j, hj, e⟩ : ∃ j : Nat, j < k ∧ m = s + 1 + j := ⟨(m - (s + 1)).toNat, by omega, by omega⟩
      subst e
      refine prLt_neg ?_ (hlow _ (chs_at hj))
      exact prLt_cons ((hB j hj).low r ha)
end Lw
set_option Elab.async false
set_option linter.all false
set_option maxRecDepth 100000
namespace L2
open PySem PySem.Spec PyProof.Rows
section
variable {X : Cx} {e st : Expr} {te : TE} {t3 : TO} {p2 pos : Pos}
end
section
variable {σ : St} {H : Hp} {Q : VK} {K : PySem.W.Frag} {te : TE} {t3 : TO} {p : Addr} {xs : List V} {ns : List Int}
end
end L2
set_option Elab.async false
set_option linter.all false
set_option maxRecDepth 100000
namespace L2
open PySem PySem.Spec PyProof.Rows
section
variable {prog : Program} {w : World} {A : Around} {E : Value → Shared → Prop} {s : Shared}
end
section
variable {prog : Program} {w : World} {A : Around} {E : Value → Shared → Prop} {s : Shared}
end
section
variable {K : PySem.W.Frag} {t : TA} {σ : List (Option V)} {H : Hp} {R : It → Hp → Prop}
end
end L2
set_option Elab.async false
set_option linter.all false
set_option maxRecDepth 100000
namespace L2
open PySem
section
variable {K : PySem.W.Frag} {σ : St} {H : Hp} {nx : St → Hp → Prop} {rt : VK} {bk ct : St → Hp → Prop} {tb : TS} {g : TG} {a b : Addr} {t : TA} {R : It → Hp → Prop}
theorem fq_zipL (xs ys : List V) (hlen : xs.length = ys.length) (Pv : Nat → St → Hp → Prop) (h0 : Pv 0 σ H) (hl : ∀ (i : Nat) (σ : St) (H : Hp), i ≤ xs.length → Pv i σ H → SqL K H a xs ∧ SqL K H b ys)
    (hs : ∀ (i : Nat) (x y : V) (σ : St) (H : Hp) (t : Addr), xs[i]? = some x → ys[i]? = some y → H t = none → Pv i σ H → g (.ref t) σ (upd H t (.tup [x, y])) fun σ2 H2 => tb ⟨Pv (i + 1), rt, nx, Pv (i + 1)⟩ σ2 H2) (hd : ∀ σ H, Pv xs.length σ H → nx σ H) :
    forQ (Itz K a b) g tb ⟨nx, rt, bk, ct⟩ σ H := by
  refine ⟨fun i m σ H => m = xs.length - i ∧ i ≤ xs.length ∧ Pv i σ H, ⟨_, rfl, Nat.zero_le _, h0⟩, ?_⟩
  rintro i m σ H ⟨rfl, hi, q⟩
  obtain ⟨sq, sq'⟩ := hl i σ H hi q
  by_cases lt : i < xs.length
  · refine .inr ⟨⟨xs, ys, xs[i], ys[i], sq, sq', List.getElem?_eq_getElem lt, List.getElem?_eq_getElem (by omega)⟩, Pv (i + 1), fun σ' H' q' => ⟨xs.length - (i + 1), by omega, rfl, lt, q'⟩, fun x H' y => ?_⟩
    obtain ⟨t, x', y', rfl, ht, rfl, hx, hy⟩ := y
    exact hs i x' y' σ H t (hx xs sq) (hy ys sq') ht q
  · have e : i = xs.length := by omega
    subst e
    exact .inl ⟨⟨xs, ys, sq, sq', .inl (Nat.le_refl _)⟩, hd σ H q⟩
def qZipL (K : PySem.W.Frag) (vs : List V) (H1 : Hp) (R : It → Hp → Prop) : Prop := ∃ a b xs ys, vs = [.ref a, .ref b] ∧ SqL K H1 a xs ∧ SqL K H1 b ys ∧ R (Itz K a b) H1
theorem go_zipL (h : t σ H fun vs H1 => qZipL K vs H1 R) : iZip K t σ H R := h
theorem go_qzipL {xs ys : List V} (h : SqL K H a xs) (h' : SqL K H b ys) (q : R (Itz K a b) H) : qZipL K [.ref a, .ref b] H R := ⟨a, b, xs, ys, rfl, h, h', q⟩
end
end L2
set_option Elab.async false
set_option linter.all false
set_option maxRecDepth 100000
namespace L2
open PySem PySem.Spec PyProof.Rows
section
variable {X : Cx}
def rNeNil : R2 := fun x y H Q => ∃ a b xs, x = .ref a ∧ y = .ref b ∧ H a = some (.lst xs) ∧ H b = some (.lst []) ∧ Q (.bl (!xs.isEmpty)) H
theorem op_neNil (hu : X.A.units + 1 < cLine) : OpR X (compareOp .NotEq) rNeNil := by
  intro pins s σ H x y v u Q I rx ry h
  obtain ⟨a, b, xs, rfl, rfl, ha, hb, q⟩ := h
  cases rx; cases ry
  obtain ⟨its, rv, p1, _⟩ := I.list (SqL.of ha)
  obtain ⟨its2, rv2, p2, _⟩ := I.list (SqL.of hb)
  cases rv2
  cases xs with
  | nil =>
    cases rv
    exact SeqAt.RcNeAt.lists (e := fun _ => true) p1.isList p2.isList rfl (by omega) (fun j h1 h2 => absurd h1 (Nat.not_lt_zero j)) _ _ _ _ ⟨.bl false, H, I, rfl, q⟩
  | cons z zs =>
    cases rv
    exact SeqAt.RcNeAt.lists_lengths p1.isList p2.isList (by simp) (by omega) _ _ _ _ ⟨.bl true, H, I, rfl, q⟩
end
section
variable {H : Hp} {Q : VK} {a b : Addr} {xs : List V} {kvs : List (Key × V)} {y : V}
theorem go_neNilC {x : V} (ha : H a = some (.lst (x :: xs))) (hb : H b = some (.lst [])) (q : Q (.bl true) H) : rNeNil (.ref a) (.ref b) H Q := ⟨a, b, x :: xs, rfl, rfl, ha, hb, q⟩
theorem go_neNilE (ha : H a = some (.lst [])) (hb : H b = some (.lst [])) (q : Q (.bl false) H) : rNeNil (.ref a) (.ref b) H Q := ⟨a, b, [], rfl, rfl, ha, hb, q⟩
end
end L2
set_option Elab.async false
set_option linter.all false
set_option maxRecDepth 100000
set_option maxHeartbeats 4000000
namespace Lw
open PySem L2
local macro_rules | `(tactic| walk_at "lw_hp") => `(tactic| (repeat (first | assumption | exact upd_same | (refine' upd_new (by assumption) ?_) | (refine' tup_off (by assumption) (by assumption) ?_) | (refine' lst_off (by assumption) (by assumption) (by assumption) ?_) | (refine' Same.get (by assumption) ?_) | (refine' Off.get (by assumption) (by assumption) ?_) | (refine' upd_oth (by assumption) ?_))))
local macro_rules | `(tactic| walk_at "lw_go") => `(tactic| (repeat (first | (with_reducible (first | refine go_var rfl ?_ | refine go_c ?_ | refine go_cons ?_ | refine go_op ?_ | refine go_nil ?_ | refine go_seq ?_ | refine go_qb ?_ | refine go_test ?_ | refine go_ifS ?_ | refine go_gname ?_ | refine go_cb ?_)) | ((with_reducible refine' go_ixT ?hp ?ha ?_); (case hp => walk_at "lw_hp"); (case ha => first | rfl | assumption)) | (with_reducible (first | refine go_asg ?_ | refine go_callC ?_ | refine go_next ?_ | refine go_tup ?_ | refine go_i0 ?_ | refine go_ret ?_ | refine go_dget ?_ | refine go_gcons ?_ | refine go_gsub ?_ | refine go_testB ?_)) | ((with_reducible refine' go_ixL ?hp ?ha ?_); (case hp => walk_at "lw_hp"); (case ha => first | rfl | assumption)) | (with_reducible (first | refine' go_ixLs (by assumption) (by assumption) ?_ | refine go_lst ?_)) | ((with_reducible refine' go_i ?cc ?_); (case cc => first | omega | (simp only [CDiv, CMul, CPow]; omega) | (simp only [CDiv, CMul, CPow]; decide))) | (with_reducible (first | refine go_drop ?_ | refine go_eqI ?_ | refine go_eqS ?_ | refine go_eqB ?_ | refine go_eq (by rfl) ?_ | refine go_gnil ?_ | refine go_iteT ?_ | refine go_iteF ?_ | refine go_iteNt ?_ | refine go_iteNf ?_ | refine go_iteNN ?_)) | (with_reducible refine go_iteDT (by first | assumption | rfl | omega | (simp only [List.length_cons, List.length_nil, List.length_map]; omega)) ?_) | (with_reducible refine go_iteDF (by first | assumption | omega | decide | decide +kernel | (simp only [List.length_cons, List.length_nil, List.length_map]; omega)) ?_) | (with_reducible refine go_iteNT (by first | assumption | rfl | omega | (simp only [List.length_cons, List.length_nil, List.length_map]; omega)) ?_) | (with_reducible refine go_iteNF (by first | assumption | omega | decide | decide +kernel | (simp only [List.length_cons, List.length_nil, List.length_map]; omega)) ?_) | (with_reducible refine go_iteBT (by first | assumption | decide +kernel) ?_) | (with_reducible refine go_iteBF (by first | assumption | decide +kernel) ?_) | (with_reducible (first | refine go_dput ?_ | refine go_setD ?_)) | ((with_reducible refine' go_gtup ?hp ?ha ?_); (case hp => walk_at "lw_hp"); (case ha => first | rfl | assumption)) | (with_reducible refine go_if ?_) | ((with_reducible refine' go_setL ?hp ?ha ?_); (case hp => walk_at "lw_hp"); (case ha => first | rfl | assumption)) | (with_reducible (first | refine go_not ?_ | refine go_or ?_ | refine go_andV ?_ | refine go_sl ?_ | refine go_nopart ?_ | refine go_part ?_ | refine go_qI ?_ | refine' go_lenLs (by assumption) ?_)) | ((with_reducible refine' go_lenL ?hp ?_); (case hp => walk_at "lw_hp")) | ((with_reducible refine' go_lenT ?hp ?_); (case hp => walk_at "lw_hp")) | ((with_reducible refine' go_inT ?hp ?ha ?hb ?_); (case hp => walk_at "lw_hp"); (case ha => rfl); (case hb => rfl)) | ((with_reducible refine' go_notInT ?hp ?ha ?hb ?_); (case hp => walk_at "lw_hp"); (case ha => rfl); (case hb => rfl)) | (with_reducible (first | refine go_pnil ?_ | refine go_pcons ?_ | refine go_un ?_ | refine go_u ?_ | refine go_for ?_ | refine go_rng1 ?_ | refine go_qrng1 (by omega) (by omega) ?_ | refine go_notN_non ?_ | refine go_notN_int ?_ | refine go_notN_str ?_ | refine go_notN_bl ?_ | refine go_notN_ref ?_ | refine go_min ?_ | refine go_bm ?_ | refine go_lc ?_)) | ((with_reducible refine' go_qbm ?hp ?_); (case hp => walk_at "lw_hp")) | (with_reducible (first | refine go_int ?_ | refine go_intB ?_ | refine go_yes ?_ | refine go_and ?_ | refine go_notV ?_ | refine go_iL ?_)) | ((with_reducible refine' go_glst ?hp ?ha ?_); (case hp => walk_at "lw_hp"); (case ha => first | rfl | assumption)) | ((with_reducible refine' go_qiL ?hp ?_); (case hp => walk_at "lw_hp")) | (with_reducible (first | refine go_par ?_ | refine go_gpar ?_ | refine go_isN_non ?_ | refine go_isN_int ?_ | refine go_isN_str ?_ | refine go_isN_bl ?_ | refine go_isN_ref ?_ | refine go_neI ?_ | refine go_neS ?_ | refine go_neB ?_ | refine go_iT ?_ | refine go_ne (by rfl) ?_)) | ((with_reducible refine' go_ixAL ?hp ?ha ?_); (case hp => walk_at "lw_hp"); (case ha => first | rfl | assumption)) | ((with_reducible refine' go_ixAT ?hp ?ha ?_); (case hp => walk_at "lw_hp"); (case ha => first | rfl | assumption)) | ((with_reducible refine' go_qiT ?hp ?_); (case hp => walk_at "lw_hp")) | (with_reducible (first | refine go_is_non_int ?_ | refine go_is_non_bool ?_ | refine go_is_non_str ?_ | refine go_is_non_tuple ?_ | refine go_is_non_list ?_ | refine go_is_bl_int ?_ | refine go_is_bl_bool ?_ | refine go_is_bl_str ?_ | refine go_is_bl_tuple ?_ | refine go_is_bl_list ?_ | refine go_is_int_int ?_ | refine go_is_int_bool ?_ | refine go_is_int_str ?_ | refine go_is_int_tuple ?_ | refine go_is_int_list ?_ | refine go_is_str_int ?_ | refine go_is_str_bool ?_ | refine go_is_str_str ?_ | refine go_is_str_tuple ?_ | refine go_is_str_list ?_)) | ((with_reducible refine' go_is_lst_int ?hp ?_); (case hp => walk_at "lw_hp")) | ((with_reducible refine' go_is_lst_bool ?hp ?_); (case hp => walk_at "lw_hp")) | ((with_reducible refine' go_is_lst_str ?hp ?_); (case hp => walk_at "lw_hp")) | ((with_reducible refine' go_is_lst_tuple ?hp ?_); (case hp => walk_at "lw_hp")) | ((with_reducible refine' go_is_lst_list ?hp ?_); (case hp => walk_at "lw_hp")) | ((with_reducible refine' go_is_tup_int ?hp ?_); (case hp => walk_at "lw_hp")) | ((with_reducible refine' go_is_tup_bool ?hp ?_); (case hp => walk_at "lw_hp")) | ((with_reducible refine' go_is_tup_str ?hp ?_); (case hp => walk_at "lw_hp")) | ((with_reducible refine' go_is_tup_tuple ?hp ?_); (case hp => walk_at "lw_hp")) | ((with_reducible refine' go_is_tup_list ?hp ?_); (case hp => walk_at "lw_hp")) | (with_reducible (first | refine go_max ?_ | refine go_bm0 ?_ | refine go_chain ?_ | refine go_qch ?_)) | ((with_reducible refine' go_qbm0 ?hp ?_); (case hp => walk_at "lw_hp")) | (with_reducible (first | refine go_retN ?_ | refine go_orV ?_ | refine go_whQ ?_ | refine go_rng2 ?_ | refine go_qrng2 (by omega) (by omega) (by omega) (by omega) ?_ | refine go_rvr ?_ | refine go_qrvr (by omega) (by omega) ?_ | refine go_fcons ?_ | refine go_fv ?_ | refine go_m0 ?_ | refine go_m1 ?_ | refine go_qm0 ?_ | refine go_qm1 ?_ | refine go_digit ?_ | refine go_ascii ?_ | refine go_starts ?_ | refine go_star ?_ | refine go_rvL ?_ | refine go_dninK ?_ | refine go_rng3 ?_ | refine go_qrng3 (by omega) (by omega) (by omega) (by omega) ?_ | refine go_lr2 ?_ | refine go_enum ?_ | refine go_aug rfl ?_ | refine go_ipI ?_)) | ((with_reducible refine' go_qenum ?hp ?_); (case hp => walk_at "lw_hp")) | ((with_reducible refine' go_sumL ?hp ?_); (case hp => walk_at "lw_hp")))))
def top (i : Nat) : Stmt := PySem.Challenge.pw_longwork_k16_plans_refused.main.body.getD i (.Pass ⟨0, 0, 0, 0⟩)
abbrev s__law_next : Stmt := top 29
abbrev s__law_dice : Stmt := top 28
structure Dice (K : PySem.W.Frag) (H : Hp) (d : Addr) : Prop where
  ex : ∃ (a : Addr) (ns : List Int) (i m r : Int), H d = some (.lst [.ref a, .int i, .int m, .int r]) ∧ Scr K H a ns ∧ ns.length ≤ 63 ∧ 0 ≤ i ∧ 0 ≤ m ∧ m < 2147483647
def spNext (K : PySem.W.Frag) : Sp := fun vs H Q _ => ∃ (d : Addr) (many : Int), vs = [.ref d, .int many] ∧ Dice K H d ∧ 0 < many ∧ many < 1073741824 ∧
  ∀ (r : Int) (H' : Hp), 0 ≤ r → r < many → Dice K H' d → Off d H H' → Q (.int r) H'
def spDice (K : PySem.W.Frag) : Sp := fun vs H Q _ => ∃ (a : Addr) (ns : List Int), vs = [.ref a] ∧ Scr K H a ns ∧ ns.length ≤ 63 ∧ ∀ (d : Addr) (H' : Hp), Same H H' → Dice K H' d → Q (.ref d) H'
structure Txt (mg : Str → Option Value) : Prop where
  n_len : mg "len" = none
  n_range : mg "range" = none
  n_isinstance : mg "isinstance" = none
  n_int : mg "int" = none
  n_bool : mg "bool" = none
  n_str : mg "str" = none
  n_tuple : mg "tuple" = none
  n_list : mg "list" = none
  n_min : mg "min" = none
  n_max : mg "max" = none
  n_enumerate : mg "enumerate" = none
  n_zip : mg "zip" = none
  n_sum : mg "sum" = none
  n_sorted : mg "sorted" = none
  n_reversed : mg "reversed" = none
  n_ValueError : mg "ValueError" = none
  g_MOST_STEPS : ∃ t, mg "MOST_STEPS" = some (.int 60 t)
  g_MOST_WEIGHT : ∃ t, mg "MOST_WEIGHT" = some (.int 99 t)
  g_MOST_FALLS : ∃ t, mg "MOST_FALLS" = some (.int 20 t)
  g_MOST_PRICE : ∃ t, mg "MOST_PRICE" = some (.int 999 t)
section
variable {P : Program} {w : World} {K : PySem.W.Frag} {mg : Str → Option Value} {base : Heap} {f : Addr} {fd : FuncData}
theorem scs__law_next : FnScope ["_law_dice_here", "_law_many", "_law_found", "_law_cell"] ["_law_dice_here", "_law_many"] (defScope s__law_next) := ⟨rfl, rfl, rfl, by decide +kernel, rfl, by decide +kernel, by decide +kernel⟩
theorem ok_next (F : Fun K "_law_next" "_law_next" s__law_next f fd) (T : Txt mg) : FnOk P w K mg base CX0 1 f fd ["_law_dice_here", "_law_many"] (spNext K) := by
  refine F.ok scs__law_next (fun vs H Q E h => ?_) (fun cdv A outer s H vs Q E hr h => ?_)
  · obtain ⟨d, many, rfl, _⟩ := h
    rfl
  obtain ⟨d, many, rfl, ⟨a, ns, i, m, r, hd, hS, hl, hi, hm0, hm1⟩, hk0, hk1, k⟩ := h
  have nd := scs__law_next.nd
  have hu := hu_of hr
  refine ⟨_, (pss_cons (ps_if (pt_cmpR op_gt (pe_ix (kIxL K) (pv 0) pe_int (fun _ _ => rfl)) pe_int (nomark _)) (pss_cons (ps_set (i := 2) nd rfl (Or.inl rfl) (pe_op op_mod (pe_ix (kIxL K) (pv 0) pe_int (fun _ _ => rfl)) (pv 1)))
      (pss_cons (ps_asg (pe_op op_fdiv (pe_ix (kIxL K) (pv 0) pe_int (fun _ _ => rfl)) (pv 1)) (pg_sub (pv 0) pe_int set_list))
      (pss_one (ps_ret (pv 2))))) pss_nil)
      (pss_cons (ps_asg (pe_op op_add (pe_ix (kIxL K) (pv 0) pe_int (fun _ _ => rfl)) pe_int) (pg_sub (pv 0) pe_int set_list))
      (pss_cons (ps_if (pt_cmpR op_le (pe_ix (kIxL K) (pv 0) pe_int (fun _ _ => rfl)) (pe_callB (kLen K) (by rfl) T.n_len (by decide +kernel) (pa_cons (pe_ix (kIxL K) (pv 0) pe_int (fun _ _ => rfl)) pa_nil)) (nomark _)) (pss_cons (ps_set (i := 3) nd rfl (Or.inl rfl) (pe_ix (kIxL K) (pe_ix (kIxL K) (pv 0) pe_int (fun _ _ => rfl)) (pe_op op_sub (pe_ix (kIxL K) (pv 0) pe_int (fun _ _ => rfl)) pe_int) (fun _ _ => rfl)))
      (pss_cons (ps_asg (pe_ifExp (pt_cmpR op_ge (pv 3) (pe_op op_pow pe_int pe_int) (nomark _)) (pe_op op_fdiv (pv 3) (pv 1)) pe_int) (pg_sub (pv 0) pe_int set_list))
      (pss_one (ps_ret (pe_op op_mod (pv 3) (pv 1)))))) pss_nil)
      (pss_cons (ps_asg (pe_op op_mod (pe_op op_mul (pe_ix (kIxL K) (pv 0) pe_int (fun _ _ => rfl)) pe_int) pe_int) (pg_sub (pv 0) pe_int set_list))
      (pss_one (ps_ret (pe_op op_mod (pe_op op_fdiv (pe_ix (kIxL K) (pv 0) pe_int (fun _ _ => rfl)) pe_int) (pv 1)))))))), ?_⟩
  with_reducible refine go_seq (go_ifS (go_test (go_op (go_op ?_))))
  with_reducible refine go_var rfl (go_c ?_)
  (with_reducible refine' go_ixL ?hp ?ha ?_); (case hp => walk_at "lw_hp"); (case ha => first | rfl | assumption)
  with_reducible refine go_c (go_i0 (go_qb ?_))
  refine go_iteD (fun c => ?_) (fun c => ?_)
  · with_reducible refine go_seq (go_asg (go_op (go_op (go_var rfl ?_))))
    with_reducible refine go_c ?_
    (with_reducible refine' go_ixL ?hp ?ha ?_); (case hp => walk_at "lw_hp"); (case ha => first | rfl | assumption)
    with_reducible refine go_var rfl ?_
    (with_reducible refine' go_i ?cc ?_); (case cc => first | omega | (simp only [CDiv, CMul, CPow]; omega) | (simp only [CDiv, CMul, CPow]; decide))
    with_reducible refine go_gname (go_seq (go_asg (go_op (go_op ?_))))
    with_reducible refine go_var rfl (go_c ?_)
    (with_reducible refine' go_ixL ?hp ?ha ?_); (case hp => walk_at "lw_hp"); (case ha => first | rfl | assumption)
    with_reducible refine go_var rfl ?_
    (with_reducible refine' go_i ?cc ?_); (case cc => first | omega | (simp only [CDiv, CMul, CPow]; omega) | (simp only [CDiv, CMul, CPow]; decide))
    with_reducible refine go_gsub (go_var rfl (go_c ?_))
    (with_reducible refine' go_setL ?hp ?ha ?_); (case hp => walk_at "lw_hp"); (case ha => first | rfl | assumption)
    with_reducible refine go_ret (go_var rfl ?_)
    exact k _ _ (Int.emod_nonneg _ (by omega)) (Int.emod_lt_of_pos _ hk0) ⟨a, ns, i, m, _, upd_same, hS.mono (TK.updL hd), hl, hi, hm0, hm1⟩ (off_upd _ _ _)
  · with_reducible refine go_next (go_seq (go_asg (go_op (go_op ?_))))
    with_reducible refine go_var rfl (go_c ?_)
    (with_reducible refine' go_ixL ?hp ?ha ?_); (case hp => walk_at "lw_hp"); (case ha => first | rfl | assumption)
    with_reducible refine go_c (go_i0 (go_gsub (go_var rfl (go_c ?_))))
    (with_reducible refine' go_setL ?hp ?ha ?_); (case hp => walk_at "lw_hp"); (case ha => first | rfl | assumption)
    with_reducible refine go_seq (go_ifS (go_test (go_op (go_op ?_))))
    with_reducible refine go_var rfl (go_c ?_)
    (with_reducible refine' go_ixL ?hp ?ha ?_); (case hp => walk_at "lw_hp"); (case ha => first | rfl | assumption)
    with_reducible refine go_cb (go_cons (go_op (go_var rfl (go_c ?_))))
    (with_reducible refine' go_ixL ?hp ?ha ?_); (case hp => walk_at "lw_hp"); (case ha => first | rfl | assumption)
    with_reducible refine go_nil ?_
    have hs1 := (hS.mono (TK.updL (o := HO.lst [V.ref a, V.int (i + 1), V.int m, V.int r]) hd)).sq
    refine go_lenLs hs1 ?_
    with_reducible refine go_i0 (go_qb ?_)
    rw [List.length_map]
    refine go_iteD (fun c => ?_) (fun c => ?_)
    · obtain ⟨v, hv⟩ : ∃ v, ns[i.toNat]? = some v := ⟨_, List.getElem?_eq_getElem (by omega)⟩
      have hat : atI (ns.map V.int) (i + 1 - 1) = some (.int v) := by
        rw [show i + 1 - 1 = ((i.toNat : Nat) : Int) by omega]
        exact atI_nat (by rw [List.getElem?_map, hv]; rfl)
      with_reducible refine go_seq (go_asg (go_op (go_op (go_var rfl ?_))))
      with_reducible refine go_c ?_
      (with_reducible refine' go_ixL ?hp ?ha ?_); (case hp => walk_at "lw_hp"); (case ha => first | rfl | assumption)
      with_reducible refine go_op (go_op (go_var rfl (go_c ?_)))
      (with_reducible refine' go_ixL ?hp ?ha ?_); (case hp => walk_at "lw_hp"); (case ha => first | rfl | assumption)
      with_reducible refine go_c (go_i0 ?_)
      refine go_ixLs hs1 hat ?_
      with_reducible refine go_gname (go_seq (go_asg (go_if (go_test ?_))))
      with_reducible refine go_op (go_var rfl (go_op (go_c (go_c ?_))))
      (with_reducible refine' go_i ?cc ?_); (case cc => first | omega | (simp only [CDiv, CMul, CPow]; omega) | (simp only [CDiv, CMul, CPow]; decide))
      with_reducible refine go_i0 (go_qb ?_)
      refine go_iteD (fun c => ?_) (fun c => ?_)
      all_goals
        walk_at "lw_go"
        have o1 : ∀ o, Off d H (upd (upd H d (HO.lst [V.ref a, V.int (i + 1), V.int m, V.int r])) d o) := fun o => (off_upd _ _ _).trans (off_upd _ d _)
        exact k _ _ (Int.emod_nonneg _ (by omega)) (Int.emod_lt_of_pos _ hk0) ⟨a, ns, i + 1, m, _, upd_same, hS.mono ((o1 _).tk hd), hl, by omega, hm0, hm1⟩ (o1 _)
    · with_reducible refine go_next (go_seq (go_asg (go_op (go_op ?_))))
      with_reducible refine go_op (go_var rfl (go_c ?_))
      (with_reducible refine' go_ixL ?hp ?ha ?_); (case hp => walk_at "lw_hp"); (case ha => first | rfl | assumption)
      with_reducible refine go_c ?_
      (with_reducible refine' go_i ?cc ?_); (case cc => first | omega | (simp only [CDiv, CMul, CPow]; omega) | (simp only [CDiv, CMul, CPow]; decide))
      with_reducible refine go_c ?_
      (with_reducible refine' go_i ?cc ?_); (case cc => first | omega | (simp only [CDiv, CMul, CPow]; omega) | (simp only [CDiv, CMul, CPow]; decide))
      with_reducible refine go_gsub (go_var rfl (go_c ?_))
      (with_reducible refine' go_setL ?hp ?ha ?_); (case hp => walk_at "lw_hp"); (case ha => first | rfl | assumption)
      with_reducible refine go_ret (go_op (go_op (go_op (go_var rfl ?_))))
      with_reducible refine go_c ?_
      (with_reducible refine' go_ixL ?hp ?ha ?_); (case hp => walk_at "lw_hp"); (case ha => first | rfl | assumption)
      with_reducible refine go_c ?_
      (with_reducible refine' go_i ?cc ?_); (case cc => first | omega | (simp only [CDiv, CMul, CPow]; omega) | (simp only [CDiv, CMul, CPow]; decide))
      with_reducible refine go_var rfl ?_
      (with_reducible refine' go_i ?cc ?_); (case cc => first | omega | (simp only [CDiv, CMul, CPow]; omega) | (simp only [CDiv, CMul, CPow]; decide))
      have o1 : ∀ o, Off d H (upd (upd H d (HO.lst [V.ref a, V.int (i + 1), V.int m, V.int r])) d o) := fun o => (off_upd _ _ _).trans (off_upd _ d _)
      exact k _ _ (Int.emod_nonneg _ (by omega)) (Int.emod_lt_of_pos _ hk0) ⟨a, ns, i + 1, _, r, upd_same, hS.mono ((o1 _).tk hd), hl, by omega, Int.emod_nonneg _ (by omega), Int.emod_lt_of_pos _ (by omega)⟩ (o1 _)
theorem scs__law_dice : FnScope ["_law_script", "_law_mixed", "_law_cell"] ["_law_script"] (defScope s__law_dice) := ⟨rfl, rfl, rfl, by decide +kernel, rfl, by decide +kernel, by decide +kernel⟩
theorem ok_dice (F : Fun K "_law_dice" "_law_dice" s__law_dice f fd) (T : Txt mg) : FnOk P w K mg base CX0 1 f fd ["_law_script"] (spDice K) := by
  refine F.ok scs__law_dice (fun vs H Q E h => ?_) (fun cdv A outer s H vs Q E hr h => ?_)
  · obtain ⟨a, ns, rfl, _⟩ := h
    rfl
  obtain ⟨a, ns, rfl, hS, hl, k⟩ := h
  have hs := hS.sq
  have nd := scs__law_dice.nd
  have hu := hu_of hr
  refine ⟨_, (pss_cons (ps_set (i := 1) nd rfl (Or.inl rfl) pe_int)
      (pss_cons (ps_for PassesOwn.never rfl (kPiL K (pv 0)) (pg_name (i := 2) nd rfl (Or.inl rfl)) (pss_one (ps_set (i := 1) nd rfl (Or.inl rfl) (pe_op op_mod (pe_op op_add (pe_op op_add (pe_op op_mul (pv 1) pe_int) (pe_op op_mul (pe_op op_mod (pv 2) pe_int) pe_int)) pe_int) pe_int))))
      (pss_one (ps_ret (pe_lst (pa_cons (pv 0) (pa_cons pe_int (pa_cons (pe_op op_mul (pv 1) (pe_callTy c_int (by rfl) T.n_int (by decide +kernel) (pa_cons (pe_cmpR op_gt (pe_callB (kLen K) (by rfl) T.n_len (by decide +kernel) (pa_cons (pv 0) pa_nil)) pe_int (nomark _)) pa_nil))) (pa_cons pe_int pa_nil))))))))), ?_⟩
  with_reducible refine go_seq (go_asg (go_c (go_gname (go_seq ?_))))
  with_reducible refine go_for (go_iL (go_var rfl ?_))
  refine go_qiLs hs ?_
  refine fq_list (ns.map V.int) (fun i σ H' => ∃ m v, σ = [some (.ref a), some (.int m), v] ∧ H' = H ∧ 0 ≤ m ∧ m < 2147483647) ⟨0, none, rfl, rfl, by omega, by omega⟩ ?_ ?_ ?_
  · rintro i σ H' _ ⟨m, v, rfl, rfl, _⟩
    exact hs
  · rintro i x σ H' hx ⟨m, v, rfl, rfl, h0, h1⟩
    obtain ⟨n, rfl⟩ : ∃ n, x = V.int n := by
      rw [List.getElem?_map] at hx
      cases e : ns[i]? with
      | none => rw [e] at hx; cases hx
      | some z => rw [e] at hx; exact ⟨z, (Option.some.inj hx).symm⟩
    with_reducible refine go_gname (go_asg (go_op (go_op (go_op ?_))))
    with_reducible refine go_op (go_var rfl (go_c ?_))
    (with_reducible refine' go_i ?cc ?_); (case cc => first | omega | (simp only [CDiv, CMul, CPow]; omega) | (simp only [CDiv, CMul, CPow]; decide))
    with_reducible refine go_op (go_op (go_var rfl (go_c ?_)))
    (with_reducible refine' go_i ?cc ?_); (case cc => first | omega | (simp only [CDiv, CMul, CPow]; omega) | (simp only [CDiv, CMul, CPow]; decide))
    with_reducible refine go_c ?_
    (with_reducible refine' go_i ?cc ?_); (case cc => first | omega | (simp only [CDiv, CMul, CPow]; omega) | (simp only [CDiv, CMul, CPow]; decide))
    with_reducible refine go_i0 (go_c (go_i0 (go_c ?_)))
    (with_reducible refine' go_i ?cc ?_); (case cc => first | omega | (simp only [CDiv, CMul, CPow]; omega) | (simp only [CDiv, CMul, CPow]; decide))
    with_reducible refine go_gname ?_
    exact ⟨_, _, rfl, rfl, Int.emod_nonneg _ (by omega), Int.emod_lt_of_pos _ (by omega)⟩
  · rintro σ H' ⟨m, v, rfl, rfl, h0, h1⟩
    with_reducible refine go_ret (go_lst (go_cons (go_var rfl (go_cons ?_))))
    with_reducible refine go_c (go_cons (go_op (go_var rfl (go_cb ?_))))
    with_reducible refine go_cons (go_op (go_cb (go_cons (go_var rfl ?_))))
    with_reducible refine go_nil ?_
    with_reducible refine' go_lenLs (by assumption) ?_
    with_reducible refine go_c (go_i0 (go_nil (go_intB ?_)))
    (with_reducible refine' go_i ?cc ?_); (case cc => first | omega | (simp only [CDiv, CMul, CPow]; omega) | (simp only [CDiv, CMul, CPow]; decide))
    with_reducible refine go_cons (go_c (go_nil ?_))
    refine go_qlst (Nat.le_of_ble_eq_true rfl) (fun p hp => ?_)
    refine k p _ (same_new hp _) ⟨a, ns, 0, _, 0, upd_same, hS.mono (TK.new hp), hl, Int.le_refl _, ?_, ?_⟩
    · split <;> omega
    · split <;> omega
end
theorem nx_go {K : PySem.W.Frag} {H : Hp} {d : Addr} {many : Int} {Q : VK} {E : XK} (D : Dice K H d) (h0 : 0 < many) (h1 : many < 1073741824) (k : ∀ (r : Int) (H' : Hp), 0 ≤ r → r < many → Dice K H' d → Off d H H' → Q (.int r) H') : spNext K [.ref d, .int many] H Q E := ⟨d, many, rfl, D, h0, h1, k⟩
theorem Dice.tk {K : PySem.W.Frag} {H H' : Hp} {d : Addr} (D : Dice K H d) (o : Off d H H') : TK H H' := by
  obtain ⟨a, ns, i, m, r, h, _⟩ := D.ex
  exact o.tk h
theorem Dice.same {K : PySem.W.Frag} {H H' : Hp} {d : Addr} (D : Dice K H d) (s : Same H H') : Dice K H' d := by
  obtain ⟨a, ns, i, m, r, h, hs, q⟩ := D.ex
  exact ⟨a, ns, i, m, r, s _ _ h, hs.mono s.tk, q⟩
theorem Dice.ne {K : PySem.W.Frag} {H : Hp} {d a : Addr} {xs : List V} (D : Dice K H d) (h : H a = some (.tup xs)) : a ≠ d := by
  obtain ⟨_, ns, i, m, r, hd, _⟩ := D.ex
  exact ne_of h hd (by intro z; cases z)
theorem Dice.nef {K : PySem.W.Frag} {H : Hp} {d p : Addr} (D : Dice K H d) (h : H p = none) : p ≠ d := by
  obtain ⟨_, ns, i, m, r, hd, _⟩ := D.ex
  exact (ne_of_none hd h).symm
theorem lst_off {K : PySem.W.Frag} {H H' H0 : Hp} {d p : Addr} {u : HO} (o : Off d H H') (hn : H0 p = none) (D : Dice K H0 d) (h : H p = some u) : H' p = some u := o _ _ h (D.nef hn)
theorem Dice.keep {K : PySem.W.Frag} {H H' : Hp} {d : Addr} (D : Dice K H d) (t : TK H H') (h : ∀ o, H d = some o → H' d = some o) : Dice K H' d := by
  obtain ⟨a, ns, i, m, r, hd, hs, q⟩ := D.ex
  exact ⟨a, ns, i, m, r, h _ hd, hs.mono t, q⟩
theorem Dice.updL {K : PySem.W.Frag} {H : Hp} {d p : Addr} {o : HO} {ys : List V} (D : Dice K H d) (h : H p = some (.lst ys)) (n : d ≠ p) : Dice K (upd H p o) d := D.keep (TK.updL h) fun u q => by rw [upd_ne n]; exact q
theorem off_fresh {d p : Addr} {H H' : Hp} {o : HO} (h : H p = none) (s : Off d H H') : Off d H (upd H' p o) := fun b u q n => by rw [upd_ne (ne_of_none q h)]; exact s b u q n
theorem tup_off {K : PySem.W.Frag} {H H' : Hp} {d a : Addr} {xs : List V} (o : Off d H H') (D : Dice K H d) (h : H a = some (.tup xs)) : H' a = some (.tup xs) := D.tk o a _ True.intro h
end Lw
set_option Elab.async false
set_option linter.all false
set_option maxRecDepth 100000
set_option maxHeartbeats 4000000
namespace Lw
open PySem L2
local macro_rules | `(tactic| walk_at "lw_hp") => `(tactic| (repeat (first | assumption | exact upd_same | (refine' upd_new (by assumption) ?_) | (refine' tup_off (by assumption) (by assumption) ?_) | (refine' lst_off (by assumption) (by assumption) (by assumption) ?_) | (refine' Same.get (by assumption) ?_) | (refine' Off.get (by assumption) (by assumption) ?_) | (refine' upd_oth (by assumption) ?_))))
local macro_rules | `(tactic| walk_at "lw_go") => `(tactic| (repeat (first | (with_reducible (first | refine go_var rfl ?_ | refine go_c ?_ | refine go_cons ?_ | refine go_op ?_ | refine go_nil ?_ | refine go_seq ?_ | refine go_qb ?_ | refine go_test ?_ | refine go_ifS ?_ | refine go_gname ?_ | refine go_cb ?_)) | ((with_reducible refine' go_ixT ?hp ?ha ?_); (case hp => walk_at "lw_hp"); (case ha => first | rfl | assumption)) | (with_reducible (first | refine go_asg ?_ | refine go_callC ?_ | refine go_next ?_ | refine go_tup ?_ | refine go_i0 ?_ | refine go_ret ?_ | refine go_dget ?_ | refine go_gcons ?_ | refine go_gsub ?_ | refine go_testB ?_)) | ((with_reducible refine' go_ixL ?hp ?ha ?_); (case hp => walk_at "lw_hp"); (case ha => first | rfl | assumption)) | (with_reducible (first | refine' go_ixLs (by assumption) (by assumption) ?_ | refine go_lst ?_)) | ((with_reducible refine' go_i ?cc ?_); (case cc => first | omega | (simp only [CDiv, CMul, CPow]; omega) | (simp only [CDiv, CMul, CPow]; decide))) | (with_reducible (first | refine go_drop ?_ | refine go_eqI ?_ | refine go_eqS ?_ | refine go_eqB ?_ | refine go_eq (by rfl) ?_ | refine go_gnil ?_ | refine go_iteT ?_ | refine go_iteF ?_ | refine go_iteNt ?_ | refine go_iteNf ?_ | refine go_iteNN ?_)) | (with_reducible refine go_iteDT (by first | assumption | rfl | omega | (simp only [List.length_cons, List.length_nil, List.length_map]; omega)) ?_) | (with_reducible refine go_iteDF (by first | assumption | omega | decide | decide +kernel | (simp only [List.length_cons, List.length_nil, List.length_map]; omega)) ?_) | (with_reducible refine go_iteNT (by first | assumption | rfl | omega | (simp only [List.length_cons, List.length_nil, List.length_map]; omega)) ?_) | (with_reducible refine go_iteNF (by first | assumption | omega | decide | decide +kernel | (simp only [List.length_cons, List.length_nil, List.length_map]; omega)) ?_) | (with_reducible refine go_iteBT (by first | assumption | decide +kernel) ?_) | (with_reducible refine go_iteBF (by first | assumption | decide +kernel) ?_) | (with_reducible (first | refine go_dput ?_ | refine go_setD ?_)) | ((with_reducible refine' go_gtup ?hp ?ha ?_); (case hp => walk_at "lw_hp"); (case ha => first | rfl | assumption)) | (with_reducible refine go_if ?_) | ((with_reducible refine' go_setL ?hp ?ha ?_); (case hp => walk_at "lw_hp"); (case ha => first | rfl | assumption)) | (with_reducible (first | refine go_not ?_ | refine go_or ?_ | refine go_andV ?_ | refine go_sl ?_ | refine go_nopart ?_ | refine go_part ?_ | refine go_qI ?_ | refine' go_lenLs (by assumption) ?_)) | ((with_reducible refine' go_lenL ?hp ?_); (case hp => walk_at "lw_hp")) | ((with_reducible refine' go_lenT ?hp ?_); (case hp => walk_at "lw_hp")) | ((with_reducible refine' go_inT ?hp ?ha ?hb ?_); (case hp => walk_at "lw_hp"); (case ha => rfl); (case hb => rfl)) | ((with_reducible refine' go_notInT ?hp ?ha ?hb ?_); (case hp => walk_at "lw_hp"); (case ha => rfl); (case hb => rfl)) | (with_reducible (first | refine go_pnil ?_ | refine go_pcons ?_ | refine go_un ?_ | refine go_u ?_ | refine go_for ?_ | refine go_rng1 ?_ | refine go_qrng1 (by omega) (by omega) ?_ | refine go_notN_non ?_ | refine go_notN_int ?_ | refine go_notN_str ?_ | refine go_notN_bl ?_ | refine go_notN_ref ?_ | refine go_min ?_ | refine go_bm ?_ | refine go_lc ?_)) | ((with_reducible refine' go_qbm ?hp ?_); (case hp => walk_at "lw_hp")) | (with_reducible (first | refine go_int ?_ | refine go_intB ?_ | refine go_yes ?_ | refine go_and ?_ | refine go_notV ?_ | refine go_iL ?_)) | ((with_reducible refine' go_glst ?hp ?ha ?_); (case hp => walk_at "lw_hp"); (case ha => first | rfl | assumption)) | ((with_reducible refine' go_qiL ?hp ?_); (case hp => walk_at "lw_hp")) | (with_reducible (first | refine go_par ?_ | refine go_gpar ?_ | refine go_isN_non ?_ | refine go_isN_int ?_ | refine go_isN_str ?_ | refine go_isN_bl ?_ | refine go_isN_ref ?_ | refine go_neI ?_ | refine go_neS ?_ | refine go_neB ?_ | refine go_iT ?_ | refine go_ne (by rfl) ?_)) | ((with_reducible refine' go_ixAL ?hp ?ha ?_); (case hp => walk_at "lw_hp"); (case ha => first | rfl | assumption)) | ((with_reducible refine' go_ixAT ?hp ?ha ?_); (case hp => walk_at "lw_hp"); (case ha => first | rfl | assumption)) | ((with_reducible refine' go_qiT ?hp ?_); (case hp => walk_at "lw_hp")) | (with_reducible (first | refine go_is_non_int ?_ | refine go_is_non_bool ?_ | refine go_is_non_str ?_ | refine go_is_non_tuple ?_ | refine go_is_non_list ?_ | refine go_is_bl_int ?_ | refine go_is_bl_bool ?_ | refine go_is_bl_str ?_ | refine go_is_bl_tuple ?_ | refine go_is_bl_list ?_ | refine go_is_int_int ?_ | refine go_is_int_bool ?_ | refine go_is_int_str ?_ | refine go_is_int_tuple ?_ | refine go_is_int_list ?_ | refine go_is_str_int ?_ | refine go_is_str_bool ?_ | refine go_is_str_str ?_ | refine go_is_str_tuple ?_ | refine go_is_str_list ?_)) | ((with_reducible refine' go_is_lst_int ?hp ?_); (case hp => walk_at "lw_hp")) | ((with_reducible refine' go_is_lst_bool ?hp ?_); (case hp => walk_at "lw_hp")) | ((with_reducible refine' go_is_lst_str ?hp ?_); (case hp => walk_at "lw_hp")) | ((with_reducible refine' go_is_lst_tuple ?hp ?_); (case hp => walk_at "lw_hp")) | ((with_reducible refine' go_is_lst_list ?hp ?_); (case hp => walk_at "lw_hp")) | ((with_reducible refine' go_is_tup_int ?hp ?_); (case hp => walk_at "lw_hp")) | ((with_reducible refine' go_is_tup_bool ?hp ?_); (case hp => walk_at "lw_hp")) | ((with_reducible refine' go_is_tup_str ?hp ?_); (case hp => walk_at "lw_hp")) | ((with_reducible refine' go_is_tup_tuple ?hp ?_); (case hp => walk_at "lw_hp")) | ((with_reducible refine' go_is_tup_list ?hp ?_); (case hp => walk_at "lw_hp")) | (with_reducible (first | refine go_max ?_ | refine go_bm0 ?_ | refine go_chain ?_ | refine go_qch ?_)) | ((with_reducible refine' go_qbm0 ?hp ?_); (case hp => walk_at "lw_hp")) | (with_reducible (first | refine go_retN ?_ | refine go_orV ?_ | refine go_whQ ?_ | refine go_rng2 ?_ | refine go_qrng2 (by omega) (by omega) (by omega) (by omega) ?_ | refine go_rvr ?_ | refine go_qrvr (by omega) (by omega) ?_ | refine go_fcons ?_ | refine go_fv ?_ | refine go_m0 ?_ | refine go_m1 ?_ | refine go_qm0 ?_ | refine go_qm1 ?_ | refine go_digit ?_ | refine go_ascii ?_ | refine go_starts ?_ | refine go_star ?_ | refine go_rvL ?_ | refine go_dninK ?_ | refine go_rng3 ?_ | refine go_qrng3 (by omega) (by omega) (by omega) (by omega) ?_ | refine go_lr2 ?_ | refine go_enum ?_ | refine go_aug rfl ?_ | refine go_ipI ?_)) | ((with_reducible refine' go_qenum ?hp ?_); (case hp => walk_at "lw_hp")) | ((with_reducible refine' go_sumL ?hp ?_); (case hp => walk_at "lw_hp")))))
abbrev s_is_number : Stmt := top 13
def Plain (H : Hp) (x : V) : Prop := (∃ n, x = .int n) ∨ (∃ b, x = .bl b) ∨ x = .non ∨ (∃ t, x = .str t) ∨ ∃ a xs, x = .ref a ∧ (H a = some (.lst xs) ∨ H a = some (.tup xs))
def numV (x : V) (lo hi : Int) : Bool := match x with
  | .int n => decide (lo ≤ n ∧ n ≤ hi)
  | _ => false
def spIsNum : Sp := fun vs H Q _ => ∃ (x : V) (lo hi : Int), vs = [x, .int lo, .int hi] ∧ Plain H x ∧ Q (.bl (numV x lo hi)) H
theorem int_of {ns : List Int} {i : Nat} {x : V} (h : (ns.map V.int)[i]? = some x) : ∃ n, x = .int n ∧ ns[i]? = some n := by
  rw [List.getElem?_map] at h
  cases e : ns[i]? with
  | none => rw [e] at h; cases h
  | some z => rw [e] at h; exact ⟨z, (Option.some.inj h).symm, rfl⟩
theorem mem_of {ns : List Int} {i : Nat} {n : Int} (h : ns[i]? = some n) : n ∈ ns := List.mem_of_getElem? h
theorem num_go {H : Hp} {Q : VK} {E : XK} {n lo hi : Int} (h0 : lo ≤ n) (h1 : n ≤ hi) (q : Q (.bl true) H) : spIsNum [.int n, .int lo, .int hi] H Q E := ⟨.int n, lo, hi, rfl, .inl ⟨n, rfl⟩, by rw [show numV (.int n) lo hi = true from decide_eq_true ⟨h0, h1⟩]; exact q⟩
section
variable {P : Program} {w : World} {K : PySem.W.Frag} {mg : Str → Option Value} {base : Heap} {f : Addr} {fd : FuncData}
theorem scs_is_number : FnScope ["thing", "low", "high"] ["thing", "low", "high"] (defScope s_is_number) := ⟨rfl, rfl, rfl, by decide +kernel, rfl, by decide +kernel, by decide +kernel⟩
theorem ok_isnum (F : Fun K "is_number" "is_number" s_is_number f fd) (T : Txt mg) : FnOk P w K mg base CX0 1 f fd ["thing", "low", "high"] spIsNum := by
  refine F.ok scs_is_number (fun vs H Q E h => ?_) (fun cdv A outer s H vs Q E hr h => ?_)
  · obtain ⟨x, lo, hi, rfl, _⟩ := h
    rfl
  obtain ⟨x, lo, hi, rfl, hx, k⟩ := h
  have nd := scs_is_number.nd
  have hu := hu_of hr
  refine ⟨_, (pss_one (ps_ret (pe_and (pe_callB (kIsinst K) (by rfl) T.n_isinstance (by decide +kernel) (pa_cons (pv 0) (pa_cons (pe_bltn (v := .ty "int") (by rfl) T.n_int (by decide +kernel) rfl) pa_nil))) (pe_and (pe_not (pe_callB (kIsinst K) (by rfl) T.n_isinstance (by decide +kernel) (pa_cons (pv 0) (pa_cons (pe_bltn (v := .ty "bool") (by rfl) T.n_bool (by decide +kernel) rfl) pa_nil)))) (pe_one (pe_chain op_le op_le (pv 1) (pv 0) (pv 2))))))), ?_⟩
  rcases hx with ⟨n, rfl⟩ | ⟨b, rfl⟩ | rfl | ⟨t, rfl⟩ | ⟨a, xs, rfl, ha | ha⟩
  · walk_at "lw_go"
    refine go_iteD (fun c => ?_) (fun c => ?_)
    · walk_at "lw_go"
      have e : numV (.int n) lo hi = decide (n ≤ hi) := by
        unfold numV
        exact decide_eq_decide.mpr ⟨fun z => z.2, fun z => ⟨c, z⟩⟩
      rw [e] at k
      exact k
    · have e : numV (.int n) lo hi = false := decide_eq_false (fun z => c z.1)
      rw [e] at k
      exact k
  all_goals
    walk_at "lw_go"
    exact k
end
end Lw
set_option Elab.async false
set_option linter.all false
set_option maxRecDepth 100000
set_option maxHeartbeats 4000000
namespace Lw
open PySem L2
local macro_rules | `(tactic| walk_at "lw_hp") => `(tactic| (repeat (first | assumption | exact upd_same | (refine' upd_new (by assumption) ?_) | (refine' tup_off (by assumption) (by assumption) ?_) | (refine' lst_off (by assumption) (by assumption) (by assumption) ?_) | (refine' Same.get (by assumption) ?_) | (refine' Off.get (by assumption) (by assumption) ?_) | (refine' upd_oth (by assumption) ?_))))
abbrev s_check_weights : Stmt := top 19
abbrev s_check_falls : Stmt := top 20
abbrev s_check_price : Stmt := top 21
def spCkW : Sp := fun vs H Q _ => ∃ (w : Addr) (W : List Int), vs = [.ref w] ∧ H w = some (.lst (W.map V.int)) ∧ W.length ≤ 60 ∧ (∀ x ∈ W, 1 ≤ x ∧ x ≤ 99) ∧ ∀ H', Same H H' → Q .non H'
def spCkF : Sp := fun vs H Q _ => ∃ (f : Addr) (F : List Int) (n : Int), vs = [.ref f, .int n] ∧ H f = some (.lst (F.map V.int)) ∧ F.length ≤ 20 ∧ (∀ x ∈ F, 0 ≤ x ∧ x ≤ n) ∧ F.Pairwise (· ≤ ·) ∧ ∀ H', Same H H' → Q .non H'
def spCkP : Sp := fun vs H Q _ => ∃ (n : Int), vs = [.int n] ∧ 0 ≤ n ∧ n ≤ 999 ∧ Q .non H
section
variable {P : Program} {w : World} {K : PySem.W.Frag} {mg : Str → Option Value} {base : Heap} {f : Addr} {fd : FuncData}
theorem scs_check_weights : FnScope ["weights", "number", "weight"] ["weights"] (defScope s_check_weights) := ⟨rfl, rfl, rfl, by decide +kernel, rfl, by decide +kernel, by decide +kernel⟩
theorem ok_ckw (F : Fun K "check_weights" "check_weights" s_check_weights f fd) (T : Txt mg) (C_is_number : FnC P w K mg base 1 "is_number" ["thing", "low", "high"] spIsNum) : FnOk P w K mg base CX0 2 f fd ["weights"] spCkW := by
  refine F.ok scs_check_weights (fun vs H Q E h => ?_) (fun cdv A outer s H vs Q E hr h => ?_)
  · obtain ⟨a, W, rfl, _⟩ := h
    rfl
  obtain ⟨a, W, rfl, hw, hl, hb, k⟩ := h
  have nd := scs_check_weights.nd
  have hu := hu_of hr
  refine ⟨_, (pss_cons (ps_if (pt_not (pt_val (pe_callB (kIsinst K) (by rfl) T.n_isinstance (by decide +kernel) (pa_cons (pv 0) (pa_cons (pe_bltn (v := .ty "list") (by rfl) T.n_list (by decide +kernel) rfl) pa_nil))))) (pss_one ps_never) pss_nil)
      (pss_one (ps_for PassesOwn.never rfl (pi_enum (by rfl) T.n_enumerate (pa_cons (pv 0) pa_nil)) (kPgT K (by rfl) (pgs_cons (pg_name (i := 1) nd rfl (Or.inl rfl)) (pgs_cons (pg_name (i := 2) nd rfl (Or.inl rfl)) pgs_nil))) (pss_one (ps_if (PW.pt (pw_or (pt_cmpR op_eq (pv 1) (pe_gint (by rfl) T.g_MOST_STEPS) (nomark _)) (pw_or1 (pt_not (pt_val (pe_callC C_is_number (hr.mono (by omega)) (by rfl) (pa_cons (pv 2) (pa_cons pe_int (pa_cons (pe_gint (by rfl) T.g_MOST_WEIGHT) pa_nil))))))))) (pss_one ps_never) pss_nil))))), ?_⟩
  with_reducible refine go_seq (go_ifS (go_not (go_testB (go_cb ?_))))
  with_reducible refine go_cons (go_var rfl (go_cons (go_c (go_nil ?_))))
  (with_reducible refine' go_is_lst_list ?hp ?_); (case hp => walk_at "lw_hp")
  with_reducible refine go_qb (go_iteNt (go_next (go_for (go_enum ?_))))
  with_reducible refine go_cons (go_var rfl (go_nil ?_))
  (with_reducible refine' go_qenum ?hp ?_); (case hp => walk_at "lw_hp")
  refine fq_enum (W.map V.int) (fun i σ H' => ∃ v v', σ = [some (.ref a), v, v'] ∧ Same H H') ⟨none, none, rfl, Same.refl H⟩ ?_ ?_ ?_
  · rintro i σ H' _ ⟨v, v', rfl, sm⟩
    exact SqL.of (sm _ _ hw)
  · rintro i x σ H' t hx ht ⟨v, v', rfl, sm⟩
    obtain ⟨n, rfl, hn⟩ := int_of hx
    have hi : i < W.length := (List.getElem?_eq_some_iff.mp hn).1
    have hbn := hb n (mem_of hn)
    (with_reducible refine' go_gtup ?hp ?ha ?_); (case hp => walk_at "lw_hp"); (case ha => first | rfl | assumption)
    with_reducible refine go_gcons (go_gname (go_gcons (go_gname (go_gnil ?_))))
    with_reducible refine go_ifS (go_or (go_test (go_op (go_var rfl ?_))))
    with_reducible refine go_c (go_eqI (go_qb (go_iteDF (by first | assumption | omega | decide | decide +kernel | (simp only [List.length_cons, List.length_nil, List.length_map]; omega)) (go_not ?_))))
    with_reducible refine go_testB (go_callC (go_cons (go_var rfl (go_cons ?_))))
    with_reducible refine go_c (go_cons (go_c (go_nil ?_)))
    refine ⟨.int n, 1, 99, rfl, .inl ⟨n, rfl⟩, ?_⟩
    rw [show numV (.int n) 1 99 = true from decide_eq_true hbn]
    with_reducible refine go_qb (go_iteNt (go_next ?_))
    exact ⟨_, _, rfl, sm.trans (same_new ht _)⟩
  · rintro σ H' ⟨v, v', rfl, sm⟩
    skip
    exact k _ sm
theorem scs_check_falls : FnScope ["falls", "steps", "low", "number", "fall"] ["falls", "steps"] (defScope s_check_falls) := ⟨rfl, rfl, rfl, by decide +kernel, rfl, by decide +kernel, by decide +kernel⟩
theorem ok_ckf (F : Fun K "check_falls" "check_falls" s_check_falls f fd) (T : Txt mg) (C_is_number : FnC P w K mg base 1 "is_number" ["thing", "low", "high"] spIsNum) : FnOk P w K mg base CX0 2 f fd ["falls", "steps"] spCkF := by
  refine F.ok scs_check_falls (fun vs H Q E h => ?_) (fun cdv A outer s H vs Q E hr h => ?_)
  · obtain ⟨a, W, n, rfl, _⟩ := h
    rfl
  obtain ⟨a, W, m, rfl, hw, hl, hb, hp, k⟩ := h
  have nd := scs_check_falls.nd
  have hu := hu_of hr
  refine ⟨_, (pss_cons (ps_if (pt_not (pt_val (pe_callB (kIsinst K) (by rfl) T.n_isinstance (by decide +kernel) (pa_cons (pv 0) (pa_cons (pe_bltn (v := .ty "list") (by rfl) T.n_list (by decide +kernel) rfl) pa_nil))))) (pss_one ps_never) pss_nil)
      (pss_cons (ps_set (i := 2) nd rfl (Or.inl rfl) pe_int)
      (pss_one (ps_for PassesOwn.never rfl (pi_enum (by rfl) T.n_enumerate (pa_cons (pv 0) pa_nil)) (kPgT K (by rfl) (pgs_cons (pg_name (i := 3) nd rfl (Or.inl rfl)) (pgs_cons (pg_name (i := 4) nd rfl (Or.inl rfl)) pgs_nil))) (pss_cons (ps_if (PW.pt (pw_or (pt_cmpR op_eq (pv 3) (pe_gint (by rfl) T.g_MOST_FALLS) (nomark _)) (pw_or1 (pt_not (pt_val (pe_callC C_is_number (hr.mono (by omega)) (by rfl) (pa_cons (pv 4) (pa_cons (pv 2) (pa_cons (pv 1) pa_nil))))))))) (pss_one ps_never) pss_nil)
      (pss_one (ps_set (i := 2) nd rfl (Or.inl rfl) (pv 4)))))))), ?_⟩
  with_reducible refine go_seq (go_ifS (go_not (go_testB (go_cb ?_))))
  with_reducible refine go_cons (go_var rfl (go_cons (go_c (go_nil ?_))))
  (with_reducible refine' go_is_lst_list ?hp ?_); (case hp => walk_at "lw_hp")
  with_reducible refine go_qb (go_iteNt (go_next (go_seq (go_asg ?_))))
  with_reducible refine go_c (go_gname (go_for (go_enum (go_cons ?_))))
  with_reducible refine go_var rfl (go_nil ?_)
  (with_reducible refine' go_qenum ?hp ?_); (case hp => walk_at "lw_hp")
  refine fq_enum (W.map V.int) (fun i σ H' => ∃ lo v v', σ = [some (.ref a), some (.int m), some (.int lo), v, v'] ∧ (∀ (j : Nat) x, i ≤ j → W[j]? = some x → lo ≤ x) ∧ Same H H') ⟨0, none, none, rfl, fun j x _ e => (hb x (mem_of e)).1, Same.refl H⟩ ?_ ?_ ?_
  · rintro i σ H' _ ⟨lo, v, v', rfl, _, sm⟩
    exact SqL.of (sm _ _ hw)
  · rintro i x σ H' t hx ht ⟨lo, v, v', rfl, hlo, sm⟩
    obtain ⟨n, rfl, hn⟩ := int_of hx
    have hi : i < W.length := (List.getElem?_eq_some_iff.mp hn).1
    have hbn := hb n (mem_of hn)
    have h0 := hlo i n (Nat.le_refl _) hn
    (with_reducible refine' go_gtup ?hp ?ha ?_); (case hp => walk_at "lw_hp"); (case ha => first | rfl | assumption)
    with_reducible refine go_gcons (go_gname (go_gcons (go_gname (go_gnil ?_))))
    with_reducible refine go_seq (go_ifS (go_or (go_test (go_op ?_))))
    with_reducible refine go_var rfl (go_c (go_eqI (go_qb (go_iteDF (by first | assumption | omega | decide | decide +kernel | (simp only [List.length_cons, List.length_nil, List.length_map]; omega)) ?_))))
    with_reducible refine go_not (go_testB (go_callC (go_cons (go_var rfl ?_))))
    with_reducible refine go_cons (go_var rfl (go_cons (go_var rfl (go_nil ?_))))
    refine ⟨.int n, lo, m, rfl, .inl ⟨n, rfl⟩, ?_⟩
    rw [show numV (.int n) lo m = true from decide_eq_true ⟨h0, hbn.2⟩]
    with_reducible refine go_qb (go_iteNt (go_next (go_asg (go_var rfl ?_))))
    with_reducible refine go_gname ?_
    refine ⟨n, _, _, rfl, fun j x hj e => ?_, sm.trans (same_new ht _)⟩
    obtain ⟨l1, e1⟩ := List.getElem?_eq_some_iff.mp hn
    obtain ⟨l2, e2⟩ := List.getElem?_eq_some_iff.mp e
    rw [← e1, ← e2]
    exact List.pairwise_iff_getElem.mp hp i j l1 l2 (by omega)
  · rintro σ H' ⟨lo, v, v', rfl, _, sm⟩
    skip
    exact k _ sm
theorem scs_check_price : FnScope ["price"] ["price"] (defScope s_check_price) := ⟨rfl, rfl, rfl, by decide +kernel, rfl, by decide +kernel, by decide +kernel⟩
theorem ok_ckp (F : Fun K "check_price" "check_price" s_check_price f fd) (T : Txt mg) (C_is_number : FnC P w K mg base 1 "is_number" ["thing", "low", "high"] spIsNum) : FnOk P w K mg base CX0 2 f fd ["price"] spCkP := by
  refine F.ok scs_check_price (fun vs H Q E h => ?_) (fun cdv A outer s H vs Q E hr h => ?_)
  · obtain ⟨n, rfl, _⟩ := h
    rfl
  obtain ⟨n, rfl, h0, h1, k⟩ := h
  have nd := scs_check_price.nd
  have hu := hu_of hr
  refine ⟨_, (pss_one (ps_if (pt_not (pt_val (pe_callC C_is_number (hr.mono (by omega)) (by rfl) (pa_cons (pv 0) (pa_cons pe_int (pa_cons (pe_gint (by rfl) T.g_MOST_PRICE) pa_nil)))))) (pss_one ps_never) pss_nil)), ?_⟩
  with_reducible refine go_ifS (go_not (go_testB (go_callC (go_cons ?_))))
  with_reducible refine go_var rfl (go_cons (go_c (go_cons (go_c ?_))))
  with_reducible refine go_nil ?_
  refine ⟨.int n, 0, 999, rfl, .inl ⟨n, rfl⟩, ?_⟩
  rw [show numV (.int n) 0 999 = true from decide_eq_true ⟨h0, h1⟩]
  with_reducible refine go_qb (go_iteNt (go_next ?_))
  exact k
end
end Lw
set_option Elab.async false
set_option linter.all false
set_option maxRecDepth 100000
set_option maxHeartbeats 4000000
namespace Lw
open PySem L2
local macro_rules | `(tactic| walk_at "lw_hp") => `(tactic| (repeat (first | assumption | exact upd_same | (refine' upd_new (by assumption) ?_) | (refine' tup_off (by assumption) (by assumption) ?_) | (refine' lst_off (by assumption) (by assumption) (by assumption) ?_) | (refine' Same.get (by assumption) ?_) | (refine' Off.get (by assumption) (by assumption) ?_) | (refine' upd_oth (by assumption) ?_))))
theorem elen (a b : Str) : (a ++ b).length = a.length + b.length := by
  show (a.cps ++ b.cps).size = a.cps.size + b.cps.size
  simp
theorem esmall {n : Nat} (h : n ≤ 2000) : n ≤ sizeLine := Nat.le_trans h (by decide)
abbrev s_BadWeights___init__ : Stmt := inClass (top 7) 0
abbrev s_BadFalls___init__ : Stmt := inClass (top 8) 0
abbrev s_BadMarks___init__ : Stmt := inClass (top 9) 0
section
variable {P : Program} {w : World} {K : PySem.W.Frag} {mg : Str → Option Value} {base : Heap} {f : Addr} {fd : FuncData} {W C : Addr}
theorem scs_BadWeights___init__ : FnScope ["self", "number"] ["self", "number"] (defScope s_BadWeights___init__) := ⟨rfl, rfl, rfl, by decide +kernel, rfl, by decide +kernel, by decide +kernel⟩
theorem ok_xi_weights (F : Fun K "__init__" "BadWeights.__init__" s_BadWeights___init__ f fd) (T : Txt mg) (XW_WorkError : XW K mg "WorkError" W) (XFc : XF K C (.ref W :: vBm)) (hn : PySem.W.findIn K (.ref C) "number" = some none) : FnOk P w K mg base CX0 1 f fd ["self", "number"] (spXI K W C "number") := by
  refine F.ok scs_BadWeights___init__ (fun vs H Q E h => ?_) (fun cdv A outer s H vs Q E hr h => ?_)
  · obtain ⟨x, i, rfl, _⟩ := h
    rfl
  obtain ⟨x, i, rfl, hx, h0, h1, k⟩ := h
  have nd := scs_BadWeights___init__.nd
  have hu := hu_of hr
  have l1 := num_len h0 h1
  have le : Str.empty.length = 0 := rfl
  have l2 : (Str.ofString "weight ").length ≤ 20 := by decide +kernel
  have l3 : (Str.ofString " can't be").length ≤ 20 := by decide +kernel
  refine ⟨_, (pss_cons (ps_expr (pe_winit XW_WorkError (by rfl) (pa_cons (pv 0) (pa_cons (pe_fstr (pf_cons pe_str (pf_cons (pe_fv (pv 1)) (pf_cons pe_str pf_nil)))) pa_nil))))
      (pss_one (ps_fldX K W (pv 0) (pv 1) rfl))), ?_⟩
  with_reducible refine go_seq (go_drop ?_)
  refine go_winit ?_
  with_reducible refine go_cons (go_var rfl (go_cons (go_fcons (go_c ?_))))
  refine go_qfp (esmall (by rw [elen]; omega)) ?_
  with_reducible refine go_fcons (go_fv (go_var rfl ?_))
  refine go_fvI (num_log h0 h1) ?_
  refine go_qfp (esmall (by rw [elen, elen]; omega)) ?_
  with_reducible refine go_fcons (go_c ?_)
  refine go_qfp (esmall (by rw [elen, elen, elen]; omega)) ?_
  refine go_fnil (esmall (by rw [elen, elen, elen]; omega)) ?_
  with_reducible refine go_nil ?_
  refine ⟨x, C, none, _, _, rfl, hx, XFc.c, ?_⟩
  refine go_sfldX ?_
  with_reducible refine go_var rfl (go_var rfl ?_)
  refine ⟨x, C, none, rfl, hx, XFc, hn, .inl ⟨rfl, fun dx hdx ne => ?_⟩⟩
  skip
  exact k dx hdx ne
theorem scs_BadFalls___init__ : FnScope ["self", "number"] ["self", "number"] (defScope s_BadFalls___init__) := ⟨rfl, rfl, rfl, by decide +kernel, rfl, by decide +kernel, by decide +kernel⟩
theorem ok_xi_falls (F : Fun K "__init__" "BadFalls.__init__" s_BadFalls___init__ f fd) (T : Txt mg) (XW_WorkError : XW K mg "WorkError" W) (XFc : XF K C (.ref W :: vBm)) (hn : PySem.W.findIn K (.ref C) "number" = some none) : FnOk P w K mg base CX0 1 f fd ["self", "number"] (spXI K W C "number") := by
  refine F.ok scs_BadFalls___init__ (fun vs H Q E h => ?_) (fun cdv A outer s H vs Q E hr h => ?_)
  · obtain ⟨x, i, rfl, _⟩ := h
    rfl
  obtain ⟨x, i, rfl, hx, h0, h1, k⟩ := h
  have nd := scs_BadFalls___init__.nd
  have hu := hu_of hr
  have l1 := num_len h0 h1
  have le : Str.empty.length = 0 := rfl
  have l2 : (Str.ofString "fall ").length ≤ 20 := by decide +kernel
  have l3 : (Str.ofString " can't be").length ≤ 20 := by decide +kernel
  refine ⟨_, (pss_cons (ps_expr (pe_winit XW_WorkError (by rfl) (pa_cons (pv 0) (pa_cons (pe_fstr (pf_cons pe_str (pf_cons (pe_fv (pv 1)) (pf_cons pe_str pf_nil)))) pa_nil))))
      (pss_one (ps_fldX K W (pv 0) (pv 1) rfl))), ?_⟩
  with_reducible refine go_seq (go_drop ?_)
  refine go_winit ?_
  with_reducible refine go_cons (go_var rfl (go_cons (go_fcons (go_c ?_))))
  refine go_qfp (esmall (by rw [elen]; omega)) ?_
  with_reducible refine go_fcons (go_fv (go_var rfl ?_))
  refine go_fvI (num_log h0 h1) ?_
  refine go_qfp (esmall (by rw [elen, elen]; omega)) ?_
  with_reducible refine go_fcons (go_c ?_)
  refine go_qfp (esmall (by rw [elen, elen, elen]; omega)) ?_
  refine go_fnil (esmall (by rw [elen, elen, elen]; omega)) ?_
  with_reducible refine go_nil ?_
  refine ⟨x, C, none, _, _, rfl, hx, XFc.c, ?_⟩
  refine go_sfldX ?_
  with_reducible refine go_var rfl (go_var rfl ?_)
  refine ⟨x, C, none, rfl, hx, XFc, hn, .inl ⟨rfl, fun dx hdx ne => ?_⟩⟩
  skip
  exact k dx hdx ne
theorem scs_BadMarks___init__ : FnScope ["self", "number"] ["self", "number"] (defScope s_BadMarks___init__) := ⟨rfl, rfl, rfl, by decide +kernel, rfl, by decide +kernel, by decide +kernel⟩
theorem ok_xi_marks (F : Fun K "__init__" "BadMarks.__init__" s_BadMarks___init__ f fd) (T : Txt mg) (XW_WorkError : XW K mg "WorkError" W) (XFc : XF K C (.ref W :: vBm)) (hn : PySem.W.findIn K (.ref C) "number" = some none) : FnOk P w K mg base CX0 1 f fd ["self", "number"] (spXI K W C "number") := by
  refine F.ok scs_BadMarks___init__ (fun vs H Q E h => ?_) (fun cdv A outer s H vs Q E hr h => ?_)
  · obtain ⟨x, i, rfl, _⟩ := h
    rfl
  obtain ⟨x, i, rfl, hx, h0, h1, k⟩ := h
  have nd := scs_BadMarks___init__.nd
  have hu := hu_of hr
  have l1 := num_len h0 h1
  have le : Str.empty.length = 0 := rfl
  have l2 : (Str.ofString "mark ").length ≤ 20 := by decide +kernel
  have l3 : (Str.ofString " can't be").length ≤ 20 := by decide +kernel
  refine ⟨_, (pss_cons (ps_expr (pe_winit XW_WorkError (by rfl) (pa_cons (pv 0) (pa_cons (pe_fstr (pf_cons pe_str (pf_cons (pe_fv (pv 1)) (pf_cons pe_str pf_nil)))) pa_nil))))
      (pss_one (ps_fldX K W (pv 0) (pv 1) rfl))), ?_⟩
  with_reducible refine go_seq (go_drop ?_)
  refine go_winit ?_
  with_reducible refine go_cons (go_var rfl (go_cons (go_fcons (go_c ?_))))
  refine go_qfp (esmall (by rw [elen]; omega)) ?_
  with_reducible refine go_fcons (go_fv (go_var rfl ?_))
  refine go_fvI (num_log h0 h1) ?_
  refine go_qfp (esmall (by rw [elen, elen]; omega)) ?_
  with_reducible refine go_fcons (go_c ?_)
  refine go_qfp (esmall (by rw [elen, elen, elen]; omega)) ?_
  refine go_fnil (esmall (by rw [elen, elen, elen]; omega)) ?_
  with_reducible refine go_nil ?_
  refine ⟨x, C, none, _, _, rfl, hx, XFc.c, ?_⟩
  refine go_sfldX ?_
  with_reducible refine go_var rfl (go_var rfl ?_)
  refine ⟨x, C, none, rfl, hx, XFc, hn, .inl ⟨rfl, fun dx hdx ne => ?_⟩⟩
  skip
  exact k dx hdx ne
end
end Lw
set_option Elab.async false
set_option linter.all false
set_option maxRecDepth 100000
set_option maxHeartbeats 8000000
namespace Lw
open PySem L2
local macro_rules | `(tactic| walk_at "lw_hp") => `(tactic| (repeat (first | assumption | exact upd_same | (refine' upd_new (by assumption) ?_) | (refine' tup_off (by assumption) (by assumption) ?_) | (refine' lst_off (by assumption) (by assumption) (by assumption) ?_) | (refine' Same.get (by assumption) ?_) | (refine' Off.get (by assumption) (by assumption) ?_) | (refine' upd_oth (by assumption) ?_))))
local macro_rules | `(tactic| walk_at "lw_go") => `(tactic| (repeat (first | (with_reducible (first | refine go_var rfl ?_ | refine go_c ?_ | refine go_cons ?_ | refine go_op ?_ | refine go_nil ?_ | refine go_seq ?_ | refine go_qb ?_ | refine go_test ?_ | refine go_ifS ?_ | refine go_gname ?_ | refine go_cb ?_)) | ((with_reducible refine' go_ixT ?hp ?ha ?_); (case hp => walk_at "lw_hp"); (case ha => first | rfl | assumption)) | (with_reducible (first | refine go_asg ?_ | refine go_callC ?_ | refine go_next ?_ | refine go_tup ?_ | refine go_i0 ?_ | refine go_ret ?_ | refine go_dget ?_ | refine go_gcons ?_ | refine go_gsub ?_ | refine go_testB ?_)) | ((with_reducible refine' go_ixL ?hp ?ha ?_); (case hp => walk_at "lw_hp"); (case ha => first | rfl | assumption)) | (with_reducible (first | refine' go_ixLs (by assumption) (by assumption) ?_ | refine go_lst ?_)) | ((with_reducible refine' go_i ?cc ?_); (case cc => first | omega | (simp only [CDiv, CMul, CPow]; omega) | (simp only [CDiv, CMul, CPow]; decide))) | (with_reducible (first | refine go_drop ?_ | refine go_eqI ?_ | refine go_eqS ?_ | refine go_eqB ?_ | refine go_eq (by rfl) ?_ | refine go_gnil ?_ | refine go_iteT ?_ | refine go_iteF ?_ | refine go_iteNt ?_ | refine go_iteNf ?_ | refine go_iteNN ?_)) | (with_reducible refine go_iteDT (by first | assumption | rfl | omega | (simp only [List.length_cons, List.length_nil, List.length_map]; omega)) ?_) | (with_reducible refine go_iteDF (by first | assumption | omega | decide | decide +kernel | (simp only [List.length_cons, List.length_nil, List.length_map]; omega)) ?_) | (with_reducible refine go_iteNT (by first | assumption | rfl | omega | (simp only [List.length_cons, List.length_nil, List.length_map]; omega)) ?_) | (with_reducible refine go_iteNF (by first | assumption | omega | decide | decide +kernel | (simp only [List.length_cons, List.length_nil, List.length_map]; omega)) ?_) | (with_reducible refine go_iteBT (by first | assumption | decide +kernel) ?_) | (with_reducible refine go_iteBF (by first | assumption | decide +kernel) ?_) | (with_reducible (first | refine go_dput ?_ | refine go_setD ?_)) | ((with_reducible refine' go_gtup ?hp ?ha ?_); (case hp => walk_at "lw_hp"); (case ha => first | rfl | assumption)) | (with_reducible refine go_if ?_) | ((with_reducible refine' go_setL ?hp ?ha ?_); (case hp => walk_at "lw_hp"); (case ha => first | rfl | assumption)) | (with_reducible (first | refine go_not ?_ | refine go_or ?_ | refine go_andV ?_ | refine go_sl ?_ | refine go_nopart ?_ | refine go_part ?_ | refine go_qI ?_ | refine' go_lenLs (by assumption) ?_)) | ((with_reducible refine' go_lenL ?hp ?_); (case hp => walk_at "lw_hp")) | ((with_reducible refine' go_lenT ?hp ?_); (case hp => walk_at "lw_hp")) | ((with_reducible refine' go_inT ?hp ?ha ?hb ?_); (case hp => walk_at "lw_hp"); (case ha => rfl); (case hb => rfl)) | ((with_reducible refine' go_notInT ?hp ?ha ?hb ?_); (case hp => walk_at "lw_hp"); (case ha => rfl); (case hb => rfl)) | (with_reducible (first | refine go_pnil ?_ | refine go_pcons ?_ | refine go_un ?_ | refine go_u ?_ | refine go_for ?_ | refine go_rng1 ?_ | refine go_qrng1 (by omega) (by omega) ?_ | refine go_notN_non ?_ | refine go_notN_int ?_ | refine go_notN_str ?_ | refine go_notN_bl ?_ | refine go_notN_ref ?_ | refine go_min ?_ | refine go_bm ?_ | refine go_lc ?_)) | ((with_reducible refine' go_qbm ?hp ?_); (case hp => walk_at "lw_hp")) | (with_reducible (first | refine go_int ?_ | refine go_intB ?_ | refine go_yes ?_ | refine go_and ?_ | refine go_notV ?_ | refine go_iL ?_)) | ((with_reducible refine' go_glst ?hp ?ha ?_); (case hp => walk_at "lw_hp"); (case ha => first | rfl | assumption)) | ((with_reducible refine' go_qiL ?hp ?_); (case hp => walk_at "lw_hp")) | (with_reducible (first | refine go_par ?_ | refine go_gpar ?_ | refine go_isN_non ?_ | refine go_isN_int ?_ | refine go_isN_str ?_ | refine go_isN_bl ?_ | refine go_isN_ref ?_ | refine go_neI ?_ | refine go_neS ?_ | refine go_neB ?_ | refine go_iT ?_ | refine go_ne (by rfl) ?_)) | ((with_reducible refine' go_ixAL ?hp ?ha ?_); (case hp => walk_at "lw_hp"); (case ha => first | rfl | assumption)) | ((with_reducible refine' go_ixAT ?hp ?ha ?_); (case hp => walk_at "lw_hp"); (case ha => first | rfl | assumption)) | ((with_reducible refine' go_qiT ?hp ?_); (case hp => walk_at "lw_hp")) | (with_reducible (first | refine go_is_non_int ?_ | refine go_is_non_bool ?_ | refine go_is_non_str ?_ | refine go_is_non_tuple ?_ | refine go_is_non_list ?_ | refine go_is_bl_int ?_ | refine go_is_bl_bool ?_ | refine go_is_bl_str ?_ | refine go_is_bl_tuple ?_ | refine go_is_bl_list ?_ | refine go_is_int_int ?_ | refine go_is_int_bool ?_ | refine go_is_int_str ?_ | refine go_is_int_tuple ?_ | refine go_is_int_list ?_ | refine go_is_str_int ?_ | refine go_is_str_bool ?_ | refine go_is_str_str ?_ | refine go_is_str_tuple ?_ | refine go_is_str_list ?_)) | ((with_reducible refine' go_is_lst_int ?hp ?_); (case hp => walk_at "lw_hp")) | ((with_reducible refine' go_is_lst_bool ?hp ?_); (case hp => walk_at "lw_hp")) | ((with_reducible refine' go_is_lst_str ?hp ?_); (case hp => walk_at "lw_hp")) | ((with_reducible refine' go_is_lst_tuple ?hp ?_); (case hp => walk_at "lw_hp")) | ((with_reducible refine' go_is_lst_list ?hp ?_); (case hp => walk_at "lw_hp")) | ((with_reducible refine' go_is_tup_int ?hp ?_); (case hp => walk_at "lw_hp")) | ((with_reducible refine' go_is_tup_bool ?hp ?_); (case hp => walk_at "lw_hp")) | ((with_reducible refine' go_is_tup_str ?hp ?_); (case hp => walk_at "lw_hp")) | ((with_reducible refine' go_is_tup_tuple ?hp ?_); (case hp => walk_at "lw_hp")) | ((with_reducible refine' go_is_tup_list ?hp ?_); (case hp => walk_at "lw_hp")) | (with_reducible (first | refine go_max ?_ | refine go_bm0 ?_ | refine go_chain ?_ | refine go_qch ?_)) | ((with_reducible refine' go_qbm0 ?hp ?_); (case hp => walk_at "lw_hp")) | (with_reducible (first | refine go_retN ?_ | refine go_orV ?_ | refine go_whQ ?_ | refine go_rng2 ?_ | refine go_qrng2 (by omega) (by omega) (by omega) (by omega) ?_ | refine go_rvr ?_ | refine go_qrvr (by omega) (by omega) ?_ | refine go_fcons ?_ | refine go_fv ?_ | refine go_m0 ?_ | refine go_m1 ?_ | refine go_qm0 ?_ | refine go_qm1 ?_ | refine go_digit ?_ | refine go_ascii ?_ | refine go_starts ?_ | refine go_star ?_ | refine go_rvL ?_ | refine go_dninK ?_ | refine go_rng3 ?_ | refine go_qrng3 (by omega) (by omega) (by omega) (by omega) ?_ | refine go_lr2 ?_ | refine go_enum ?_ | refine go_aug rfl ?_ | refine go_ipI ?_)) | ((with_reducible refine' go_qenum ?hp ?_); (case hp => walk_at "lw_hp")) | ((with_reducible refine' go_sumL ?hp ?_); (case hp => walk_at "lw_hp")))))
abbrev s__law_told_by : Stmt := top 31
def wordOf (i : Nat) : Str := (["program", "handed", "way", "often", "log", "weights", "falls", "price", "marks", "text"] : List Str).getD i ""
def ToldIs (K : PySem.W.Frag) (C : Addr) (i : Nat) (d : Option Addr) (H : Hp) (r : List V) : Prop :=
  (i = 0 ∧ ∃ dx fs v u, d = some dx ∧ H dx = some (.xd fs) ∧ fs.lookup ("number" : Str) = some v ∧ fs.lookup ("why" : Str) = some u ∧ PySem.W.findIn K (.ref C) "number" = some none ∧ PySem.W.findIn K (.ref C) "why" = some none ∧ r = [.str "refused", .str (wordOf i), v, u]) ∨
  (i ∈ [4, 5, 6, 8] ∧ ∃ dx fs v, d = some dx ∧ H dx = some (.xd fs) ∧ fs.lookup ("number" : Str) = some v ∧ PySem.W.findIn K (.ref C) "number" = some none ∧ r = [.str "refused", .str (wordOf i), v]) ∨
  (i = 9 ∧ ∃ dx fs v, d = some dx ∧ H dx = some (.xd fs) ∧ fs.lookup ("row" : Str) = some v ∧ PySem.W.findIn K (.ref C) "row" = some none ∧ r = [.str "refused", .str (wordOf i), v]) ∨
  (i ∈ [1, 2, 3, 7] ∧ r = [.str "refused", .str (wordOf i)])
theorem go_countL1 {H : Hp} {Q : VK} {p : Addr} {xs : List V} {y : V} (n : Nat) (h : H p = some (.lst xs)) (e : (xs.countP fun z => eqV z y) = n) (fy : flatV y = true) (fs : xs.all flatV = true) (q : Q (.int n) H) : rCountL (.ref p) [y] H Q := go_countL h fy fs (by rw [e]; exact q)
def kindsOf (i : Nat) : List V := [.bl (decide (0 = i)), .bl (decide (1 = i)), .bl (decide (2 = i)), .bl (decide (3 = i)), .bl (decide (4 = i)), .bl (decide (5 = i)), .bl (decide (6 = i)), .bl (decide (7 = i)), .bl (decide (8 = i)), .bl (decide (9 = i))]
theorem kinds_count {i : Nat} (h : i < 10) : ((kindsOf i).countP fun z => eqV z (.bl true)) = 1 := by
  have : ∀ j : Nat, j < 10 → ((kindsOf j).countP fun z => eqV z (.bl true)) = 1 := by decide +kernel
  exact this i h
theorem kinds_at {i : Nat} (h : i < 10) : ∃ z, (kindsOf i)[i]? = some z ∧ eqV z (.bl true) = true ∧ ∀ (m : Nat) z', m < i → (kindsOf i)[m]? = some z' → eqV z' (.bl true) = false := by
  have : i = 0 ∨ i = 1 ∨ i = 2 ∨ i = 3 ∨ i = 4 ∨ i = 5 ∨ i = 6 ∨ i = 7 ∨ i = 8 ∨ i = 9 := by omega
  refine ⟨.bl true, ?_, rfl, fun m z' hm e => ?_⟩
  · rcases this with rfl | rfl | rfl | rfl | rfl | rfl | rfl | rfl | rfl | rfl <;> rfl
  · have e2 : ((kindsOf i)[m]?).map (fun z => eqV z (.bl true)) = some false := by
      have : ∀ i : Nat, i < 10 → ∀ m, m < i → ((kindsOf i)[m]?).map (fun z => eqV z (.bl true)) = some false := by decide +kernel
      exact this i h m hm
    rw [e] at e2
    exact Option.some.inj e2
theorem word_at {i : Nat} (h : i < 10) : atI ([.str "program", .str "handed", .str "way", .str "often", .str "log", .str "weights", .str "falls", .str "price", .str "marks", .str "text"] : List V) (i : Nat) = some (.str (wordOf i)) := by
  have : i = 0 ∨ i = 1 ∨ i = 2 ∨ i = 3 ∨ i = 4 ∨ i = 5 ∨ i = 6 ∨ i = 7 ∨ i = 8 ∨ i = 9 := by omega
  rcases this with rfl | rfl | rfl | rfl | rfl | rfl | rfl | rfl | rfl | rfl <;> rfl
def spTold (P : Program) (w : World) (K : PySem.W.Frag) (mg : Str → Option Value) (base : Heap) (ks : Ks) (W : Addr) : Sp := fun vs H Q _ => ∃ f fd, vs = [.ref f] ∧ H f = some (LamO f fd) ∧
  CallZ P w K mg base (CXE P w) 7 f H Q (fun v d H' => ∃ C i r, v = .ref C ∧ XK1 K ks W C i ∧ ToldIs K C i d H' r ∧ ∀ t H2, Same H' H2 → H2 t = some (.tup r) → Q (.ref t) H2)
section
variable {P : Program} {w : World} {K : PySem.W.Frag} {mg : Str → Option Value} {base : Heap} {f : Addr} {fd : FuncData} {W : Addr} {bW : List Value} {ks : Ks}
theorem scs__law_told_by : FnScope ["_law_work", "e", "_law_kinds", "_law_words", "_law_word"] ["_law_work"] (defScope s__law_told_by) := ⟨rfl, rfl, rfl, by decide +kernel, rfl, by decide +kernel, by decide +kernel⟩
theorem ok_told (F : Fun K "_law_told_by" "_law_told_by" s__law_told_by f fd) (T : Txt mg) (KG : KsG mg ks) (XW_WorkError : XW K mg "WorkError" W) (xW : xcIn K W bW = true) : FnOk P w K mg base CX0 8 f fd ["_law_work"] (spTold P w K mg base ks W) := by
  refine F.ok scs__law_told_by (fun vs H Q E h => ?_) (fun cdv A outer s H vs Q E hr h => ?_)
  · obtain ⟨f, fd, rfl, _⟩ := h
    rfl
  obtain ⟨g, gd, rfl, hg, hz⟩ := h
  have nd := scs__law_told_by.nd
  have hu := hu_of hr
  refine ⟨_, (pss_one (ps_try (j := 1) (px_call0 P w K mg base 7 (pv 0) (hr.mono (by omega))) rfl rfl (by rfl) XW_WorkError.b xW nd rfl rfl (by exact (fun _ =>
      (pss_cons (ps_set (i := 2) nd rfl (Or.inl rfl) (pe_lst (pa_cons (pe_callB (kIsX K) (by rfl) T.n_isinstance (by decide +kernel) (pa_cons (pv 1) (pa_cons (pe_gref (by rfl) KG.g_BadProgram) pa_nil))) (pa_cons (pe_callB (kIsX K) (by rfl) T.n_isinstance (by decide +kernel) (pa_cons (pv 1) (pa_cons (pe_gref (by rfl) KG.g_BadHanded) pa_nil))) (pa_cons (pe_callB (kIsX K) (by rfl) T.n_isinstance (by decide +kernel) (pa_cons (pv 1) (pa_cons (pe_gref (by rfl) KG.g_BadWay) pa_nil))) (pa_cons (pe_callB (kIsX K) (by rfl) T.n_isinstance (by decide +kernel) (pa_cons (pv 1) (pa_cons (pe_gref (by rfl) KG.g_BadOften) pa_nil))) pa_nil))))))
      (pss_cons (ps_set (i := 2) nd rfl (Or.inl rfl) (pe_op op_cat (pv 2) (pe_lst (pa_cons (pe_callB (kIsX K) (by rfl) T.n_isinstance (by decide +kernel) (pa_cons (pv 1) (pa_cons (pe_gref (by rfl) KG.g_BadLog) pa_nil))) (pa_cons (pe_callB (kIsX K) (by rfl) T.n_isinstance (by decide +kernel) (pa_cons (pv 1) (pa_cons (pe_gref (by rfl) KG.g_BadWeights) pa_nil))) (pa_cons (pe_callB (kIsX K) (by rfl) T.n_isinstance (by decide +kernel) (pa_cons (pv 1) (pa_cons (pe_gref (by rfl) KG.g_BadFalls) pa_nil))) pa_nil))))))
      (pss_cons (ps_set (i := 2) nd rfl (Or.inl rfl) (pe_op op_cat (pv 2) (pe_lst (pa_cons (pe_callB (kIsX K) (by rfl) T.n_isinstance (by decide +kernel) (pa_cons (pv 1) (pa_cons (pe_gref (by rfl) KG.g_BadPrice) pa_nil))) (pa_cons (pe_callB (kIsX K) (by rfl) T.n_isinstance (by decide +kernel) (pa_cons (pv 1) (pa_cons (pe_gref (by rfl) KG.g_BadMarks) pa_nil))) (pa_cons (pe_callB (kIsX K) (by rfl) T.n_isinstance (by decide +kernel) (pa_cons (pv 1) (pa_cons (pe_gref (by rfl) KG.g_BadText) pa_nil))) pa_nil))))))
      (pss_cons (ps_if (PW.pt (pw_or (pt_cmpR op_ne (pe_bmK K PySem.F.plainAttrs_list PySem.F.slot_list_count PySem.F.type_list_count mt_countL (pv 2) (pa_cons pe_bl pa_nil)) pe_int (nomark _)) (pw_or1 (pt_not (pt_val (pe_callB (kIsX K) (by rfl) T.n_isinstance (by decide +kernel) (pa_cons (pv 1) (pa_cons (pe_bltn (v := .ty "ValueError") (by rfl) T.n_ValueError (by decide +kernel) rfl) pa_nil)))))))) (pss_one (ps_ret (pe_tup (pa_cons pe_str (pa_cons pe_str pa_nil))))) pss_nil)
      (pss_cons (ps_set (i := 3) nd rfl (Or.inl rfl) (pe_lst (pa_cons pe_str (pa_cons pe_str (pa_cons pe_str (pa_cons pe_str (pa_cons pe_str (pa_cons pe_str (pa_cons pe_str (pa_cons pe_str (pa_cons pe_str (pa_cons pe_str pa_nil))))))))))))
      (pss_cons (ps_set (i := 4) nd rfl (Or.inl rfl) (pe_ix (kIxL K) (pv 3) (pe_bmK K PySem.F.plainAttrs_list PySem.F.slot_list_index PySem.F.type_list_index (kIndex K) (pv 2) (pa_cons pe_bl pa_nil)) (fun _ _ => rfl)))
      (pss_cons (ps_if (pt_cmpR op_eq (pv 4) pe_str (nomark _)) (pss_one (ps_ret (pe_tup (pa_cons pe_str (pa_cons (pv 4) (pa_cons (pe_fldX K (pv 1) rfl) (pa_cons (pe_fldX K (pv 1) rfl) pa_nil))))))) pss_nil)
      (pss_cons (ps_if (pt_cmpR (kIn K) (pv 4) (pe_tup (pa_cons pe_str (pa_cons pe_str (pa_cons pe_str (pa_cons pe_str pa_nil))))) (by rfl)) (pss_one (ps_ret (pe_tup (pa_cons pe_str (pa_cons (pv 4) (pa_cons (pe_fldX K (pv 1) rfl) pa_nil)))))) pss_nil)
      (pss_one (ps_ret (pe_ifExp (pt_cmpR op_eq (pv 4) pe_str (nomark _)) (pe_tup (pa_cons pe_str (pa_cons (pv 4) (pa_cons (pe_fldX K (pv 1) rfl) pa_nil)))) (pe_tup (pa_cons pe_str (pa_cons (pv 4) pa_nil)))))))))))))))))), ?_⟩
  skip
  refine ⟨g, gd, rfl, hg, hz.mono ?_⟩
  rintro v d H' ⟨C, i, r, rfl, x, told, hq⟩
  refine ⟨C, _, rfl, x.f.c, ?_, fun y hy => ?_⟩
  · simp
  have hX : (upd H' y (XD y C d)) y = some (XD y C d) := upd_same
  have k0 := x.at_ 0 (D := ks.cP) rfl
  have k1 := x.at_ 1 (D := ks.cH) rfl
  have k2 := x.at_ 2 (D := ks.cW) rfl
  have k3 := x.at_ 3 (D := ks.cO) rfl
  have k4 := x.at_ 4 (D := ks.cL) rfl
  have k5 := x.at_ 5 (D := ks.cG) rfl
  have k6 := x.at_ 6 (D := ks.cF) rfl
  have k7 := x.at_ 7 (D := ks.cR) rfl
  have k8 := x.at_ 8 (D := ks.cM) rfl
  have k9 := x.at_ 9 (D := ks.cT) rfl
  have kv := x.ve
  with_reducible refine go_seq (go_asg (go_lst (go_cons (go_cb ?_))))
  with_reducible refine go_cons (go_var rfl (go_cons (go_c (go_nil ?_))))
  have cases : i = 0 ∨ i = 4 ∨ i = 5 ∨ i = 6 ∨ i = 8 ∨ i = 9 ∨ i = 1 ∨ i = 2 ∨ i = 3 ∨ i = 7 := by
    rcases told with ⟨e, _⟩ | ⟨e, _⟩ | ⟨e, _⟩ | ⟨e, _⟩
    · omega
    · simp at e
      omega
    · omega
    · simp at e
      omega
  refine go_isX (by walk_at "lw_hp") x.f k0 ?_
  with_reducible refine go_cons (go_cb (go_cons (go_var rfl (go_cons ?_))))
  with_reducible refine go_c (go_nil ?_)
  refine go_isX (by walk_at "lw_hp") x.f k1 ?_
  with_reducible refine go_cons (go_cb (go_cons (go_var rfl (go_cons ?_))))
  with_reducible refine go_c (go_nil ?_)
  refine go_isX (by walk_at "lw_hp") x.f k2 ?_
  with_reducible refine go_cons (go_cb (go_cons (go_var rfl (go_cons ?_))))
  with_reducible refine go_c (go_nil ?_)
  refine go_isX (by walk_at "lw_hp") x.f k3 ?_
  with_reducible refine go_nil ?_
  refine go_qlst (Nat.le_of_ble_eq_true rfl) (fun pa ha => ?_)
  with_reducible refine go_gname (go_seq (go_asg (go_op (go_var rfl ?_))))
  with_reducible refine go_lst (go_cons (go_cb (go_cons (go_var rfl ?_))))
  with_reducible refine go_cons (go_c (go_nil ?_))
  refine go_isX (by walk_at "lw_hp") x.f k4 ?_
  with_reducible refine go_cons (go_cb (go_cons (go_var rfl (go_cons ?_))))
  with_reducible refine go_c (go_nil ?_)
  refine go_isX (by walk_at "lw_hp") x.f k5 ?_
  with_reducible refine go_cons (go_cb (go_cons (go_var rfl (go_cons ?_))))
  with_reducible refine go_c (go_nil ?_)
  refine go_isX (by walk_at "lw_hp") x.f k6 ?_
  with_reducible refine go_nil ?_
  refine go_qlst (Nat.le_of_ble_eq_true rfl) (fun pb hb => ?_)
  skip
  refine go_cat (by walk_at "lw_hp") (by walk_at "lw_hp") (Nat.le_of_ble_eq_true rfl) (fun pc hc => ?_)
  with_reducible refine go_gname (go_seq (go_asg (go_op (go_var rfl ?_))))
  with_reducible refine go_lst (go_cons (go_cb (go_cons (go_var rfl ?_))))
  with_reducible refine go_cons (go_c (go_nil ?_))
  refine go_isX (by walk_at "lw_hp") x.f k7 ?_
  with_reducible refine go_cons (go_cb (go_cons (go_var rfl (go_cons ?_))))
  with_reducible refine go_c (go_nil ?_)
  refine go_isX (by walk_at "lw_hp") x.f k8 ?_
  with_reducible refine go_cons (go_cb (go_cons (go_var rfl (go_cons ?_))))
  with_reducible refine go_c (go_nil ?_)
  refine go_isX (by walk_at "lw_hp") x.f k9 ?_
  with_reducible refine go_nil ?_
  refine go_qlst (Nat.le_of_ble_eq_true rfl) (fun pd hd => ?_)
  skip
  refine go_cat (by walk_at "lw_hp") (by walk_at "lw_hp") (Nat.le_of_ble_eq_true rfl) (fun pe he => ?_)
  with_reducible refine go_gname (go_seq (go_ifS (go_or (go_test ?_))))
  with_reducible refine go_op (go_bm (go_var rfl ?_))
  (with_reducible refine' go_qbm ?hp ?_); (case hp => walk_at "lw_hp")
  with_reducible refine go_cons (go_c (go_nil ?_))
  have hi : i < 10 := by omega
  refine go_countL1 1 (xs := kindsOf i) (by walk_at "lw_hp") (kinds_count hi) rfl rfl ?_
  with_reducible refine go_c (go_neI (go_qb (go_iteNT (by first | assumption | rfl | omega | (simp only [List.length_cons, List.length_nil, List.length_map]; omega)) (go_not ?_))))
  with_reducible refine go_testB (go_cb (go_cons (go_var rfl (go_cons ?_))))
  with_reducible refine go_c (go_nil ?_)
  refine go_isXt (by walk_at "lw_hp") x.f kv ?_
  with_reducible refine go_qb (go_iteNt (go_next (go_seq (go_asg ?_))))
  with_reducible refine go_lst (go_cons (go_c (go_cons (go_c ?_))))
  with_reducible refine go_cons (go_c (go_cons (go_c (go_cons ?_))))
  with_reducible refine go_c (go_cons (go_c (go_cons (go_c ?_))))
  with_reducible refine go_cons (go_c (go_cons (go_c (go_cons ?_))))
  with_reducible refine go_c (go_nil ?_)
  refine go_qlst (Nat.le_of_ble_eq_true rfl) (fun pg hg2 => ?_)
  with_reducible refine go_gname (go_seq (go_asg (go_op (go_var rfl ?_))))
  with_reducible refine go_bm (go_var rfl ?_)
  (with_reducible refine' go_qbm ?hp ?_); (case hp => walk_at "lw_hp")
  with_reducible refine go_cons (go_c (go_nil ?_))
  obtain ⟨z, z1, z2, z3⟩ := kinds_at hi
  refine go_index (ys := kindsOf i) (by walk_at "lw_hp") rfl rfl z1 z2 z3 ?_
  skip
  refine go_ixL (by walk_at "lw_hp") (word_at hi) ?_
  walk_at "lw_go"
  clear z1 z2 z3 z k0 k1 k2 k3 k4 k5 k6 k7 k8 k9 kv hi
  have fin : ∀ H2, Same H' H2 → H2 y = some (XD y C d) → True := fun _ _ _ => trivial
  rcases told with ⟨rfl, dx, fs, v, u, rfl, hdx, l1, l2, f1, f2, rfl⟩ | ⟨e, dx, fs, v, rfl, hdx, l1, f1, rfl⟩ | ⟨rfl, dx, fs, v, rfl, hdx, l1, f1, rfl⟩ | ⟨e, rfl⟩
  · walk_at "lw_go"
    refine go_fldX ?_
    walk_at "lw_go"
    refine ⟨y, C, dx, fs, v, _, rfl, by walk_at "lw_hp", by walk_at "lw_hp", l1, x.f, f1, ?_⟩
    walk_at "lw_go"
    refine go_fldX ?_
    walk_at "lw_go"
    refine ⟨y, C, dx, fs, u, _, rfl, by walk_at "lw_hp", by walk_at "lw_hp", l2, x.f, f2, ?_⟩
    walk_at "lw_go"
    refine go_qtup (Nat.le_of_ble_eq_true rfl) (fun t ht => ?_)
    exact hq _ _ (by (repeat (first | assumption | exact Same.refl _ | (refine' Same.trans ?_ (same_new (by assumption) _)) | (refine' same_upd (by assumption) ?_)))) upd_same
  · have cases : i = 4 ∨ i = 5 ∨ i = 6 ∨ i = 8 := by simpa using e
    rcases cases with rfl | rfl | rfl | rfl
    all_goals
      walk_at "lw_go"
      refine go_qtup (Nat.le_of_ble_eq_true rfl) (fun t0 ht0 => ?_)
      walk_at "lw_go"
      refine go_fldX ?_
      walk_at "lw_go"
      refine ⟨y, C, dx, fs, v, _, rfl, by walk_at "lw_hp", by walk_at "lw_hp", l1, x.f, f1, ?_⟩
      walk_at "lw_go"
      refine go_qtup (Nat.le_of_ble_eq_true rfl) (fun t ht => ?_)
      exact hq _ _ (by (repeat (first | assumption | exact Same.refl _ | (refine' Same.trans ?_ (same_new (by assumption) _)) | (refine' same_upd (by assumption) ?_)))) upd_same
  · walk_at "lw_go"
    refine go_qtup (Nat.le_of_ble_eq_true rfl) (fun t0 ht0 => ?_)
    walk_at "lw_go"
    refine go_fldX ?_
    walk_at "lw_go"
    refine ⟨y, C, dx, fs, v, _, rfl, by walk_at "lw_hp", by walk_at "lw_hp", l1, x.f, f1, ?_⟩
    walk_at "lw_go"
    refine go_qtup (Nat.le_of_ble_eq_true rfl) (fun t ht => ?_)
    exact hq _ _ (by (repeat (first | assumption | exact Same.refl _ | (refine' Same.trans ?_ (same_new (by assumption) _)) | (refine' same_upd (by assumption) ?_)))) upd_same
  · have cases : i = 1 ∨ i = 2 ∨ i = 3 ∨ i = 7 := by simpa using e
    rcases cases with rfl | rfl | rfl | rfl
    all_goals
      walk_at "lw_go"
      refine go_qtup (Nat.le_of_ble_eq_true rfl) (fun t0 ht0 => ?_)
      walk_at "lw_go"
      refine go_qtup (Nat.le_of_ble_eq_true rfl) (fun t ht => ?_)
      exact hq _ _ (by (repeat (first | assumption | exact Same.refl _ | (refine' Same.trans ?_ (same_new (by assumption) _)) | (refine' same_upd (by assumption) ?_)))) upd_same
end
end Lw
set_option Elab.async false
set_option linter.all false
set_option maxRecDepth 100000
set_option maxHeartbeats 4000000
namespace Lw
open PySem L2
local macro_rules | `(tactic| walk_at "lw_hp") => `(tactic| (repeat (first | assumption | exact upd_same | (refine' upd_new (by assumption) ?_) | (refine' tup_off (by assumption) (by assumption) ?_) | (refine' lst_off (by assumption) (by assumption) (by assumption) ?_) | (refine' Same.get (by assumption) ?_) | (refine' Off.get (by assumption) (by assumption) ?_) | (refine' upd_oth (by assumption) ?_))))
local macro_rules | `(tactic| walk_at "lw_go") => `(tactic| (repeat (first | (with_reducible (first | refine go_var rfl ?_ | refine go_c ?_ | refine go_cons ?_ | refine go_op ?_ | refine go_nil ?_ | refine go_seq ?_ | refine go_qb ?_ | refine go_test ?_ | refine go_ifS ?_ | refine go_gname ?_ | refine go_cb ?_)) | ((with_reducible refine' go_ixT ?hp ?ha ?_); (case hp => walk_at "lw_hp"); (case ha => first | rfl | assumption)) | (with_reducible (first | refine go_asg ?_ | refine go_callC ?_ | refine go_next ?_ | refine go_tup ?_ | refine go_i0 ?_ | refine go_ret ?_ | refine go_dget ?_ | refine go_gcons ?_ | refine go_gsub ?_ | refine go_testB ?_)) | ((with_reducible refine' go_ixL ?hp ?ha ?_); (case hp => walk_at "lw_hp"); (case ha => first | rfl | assumption)) | (with_reducible (first | refine' go_ixLs (by assumption) (by assumption) ?_ | refine go_lst ?_)) | ((with_reducible refine' go_i ?cc ?_); (case cc => first | omega | (simp only [CDiv, CMul, CPow]; omega) | (simp only [CDiv, CMul, CPow]; decide))) | (with_reducible (first | refine go_drop ?_ | refine go_eqI ?_ | refine go_eqS ?_ | refine go_eqB ?_ | refine go_eq (by rfl) ?_ | refine go_gnil ?_ | refine go_iteT ?_ | refine go_iteF ?_ | refine go_iteNt ?_ | refine go_iteNf ?_ | refine go_iteNN ?_)) | (with_reducible refine go_iteDT (by first | assumption | rfl | omega | (simp only [List.length_cons, List.length_nil, List.length_map]; omega)) ?_) | (with_reducible refine go_iteDF (by first | assumption | omega | decide | decide +kernel | (simp only [List.length_cons, List.length_nil, List.length_map]; omega)) ?_) | (with_reducible refine go_iteNT (by first | assumption | rfl | omega | (simp only [List.length_cons, List.length_nil, List.length_map]; omega)) ?_) | (with_reducible refine go_iteNF (by first | assumption | omega | decide | decide +kernel | (simp only [List.length_cons, List.length_nil, List.length_map]; omega)) ?_) | (with_reducible refine go_iteBT (by first | assumption | decide +kernel) ?_) | (with_reducible refine go_iteBF (by first | assumption | decide +kernel) ?_) | (with_reducible (first | refine go_dput ?_ | refine go_setD ?_)) | ((with_reducible refine' go_gtup ?hp ?ha ?_); (case hp => walk_at "lw_hp"); (case ha => first | rfl | assumption)) | (with_reducible refine go_if ?_) | ((with_reducible refine' go_setL ?hp ?ha ?_); (case hp => walk_at "lw_hp"); (case ha => first | rfl | assumption)) | (with_reducible (first | refine go_not ?_ | refine go_or ?_ | refine go_andV ?_ | refine go_sl ?_ | refine go_nopart ?_ | refine go_part ?_ | refine go_qI ?_ | refine' go_lenLs (by assumption) ?_)) | ((with_reducible refine' go_lenL ?hp ?_); (case hp => walk_at "lw_hp")) | ((with_reducible refine' go_lenT ?hp ?_); (case hp => walk_at "lw_hp")) | ((with_reducible refine' go_inT ?hp ?ha ?hb ?_); (case hp => walk_at "lw_hp"); (case ha => rfl); (case hb => rfl)) | ((with_reducible refine' go_notInT ?hp ?ha ?hb ?_); (case hp => walk_at "lw_hp"); (case ha => rfl); (case hb => rfl)) | (with_reducible (first | refine go_pnil ?_ | refine go_pcons ?_ | refine go_un ?_ | refine go_u ?_ | refine go_for ?_ | refine go_rng1 ?_ | refine go_qrng1 (by omega) (by omega) ?_ | refine go_notN_non ?_ | refine go_notN_int ?_ | refine go_notN_str ?_ | refine go_notN_bl ?_ | refine go_notN_ref ?_ | refine go_min ?_ | refine go_bm ?_ | refine go_lc ?_)) | ((with_reducible refine' go_qbm ?hp ?_); (case hp => walk_at "lw_hp")) | (with_reducible (first | refine go_int ?_ | refine go_intB ?_ | refine go_yes ?_ | refine go_and ?_ | refine go_notV ?_ | refine go_iL ?_)) | ((with_reducible refine' go_glst ?hp ?ha ?_); (case hp => walk_at "lw_hp"); (case ha => first | rfl | assumption)) | ((with_reducible refine' go_qiL ?hp ?_); (case hp => walk_at "lw_hp")) | (with_reducible (first | refine go_par ?_ | refine go_gpar ?_ | refine go_isN_non ?_ | refine go_isN_int ?_ | refine go_isN_str ?_ | refine go_isN_bl ?_ | refine go_isN_ref ?_ | refine go_neI ?_ | refine go_neS ?_ | refine go_neB ?_ | refine go_iT ?_ | refine go_ne (by rfl) ?_)) | ((with_reducible refine' go_ixAL ?hp ?ha ?_); (case hp => walk_at "lw_hp"); (case ha => first | rfl | assumption)) | ((with_reducible refine' go_ixAT ?hp ?ha ?_); (case hp => walk_at "lw_hp"); (case ha => first | rfl | assumption)) | ((with_reducible refine' go_qiT ?hp ?_); (case hp => walk_at "lw_hp")) | (with_reducible (first | refine go_is_non_int ?_ | refine go_is_non_bool ?_ | refine go_is_non_str ?_ | refine go_is_non_tuple ?_ | refine go_is_non_list ?_ | refine go_is_bl_int ?_ | refine go_is_bl_bool ?_ | refine go_is_bl_str ?_ | refine go_is_bl_tuple ?_ | refine go_is_bl_list ?_ | refine go_is_int_int ?_ | refine go_is_int_bool ?_ | refine go_is_int_str ?_ | refine go_is_int_tuple ?_ | refine go_is_int_list ?_ | refine go_is_str_int ?_ | refine go_is_str_bool ?_ | refine go_is_str_str ?_ | refine go_is_str_tuple ?_ | refine go_is_str_list ?_)) | ((with_reducible refine' go_is_lst_int ?hp ?_); (case hp => walk_at "lw_hp")) | ((with_reducible refine' go_is_lst_bool ?hp ?_); (case hp => walk_at "lw_hp")) | ((with_reducible refine' go_is_lst_str ?hp ?_); (case hp => walk_at "lw_hp")) | ((with_reducible refine' go_is_lst_tuple ?hp ?_); (case hp => walk_at "lw_hp")) | ((with_reducible refine' go_is_lst_list ?hp ?_); (case hp => walk_at "lw_hp")) | ((with_reducible refine' go_is_tup_int ?hp ?_); (case hp => walk_at "lw_hp")) | ((with_reducible refine' go_is_tup_bool ?hp ?_); (case hp => walk_at "lw_hp")) | ((with_reducible refine' go_is_tup_str ?hp ?_); (case hp => walk_at "lw_hp")) | ((with_reducible refine' go_is_tup_tuple ?hp ?_); (case hp => walk_at "lw_hp")) | ((with_reducible refine' go_is_tup_list ?hp ?_); (case hp => walk_at "lw_hp")) | (with_reducible (first | refine go_max ?_ | refine go_bm0 ?_ | refine go_chain ?_ | refine go_qch ?_)) | ((with_reducible refine' go_qbm0 ?hp ?_); (case hp => walk_at "lw_hp")) | (with_reducible (first | refine go_retN ?_ | refine go_orV ?_ | refine go_whQ ?_ | refine go_rng2 ?_ | refine go_qrng2 (by omega) (by omega) (by omega) (by omega) ?_ | refine go_rvr ?_ | refine go_qrvr (by omega) (by omega) ?_ | refine go_fcons ?_ | refine go_fv ?_ | refine go_m0 ?_ | refine go_m1 ?_ | refine go_qm0 ?_ | refine go_qm1 ?_ | refine go_digit ?_ | refine go_ascii ?_ | refine go_starts ?_ | refine go_star ?_ | refine go_rvL ?_ | refine go_dninK ?_ | refine go_rng3 ?_ | refine go_qrng3 (by omega) (by omega) (by omega) (by omega) ?_ | refine go_lr2 ?_ | refine go_enum ?_ | refine go_aug rfl ?_ | refine go_ipI ?_)) | ((with_reducible refine' go_qenum ?hp ?_); (case hp => walk_at "lw_hp")) | ((with_reducible refine' go_sumL ?hp ?_); (case hp => walk_at "lw_hp")))))
abbrev s__law_like : Stmt := top 30
def Like : Nat → Hp → V → V → Prop
  | 0, _, _, _ => False
  | n + 1, H, x, y => (x = y ∧ ((∃ i, x = .int i) ∨ (∃ t, x = .str t) ∨ (∃ b, x = .bl b) ∨ x = .non)) ∨
    ∃ a b xs ys, x = .ref a ∧ y = .ref b ∧ ((H a = some (.tup xs) ∧ H b = some (.tup ys)) ∨ (H a = some (.lst xs) ∧ H b = some (.lst ys))) ∧ xs.length = ys.length ∧ ys.length ≤ 5000 ∧ ∀ (i : Nat) x' y', xs[i]? = some x' → ys[i]? = some y' → Like n H x' y'
def spLike (n : Nat) : Sp := fun vs H Q _ => ∃ x y, vs = [x, y] ∧ Like n H x y ∧ Q (.bl true) H
section
variable {P : Program} {w : World} {K : PySem.W.Frag} {mg : Str → Option Value} {base : Heap} {f : Addr} {fd : FuncData}
theorem scs__law_like : FnScope ["_law_found", "_law_due", "_law_k"] ["_law_found", "_law_due"] (defScope s__law_like) := ⟨rfl, rfl, rfl, by decide +kernel, rfl, by decide +kernel, by decide +kernel⟩
theorem ok_like {n : Nat} (F : Fun K "_law_like" "_law_like" s__law_like f fd) (T : Txt mg) (C_law_like : FnC P w K mg base n "_law_like" ["_law_found", "_law_due"] (spLike n)) : FnOk P w K mg base CX0 (n + 1) f fd ["_law_found", "_law_due"] (spLike (n + 1)) := by
  refine F.ok scs__law_like (fun vs H Q E h => ?_) (fun cdv A outer s H vs Q E hr h => ?_)
  · obtain ⟨x, y, rfl, _⟩ := h
    rfl
  obtain ⟨x, y, rfl, hL, k⟩ := h
  have nd := scs__law_like.nd
  have hu := hu_of hr
  refine ⟨_, (pss_cons (ps_if (pt_val (pe_callB (kIsinst K) (by rfl) T.n_isinstance (by decide +kernel) (pa_cons (pv 1) (pa_cons (pe_bltn (v := .ty "bool") (by rfl) T.n_bool (by decide +kernel) rfl) pa_nil)))) (pss_one (ps_ret (pe_and (pe_callB (kIsinst K) (by rfl) T.n_isinstance (by decide +kernel) (pa_cons (pv 0) (pa_cons (pe_bltn (v := .ty "bool") (by rfl) T.n_bool (by decide +kernel) rfl) pa_nil))) (pe_one (pe_cmpR op_eq (pv 0) (pv 1) (nomark _)))))) pss_nil)
      (pss_cons (ps_if (pt_val (pe_callB (kIsinst K) (by rfl) T.n_isinstance (by decide +kernel) (pa_cons (pv 1) (pa_cons (pe_bltn (v := .ty "str") (by rfl) T.n_str (by decide +kernel) rfl) pa_nil)))) (pss_one (ps_ret (pe_and (pe_callB (kIsinst K) (by rfl) T.n_isinstance (by decide +kernel) (pa_cons (pv 0) (pa_cons (pe_bltn (v := .ty "str") (by rfl) T.n_str (by decide +kernel) rfl) pa_nil))) (pe_one (pe_cmpR op_eq (pv 0) (pv 1) (nomark _)))))) pss_nil)
      (pss_cons (ps_if (pt_val (pe_callB (kIsinst K) (by rfl) T.n_isinstance (by decide +kernel) (pa_cons (pv 1) (pa_cons (pe_bltn (v := .ty "int") (by rfl) T.n_int (by decide +kernel) rfl) pa_nil)))) (pss_one (ps_ret (pe_and (pe_callB (kIsinst K) (by rfl) T.n_isinstance (by decide +kernel) (pa_cons (pv 0) (pa_cons (pe_bltn (v := .ty "int") (by rfl) T.n_int (by decide +kernel) rfl) pa_nil))) (pe_and (pe_not (pe_callB (kIsinst K) (by rfl) T.n_isinstance (by decide +kernel) (pa_cons (pv 0) (pa_cons (pe_bltn (v := .ty "bool") (by rfl) T.n_bool (by decide +kernel) rfl) pa_nil)))) (pe_one (pe_cmpR op_eq (pv 0) (pv 1) (nomark _))))))) pss_nil)
      (pss_cons (ps_if (pt_cmpR o_isN (pv 1) pe_non (nomark _)) (pss_one (ps_ret (pe_cmpR o_isN (pv 0) pe_non (nomark _)))) pss_nil)
      (pss_cons (ps_if (PW.pt (pw_or (pt_cmpR op_ne (pe_callB (kIsinst K) (by rfl) T.n_isinstance (by decide +kernel) (pa_cons (pv 1) (pa_cons (pe_bltn (v := .ty "tuple") (by rfl) T.n_tuple (by decide +kernel) rfl) pa_nil))) (pe_callB (kIsinst K) (by rfl) T.n_isinstance (by decide +kernel) (pa_cons (pv 0) (pa_cons (pe_bltn (v := .ty "tuple") (by rfl) T.n_tuple (by decide +kernel) rfl) pa_nil))) (nomark _)) (pw_or1 (pt_cmpR op_ne (pe_callB (kIsinst K) (by rfl) T.n_isinstance (by decide +kernel) (pa_cons (pv 1) (pa_cons (pe_bltn (v := .ty "list") (by rfl) T.n_list (by decide +kernel) rfl) pa_nil))) (pe_callB (kIsinst K) (by rfl) T.n_isinstance (by decide +kernel) (pa_cons (pv 0) (pa_cons (pe_bltn (v := .ty "list") (by rfl) T.n_list (by decide +kernel) rfl) pa_nil))) (nomark _))))) (pss_one (ps_ret pe_bl)) pss_nil)
      (pss_cons (ps_if (pt_cmpR op_ne (pe_callB (kLen K) (by rfl) T.n_len (by decide +kernel) (pa_cons (pv 0) pa_nil)) (pe_callB (kLen K) (by rfl) T.n_len (by decide +kernel) (pa_cons (pv 1) pa_nil)) (nomark _)) (pss_one (ps_ret pe_bl)) pss_nil)
      (pss_cons (ps_for PassesOwn.never rfl (pi_range1 (by rfl) T.n_range (pa_cons (pe_callB (kLen K) (by rfl) T.n_len (by decide +kernel) (pa_cons (pv 1) pa_nil)) pa_nil)) (pg_name (i := 2) nd rfl (Or.inl rfl)) (pss_one (ps_if (pt_not (pt_val (pe_callC C_law_like (hr.mono (by omega)) (by rfl) (pa_cons (pe_ix (kIx K) (pv 0) (pv 2) (fun _ _ => rfl)) (pa_cons (pe_ix (kIx K) (pv 1) (pv 2) (fun _ _ => rfl)) pa_nil))))) (pss_one (ps_ret pe_bl)) pss_nil)))
      (pss_one (ps_ret pe_bl))))))))), ?_⟩
  unfold Like at hL
  rcases hL with ⟨rfl, ⟨i, rfl⟩ | ⟨t, rfl⟩ | ⟨b, rfl⟩ | rfl⟩ | ⟨a, b, xs, ys, rfl, rfl, ht, hl, hm, hi⟩
  · with_reducible refine go_seq (go_ifS (go_testB (go_cb (go_cons ?_))))
    with_reducible refine go_var rfl (go_cons (go_c (go_nil (go_is_int_bool ?_))))
    with_reducible refine go_qb (go_iteF (go_next (go_seq (go_ifS ?_))))
    with_reducible refine go_testB (go_cb (go_cons (go_var rfl (go_cons ?_))))
    with_reducible refine go_c (go_nil (go_is_int_str (go_qb (go_iteF ?_))))
    with_reducible refine go_next (go_seq (go_ifS (go_testB (go_cb ?_))))
    with_reducible refine go_cons (go_var rfl (go_cons (go_c (go_nil ?_))))
    with_reducible refine go_is_int_int (go_qb (go_iteT (go_ret (go_andV ?_))))
    with_reducible refine go_cb (go_cons (go_var rfl (go_cons (go_c ?_))))
    with_reducible refine go_nil (go_is_int_int (go_qb (go_iteT (go_andV ?_))))
    with_reducible refine go_notV (go_cb (go_cons (go_var rfl (go_cons ?_))))
    with_reducible refine go_c (go_nil (go_is_int_bool (go_qb (go_qb ?_))))
    with_reducible refine go_iteNf (go_op (go_var rfl (go_var rfl (go_eqI ?_))))
    rw [decide_eq_true rfl]; exact k
  · walk_at "lw_go"
    rw [decide_eq_true rfl]; exact k
  · walk_at "lw_go"
    rw [decide_eq_true rfl]; exact k
  · walk_at "lw_go"
    exact k
  · rcases ht with ⟨h1, h2⟩ | ⟨h1, h2⟩
    all_goals
      walk_at "lw_go"
      refine fq_range (fun i σ H' => ∃ v, σ = [some (.ref a), some (.ref b), v] ∧ H' = H) ⟨none, rfl, rfl⟩ ?_ ?_
      · rintro i σ H' hlt ⟨v, rfl, rfl⟩
        obtain ⟨x', hx⟩ : ∃ v, xs[i]? = some v := ⟨_, List.getElem?_eq_getElem (by omega)⟩
        obtain ⟨y', hy⟩ : ∃ v, ys[i]? = some v := ⟨_, List.getElem?_eq_getElem (by omega)⟩
        have e1 := atI_0n hx
        have e2 := atI_0n hy
        walk_at "lw_go"
        refine ⟨x', y', rfl, hi i x' y' hx hy, ?_⟩
        walk_at "lw_go"
        exact ⟨_, rfl, rfl⟩
      · rintro σ H' ⟨v, rfl, rfl⟩
        walk_at "lw_go"
        exact k
theorem no_like : FnOk P w K mg base CX0 0 f fd ["_law_found", "_law_due"] (spLike 0) :=
  ⟨fun vs H Q E h => by obtain ⟨x, y, rfl, h, _⟩ := h; exact h.elim, fun A outer s H args us vs Q E _ _ _ _ h => by obtain ⟨x, y, rfl, h, _⟩ := h; exact h.elim⟩
theorem c_like (F : Fun K "_law_like" "_law_like" s__law_like f fd) (b : Binds K fd ["_law_found", "_law_due"] []) (m : mg "_law_like" = some (.ref f)) (T : Txt mg) : ∀ n : Nat, FnC P w K mg base n "_law_like" ["_law_found", "_law_due"] (spLike n)
  | 0 => ⟨f, fd, no_like, m, F.kp, b⟩
  | n + 1 => ⟨f, fd, ok_like F T (c_like F b m T n), m, F.kp, b⟩
end
end Lw
set_option Elab.async false
set_option linter.all false
set_option maxRecDepth 100000
set_option maxHeartbeats 8000000
namespace Lw
open PySem L2
local macro_rules | `(tactic| walk_at "lw_hp") => `(tactic| (repeat (first | assumption | exact upd_same | (refine' upd_new (by assumption) ?_) | (refine' tup_off (by assumption) (by assumption) ?_) | (refine' lst_off (by assumption) (by assumption) (by assumption) ?_) | (refine' Same.get (by assumption) ?_) | (refine' Off.get (by assumption) (by assumption) ?_) | (refine' upd_oth (by assumption) ?_))))
abbrev s__law_is_refused : Stmt := top 33
def Raises (P : Program) (w : World) (K : PySem.W.Frag) (mg : Str → Option Value) (base : Heap) (ks : Ks) (W : Addr) (H : Hp) (r : List V) (f : Addr) : Prop := ∃ fd, H f = some (LamO f fd) ∧ ∀ H1, Same H H1 → ∀ (Q : VK) (E : XK),
  (∀ (C : Addr) (i : Nat) (d : Option Addr) (H' : Hp), Same H1 H' → XK1 K ks W C i → ToldIs K C i d H' r → E (.ref C) d H') → CallZ P w K mg base (CXE P w) 7 f H1 Q E
def Scal (x : V) : Prop := (∃ i, x = .int i) ∨ (∃ t, x = .str t) ∨ (∃ b, x = .bl b) ∨ x = .non
def spRef (P : Program) (w : World) (K : PySem.W.Frag) (mg : Str → Option Value) (base : Heap) (ks : Ks) (W : Addr) : Sp := fun vs H Q _ => ∃ (a t : Addr) (fs : List Addr) (due : List V), vs = [.ref a, .ref t] ∧ H a = some (.lst (fs.map V.ref)) ∧ fs.length ≤ 2 ∧ H t = some (.tup due) ∧ due ≠ [] ∧ due.length ≤ 3 ∧ (∀ x ∈ due, Scal x) ∧
  (∀ f ∈ fs, Raises P w K mg base ks W H (.str "refused" :: due) f) ∧ ∀ H', Same H H' → Q (.bl true) H'
theorem like_tup {H : Hp} {a b : Addr} {xs : List V} (h1 : H a = some (.tup xs)) (h2 : H b = some (.tup xs)) (l : xs.length ≤ 5000) (s : ∀ x ∈ xs, Scal x) : Like 2 H (.ref a) (.ref b) :=
  .inr ⟨a, b, xs, xs, rfl, rfl, .inl ⟨h1, h2⟩, rfl, l, fun i x y e1 e2 => by
    rw [e1] at e2
    cases e2
    exact .inl ⟨rfl, s x (List.mem_of_getElem? e1)⟩⟩
section
variable {P : Program} {w : World} {K : PySem.W.Frag} {mg : Str → Option Value} {base : Heap} {f : Addr} {fd : FuncData} {W : Addr} {ks : Ks}
theorem scs__law_is_refused : FnScope ["_law_works", "_law_due", "_law_work"] ["_law_works", "_law_due"] (defScope s__law_is_refused) := ⟨rfl, rfl, rfl, by decide +kernel, rfl, by decide +kernel, by decide +kernel⟩
theorem ok_ref (F : Fun K "_law_is_refused" "_law_is_refused" s__law_is_refused f fd) (T : Txt mg) (C_law_told_by : FnC P w K mg base 8 "_law_told_by" ["_law_work"] (spTold P w K mg base ks W)) (C_law_like : FnC P w K mg base 2 "_law_like" ["_law_found", "_law_due"] (spLike 2)) : FnOk P w K mg base CX0 9 f fd ["_law_works", "_law_due"] (spRef P w K mg base ks W) := by
  refine F.ok scs__law_is_refused (fun vs H Q E h => ?_) (fun cdv A outer s H vs Q E hr h => ?_)
  · obtain ⟨a, t, fs, due, rfl, _⟩ := h
    rfl
  obtain ⟨a, t, fs, due, rfl, ha, hfs, ht, dn, dl, ds, hf, k⟩ := h
  have nd := scs__law_is_refused.nd
  have hu := hu_of hr
  refine ⟨_, (pss_one (ps_ret (pe_cmpR (kEqD K hr.units) (pe_lc rfl nd (kPiL K (pv 0)) (blkOk_by (own := [("_law_work", 2)]) (by show blkC ["_law_works", "_law_due", "_law_work"] (defScope s__law_is_refused) _ _ = true; decide +kernel)) (fun _ _ _ _ _ => (pg_name (i := 2) nd rfl (Or.inl rfl))) (fun _ _ _ _ _ => (pts_one (pt_not (pt_val (pe_callC C_law_like (hr.mono (by omega)) (by rfl) (pa_cons (pe_callC C_law_told_by (hr.mono (by omega)) (by rfl) (pa_cons (pv 2) pa_nil)) (pa_cons (pe_op (kCatT K) (pe_tup (pa_cons pe_str pa_nil)) (pv 1)) pa_nil))))))) (fun _ _ _ _ _ => (pv 2))) (pe_lst pa_nil) (nomark _)))), ?_⟩
  with_reducible refine go_ret (go_op (go_lc (go_iL (go_var rfl ?_))))
  (with_reducible refine' go_qiL ?hp ?_); (case hp => walk_at "lw_hp")
  refine lq_list (fs.map V.ref) (fun L hL => ?_)
  refine ⟨fun j H2 => Same H H2 ∧ H2 L = some (.lst []), ⟨same_new hL _, upd_same⟩, ?_, ?_, ?_⟩
  · rintro j H2 _ ⟨s2, _⟩
    exact SqL.of (s2 _ _ ha)
  · rintro j x H2 hx ⟨s2, e2⟩
    obtain ⟨g, hg, rfl⟩ : ∃ g, g ∈ fs ∧ V.ref g = x := List.mem_map.mp (List.mem_of_getElem? hx)
    obtain ⟨gd, hgd, hz⟩ := hf g hg
    refine go_gname ⟨rfl, ?_⟩
    with_reducible refine go_not (go_testB (go_callC (go_cons (go_callC ?_))))
    with_reducible refine go_cons (go_var rfl (go_nil ?_))
    refine ⟨g, gd, rfl, s2 _ _ hgd, hz H2 s2 _ _ (fun C i d H' s' x told => ⟨C, i, _, rfl, x, told, fun t1 H3 s3 e3 => ?_⟩)⟩
    have s4 := (s2.trans s').trans s3
    have ht3 := s4 _ _ ht
    have eL3 := s3 _ _ (s' _ _ e2)
    with_reducible refine go_cons (go_op (go_tup (go_cons (go_c ?_))))
    with_reducible refine go_nil ?_
    refine go_qtup (Nat.le_of_ble_eq_true rfl) (fun t2 ht2 => ?_)
    with_reducible refine go_var rfl ?_
    refine go_catT (xs := [V.str "refused"]) (ys := due) upd_same (upd_new ht2 ht3) (by intro z; cases z) dn (small_le (by show 1 + _ ≤ _; omega)) (fun t4 ht4 => ?_)
    with_reducible refine go_nil ?_
    refine ⟨_, _, rfl, like_tup (xs := .str "refused" :: due) (upd_new ht4 (upd_new ht2 e3)) upd_same (by show due.length + 1 ≤ _; omega) (fun x hx => ?_), ?_⟩
    · rcases List.mem_cons.mp hx with rfl | hx
      · exact .inr (.inl ⟨_, rfl⟩)
      · exact ds x hx
    with_reducible refine go_qb (go_iteNt ?_)
    exact ⟨(s4.trans (same_new ht2 _)).trans (same_new ht4 _), upd_new ht4 (upd_new ht2 eL3)⟩
  · rintro H2 ⟨s2, e2⟩
    with_reducible refine go_lst (go_nil ?_)
    refine go_qlst (Nat.le_of_ble_eq_true rfl) (fun z hz => ?_)
    skip
    refine ⟨.list [], .list [], .lst (SqL.of (upd_new hz e2)) .nil, .lst (SqL.of upd_same) .nil, rfl, rfl, ?_⟩
    rw [show PyData.eqv (.list []) (.list []) = true by simp [PyData.eqv, PyData.eqvAll]]
    exact k _ (s2.trans (same_new hz _))
end
end Lw
set_option Elab.async false
set_option linter.all false
set_option maxRecDepth 100000
set_option maxHeartbeats 4000000
namespace Lw
open PySem L2
local macro_rules | `(tactic| walk_at "lw_hp") => `(tactic| (repeat (first | assumption | exact upd_same | (refine' upd_new (by assumption) ?_) | (refine' tup_off (by assumption) (by assumption) ?_) | (refine' lst_off (by assumption) (by assumption) (by assumption) ?_) | (refine' Same.get (by assumption) ?_) | (refine' Off.get (by assumption) (by assumption) ?_) | (refine' upd_oth (by assumption) ?_))))
abbrev s_done_again : Stmt := top 23
theorem cut_ints (W : List Int) {a b : Int} (h0 : 0 ≤ a) (h1 : 0 ≤ b) (h2 : b ≤ W.length) : cutV (W.map V.int) (some a) (some b) = ((W.drop a.toNat).take (b.toNat - a.toNat)).map V.int := by
  unfold cutV
  rw [List.length_map]
  have e1 : HT.sIx W.length 0 (some a) = min a.toNat W.length := by
    show (if a < 0 then _ else _) = _
    rw [if_neg (by omega)]
  have e2 : HT.sIx W.length W.length (some b) = b.toNat := by
    show (if b < 0 then _ else min b.toNat W.length) = _
    rw [if_neg (by omega)]
    omega
  rw [e1, e2, List.map_take, List.map_drop]
  by_cases c : a.toNat ≤ W.length
  · rw [Nat.min_eq_left c]
  · rw [Nat.min_eq_right (by omega), List.drop_eq_nil_of_le (by simp), List.drop_eq_nil_of_le (by simp; omega), List.take_nil, List.take_nil]
def spAgain : Sp := fun vs H Q _ => ∃ (w f : Addr) (W F : List Int) (s e : Int), vs = [.ref w, .ref f, .int s, .int e] ∧ H w = some (.lst (W.map V.int)) ∧ H f = some (.lst (F.map V.int)) ∧ F.length ≤ 1000 ∧ 0 ≤ s ∧ (∀ x ∈ F, 0 ≤ x ∧ x ≤ W.length) ∧
  ∀ H', Same H H' → Q (.int (againM W F s e)) H'
theorem again_snoc (W F : List Int) (s e : Int) {i : Nat} {n : Int} (h : F[i]? = some n) (l : List Int) (hl : l = ((F.take i).filter fun f => decide (s ≤ f) && decide (f < e)).map (fun f => seg W s f)) :
    ((F.take (i + 1)).filter fun f => decide (s ≤ f) && decide (f < e)).map (fun f => seg W s f) = if (decide (s ≤ n) && decide (n < e)) = true then l ++ [seg W s n] else l := by
  rw [take_snoc h, List.filter_append, List.map_append, List.filter_cons, List.filter_nil]
  by_cases c : (decide (s ≤ n) && decide (n < e)) = true
  · rw [if_pos c, if_pos c, hl]; rfl
  · rw [if_neg c, if_neg c, hl, List.map_nil, List.append_nil]
section
variable {P : Program} {w : World} {K : PySem.W.Frag} {mg : Str → Option Value} {base : Heap} {f : Addr} {fd : FuncData}
theorem scs_done_again : FnScope ["weights", "falls", "start", "stop", "fall"] ["weights", "falls", "start", "stop"] (defScope s_done_again) := ⟨rfl, rfl, rfl, by decide +kernel, rfl, by decide +kernel, by decide +kernel⟩
theorem ok_again (F : Fun K "done_again" "done_again" s_done_again f fd) (T : Txt mg) : FnOk P w K mg base CX0 1 f fd ["weights", "falls", "start", "stop"] spAgain := by
  refine F.ok scs_done_again (fun vs H Q E h => ?_) (fun cdv A outer s H vs Q E hr h => ?_)
  · obtain ⟨a, b, W, F, s, e, rfl, _⟩ := h
    rfl
  obtain ⟨a, b, W, F, s, e, rfl, hw, hf, hl, hs, hb, k⟩ := h
  have nd := scs_done_again.nd
  have hu := hu_of hr
  refine ⟨_, (pss_one (ps_ret (pe_callB (kSum K rfl) (by rfl) T.n_sum (by decide +kernel) (pa_cons (pe_lc rfl nd (kPiL K (pv 1)) (blkOk_by (own := [("fall", 4)]) (by show blkC ["weights", "falls", "start", "stop", "fall"] (defScope s_done_again) _ _ = true; decide +kernel)) (fun _ _ _ _ _ => (pg_name (i := 4) nd rfl (Or.inl rfl))) (fun _ _ _ _ _ => (pts_one (pt_chain op_le op_lt (pv 2) (pv 4) (pv 3)))) (fun _ _ _ _ _ => (pe_callB (kSum K rfl) (by rfl) T.n_sum (by decide +kernel) (pa_cons (pe_slice (kSlL K) (pv 0) (po_some (pv 2)) (po_some (pv 4))) pa_nil)))) pa_nil)))), ?_⟩
  with_reducible refine go_ret (go_cb (go_cons (go_lc (go_iL ?_))))
  with_reducible refine go_var rfl ?_
  (with_reducible refine' go_qiL ?hp ?_); (case hp => walk_at "lw_hp")
  refine lq_list (F.map V.int) (fun D hD => ?_)
  refine ⟨fun i H' => Same H H' ∧ H' D = some (.lst ((((F.take i).filter fun f => decide (s ≤ f) && decide (f < e)).map (fun f => seg W s f)).map V.int)), ⟨same_new hD _, upd_same⟩, ?_, ?_, ?_⟩
  · rintro i H' _ ⟨sm, _⟩
    exact SqL.of (sm _ _ hf)
  · rintro i x H' hx ⟨sm, hd⟩
    obtain ⟨n, rfl, hn⟩ := int_of hx
    have hbn := hb n (mem_of hn)
    have nxt := again_snoc W F s e hn _ rfl
    have len : (((F.take i).filter fun f => decide (s ≤ f) && decide (f < e)).map (fun f => seg W s f)).length ≤ 1000 := by
      rw [List.length_map]
      refine Nat.le_trans (List.length_filter_le _ _) ?_
      rw [List.length_take]
      omega
    generalize ((F.take i).filter fun f => decide (s ≤ f) && decide (f < e)).map (fun f => seg W s f) = l at hd len nxt
    refine go_gname ⟨rfl, ?_⟩
    with_reducible refine go_test (go_chain (go_var rfl (go_var rfl (go_i0 ?_))))
    with_reducible refine go_qch ?_
    refine go_iteD (fun c => ?_) (fun c => ?_)
    · with_reducible refine go_var rfl (go_i0 (go_qb ?_))
      refine go_iteD (fun c' => ?_) (fun c' => ?_)
      · with_reducible refine go_cb (go_cons (go_sl (go_var rfl (go_part ?_))))
        with_reducible refine go_var rfl (go_qI (go_part (go_var rfl (go_qI ?_))))
        refine go_slL (sm _ _ hw) (fun z hz => ?_)
        rw [cut_ints W hs hbn.1 hbn.2]
        with_reducible refine go_nil ?_
        (with_reducible refine' go_sumL ?hp ?_); (case hp => walk_at "lw_hp")
        have nz : D ≠ z := ne_of_none hd hz
        refine go_lcA (upd_new hz hd) (small_line (by rw [List.length_map]; omega)) ?_
        refine ⟨same_upd hD (sm.trans (same_new hz _)), ?_⟩
        rw [nxt, if_pos (by simp [c, c']), upd_same, List.map_append]
        rfl
      · skip
        refine ⟨sm, ?_⟩
        rw [nxt, if_neg (by simp [c, c'])]
        exact hd
    · with_reducible refine go_qb (go_iteF ?_)
      refine ⟨sm, ?_⟩
      rw [nxt, if_neg (by simp [c])]
      exact hd
  · rintro H' ⟨sm, hd⟩
    rw [show (F.map V.int).length = F.length from List.length_map _, List.take_length] at hd
    with_reducible refine go_nil ?_
    (with_reducible refine' go_sumL ?hp ?_); (case hp => walk_at "lw_hp")
    exact k _ sm
end
end Lw
set_option Elab.async false
set_option linter.all false
set_option maxRecDepth 100000
set_option maxHeartbeats 4000000
namespace Lw
open PySem L2
local macro_rules | `(tactic| walk_at "lw_hp") => `(tactic| (repeat (first | assumption | exact upd_same | (refine' upd_new (by assumption) ?_) | (refine' tup_off (by assumption) (by assumption) ?_) | (refine' lst_off (by assumption) (by assumption) (by assumption) ?_) | (refine' Same.get (by assumption) ?_) | (refine' Off.get (by assumption) (by assumption) ?_) | (refine' upd_oth (by assumption) ?_))))
abbrev s_best_behind : Stmt := top 25
theorem lx_eq : ∀ a b : List Int, HT.lexLt a b = lxLt a b
  | [], [] => rfl
  | [], _ :: _ => rfl
  | _ :: _, [] => rfl
  | x :: xs, y :: ys => by rw [HT.lexLt_cons, lxLt, lx_eq xs ys]
theorem pr_eq (a b : Int × List Int) : pLt a b = prLt a b := by
  unfold pLt prLt
  rw [lx_eq]
def PrN (H H' : Hp) (y : Int × List Int) (q : Addr) : Prop := ∃ l, H' q = some (.tup [.int y.1, .ref l]) ∧ H' l = some (.lst (y.2.map V.int)) ∧ H l = none
def spBeh : Sp := fun vs H Q _ => ∃ (s p : Int) (w f d : Addr) (W F : List Int) (kvs : List (Key × V)) (B : Nat → Int × List Int), vs = [.int s, .ref w, .ref f, .int p, .ref d] ∧ H w = some (.lst (W.map V.int)) ∧ H f = some (.lst (F.map V.int)) ∧ H d = some (.dK kvs) ∧
  F.length ≤ 1000 ∧ W.length ≤ 1000 ∧ 0 ≤ s ∧ s ≤ 1000 ∧ (∀ x ∈ F, 0 ≤ x ∧ x ≤ W.length) ∧ (∀ j : Nat, (s + 1 + j : Int) < W.length → (B j).2.length ≤ 1000 ∧ ∃ t, valV kvs (.inl (s + 1 + j)) = some (.ref t) ∧ PrAt H (B j) t) ∧
  ∀ (r : Addr) (H' : Hp) (x : Int × List Int), Same H H' → PrN H H' x r → x ∈ chs W F p s B (W.length - (s + 1)).toNat → (∀ y ∈ chs W F p s B (W.length - (s + 1)).toNat, prLt y x = false) → Q (.ref r) H'
section
variable {P : Program} {w : World} {K : PySem.W.Frag} {mg : Str → Option Value} {base : Heap} {f : Addr} {fd : FuncData}
theorem scs_best_behind : FnScope ["start", "weights", "falls", "price", "behind", "steps", "choices", "mark", "least", "marks"] ["start", "weights", "falls", "price", "behind"] (defScope s_best_behind) := ⟨rfl, rfl, rfl, by decide +kernel, rfl, by decide +kernel, by decide +kernel⟩
theorem ok_beh (F : Fun K "best_behind" "best_behind" s_best_behind f fd) (T : Txt mg) (C_done_again : FnC P w K mg base 1 "done_again" ["weights", "falls", "start", "stop"] spAgain) : FnOk P w K mg base CX0 2 f fd ["start", "weights", "falls", "price", "behind"] spBeh := by
  refine F.ok scs_best_behind (fun vs H Q E h => ?_) (fun cdv A outer s H vs Q E hr h => ?_)
  · obtain ⟨s, p, a, b, d, W, F, kvs, B, rfl, _⟩ := h
    rfl
  obtain ⟨s, p, a, b, d, W, F, kvs, B, rfl, hw, hf, hd, hlF, hlW, hs0, hs1, hb, hB, k⟩ := h
  have nd := scs_best_behind.nd
  have hu := hu_of hr
  refine ⟨_, (pss_cons (ps_set (i := 5) nd rfl (Or.inl rfl) (pe_callB (kLen K) (by rfl) T.n_len (by decide +kernel) (pa_cons (pv 1) pa_nil)))
      (pss_cons (ps_set (i := 6) nd rfl (Or.inl rfl) (pe_lst (pa_cons (pe_tup (pa_cons (pe_callC C_done_again (hr.mono (by omega)) (by rfl) (pa_cons (pv 1) (pa_cons (pv 2) (pa_cons (pv 0) (pa_cons (pe_op op_add (pv 5) pe_int) pa_nil))))) (pa_cons (pe_lst pa_nil) pa_nil))) pa_nil)))
      (pss_cons (ps_for PassesOwn.never rfl (pi_range2 (by rfl) T.n_range (pa_cons (pe_op op_add (pv 0) pe_int) (pa_cons (pv 5) pa_nil))) (pg_name (i := 7) nd rfl (Or.inl rfl)) (pss_cons (ps_asg (pe_dget hu (pv 4) (pv 7) (fun _ _ => rfl)) (kPgT K (by rfl) (pgs_cons (pg_name (i := 8) nd rfl (Or.inl rfl)) (pgs_cons (pg_name (i := 9) nd rfl (Or.inl rfl)) pgs_nil))))
      (pss_one (ps_expr (pe_bm PySem.F.plainAttrs_list PySem.F.slot_list_append PySem.F.type_list_append mt_append (pv 6) (pa_cons (pe_tup (pa_cons (pe_op op_add (pe_op op_add (pe_callC C_done_again (hr.mono (by omega)) (by rfl) (pa_cons (pv 1) (pa_cons (pv 2) (pa_cons (pv 0) (pa_cons (pv 7) pa_nil))))) (pv 3)) (pv 8)) (pa_cons (pe_op op_cat (pe_lst (pa_cons (pv 7) pa_nil)) (pv 9)) pa_nil))) pa_nil))))))
      (pss_one (ps_ret (pe_callB (kMinP K rfl hr.units) (by rfl) T.n_min (by decide +kernel) (pa_cons (pv 6) pa_nil))))))), ?_⟩
  with_reducible refine go_seq (go_asg (go_cb (go_cons (go_var rfl ?_))))
  with_reducible refine go_nil ?_
  (with_reducible refine' go_lenL ?hp ?_); (case hp => walk_at "lw_hp")
  with_reducible refine go_gname (go_seq (go_asg (go_lst (go_cons ?_))))
  with_reducible refine go_tup (go_cons (go_callC (go_cons (go_var rfl ?_))))
  with_reducible refine go_cons (go_var rfl (go_cons (go_var rfl (go_cons ?_))))
  with_reducible refine go_op (go_var rfl (go_c (go_i0 (go_nil ?_))))
  simp only [List.length_map]
  refine ⟨a, b, W, F, s, _, rfl, hw, hf, hlF, hs0, hb, fun H1 s1 => ?_⟩
  with_reducible refine go_cons (go_lst (go_nil ?_))
  refine go_qlst (Nat.le_of_ble_eq_true rfl) (fun l0 hl0 => ?_)
  with_reducible refine go_nil ?_
  refine go_qtup (Nat.le_of_ble_eq_true rfl) (fun q0 hq0 => ?_)
  with_reducible refine go_nil ?_
  refine go_qlst (Nat.le_of_ble_eq_true rfl) (fun c hc => ?_)
  have t0 : upd (upd (upd H1 l0 (.lst [])) q0 (.tup [.int (againM W F s (W.length + 1)), .ref l0])) c (.lst [.ref q0]) q0 = some (.tup [.int (againM W F s (W.length + 1)), .ref l0]) := upd_new hc upd_same
  have u0 : upd (upd (upd H1 l0 (.lst [])) q0 (.tup [.int (againM W F s (W.length + 1)), .ref l0])) c (.lst [.ref q0]) l0 = some (.lst []) := upd_new hc (upd_new hq0 upd_same)
  have n0 : l0 ≠ c := ne_of_none (upd_new hq0 upd_same) hc
  have f0 : H l0 = none := s1.free hl0
  have fq : H q0 = none := (s1.trans (same_new hl0 _)).free hq0
  have fc : H c = none := ((s1.trans (same_new hl0 _)).trans (same_new hq0 _)).free hc
  have s2 : Same H (upd (upd (upd H1 l0 (.lst [])) q0 (.tup [.int (againM W F s (W.length + 1)), .ref l0])) c (.lst [.ref q0])) := ((s1.trans (same_new hl0 _)).trans (same_new hq0 _)).trans (same_new hc _)
  have hc2 : upd (upd (upd H1 l0 (.lst [])) q0 (.tup [.int (againM W F s (W.length + 1)), .ref l0])) c (.lst [.ref q0]) c = some (.lst [.ref q0]) := upd_same
  generalize upd (upd (upd H1 l0 (.lst [])) q0 (.tup [.int (againM W F s (W.length + 1)), .ref l0])) c (.lst [.ref q0]) = H2 at *
  with_reducible refine go_gname (go_seq (go_for (go_rng2 (go_cons ?_))))
  with_reducible refine go_op (go_var rfl (go_c (go_i0 (go_cons ?_))))
  with_reducible refine go_var rfl (go_nil (go_qrng2 (by omega) (by omega) (by omega) (by omega) ?_))
  refine fq_range (fun i σ H' => ∃ (ps : List Addr) (v1 v2 v3 : Option V), σ = [some (.int s), some (.ref a), some (.ref b), some (.int p), some (.ref d), some (.int W.length), some (.ref c), v1, v2, v3] ∧ Same H H' ∧ H' c = some (.lst (ps.map V.ref)) ∧ ps.length = i + 1 ∧
    ∀ (j : Nat) q y, ps[j]? = some q → (chs W F p s B i)[j]? = some y → ∃ l, H' q = some (.tup [.int y.1, .ref l]) ∧ H' l = some (.lst (y.2.map V.int)) ∧ H l = none ∧ l ≠ c) ?_ ?_ ?_
  · refine ⟨[q0], none, none, none, rfl, s2, hc2, rfl, fun j q y e1 e2 => ?_⟩
    cases j with
    | zero =>
      cases e1
      cases e2
      exact ⟨l0, t0, u0, f0, n0⟩
    | succ j => cases e1
  · rintro i σ H' hi ⟨ps, v1, v2, v3, rfl, sm, hc', hl', hp'⟩
    obtain ⟨hBl, t, hv, lt, hBt, hBu⟩ := hB i (by omega)
    with_reducible refine go_gname (go_seq (go_asg (go_dget (go_var rfl ?_))))
    with_reducible refine go_var rfl ?_
    refine go_qdgI (sm _ _ hd) hv ?_
    (with_reducible refine' go_gtup ?hp ?ha ?_); (case hp => walk_at "lw_hp"); (case ha => first | rfl | assumption)
    with_reducible refine go_gcons (go_gname (go_gcons (go_gname (go_gnil ?_))))
    with_reducible refine go_drop (go_bm (go_var rfl ?_))
    (with_reducible refine' go_qbm ?hp ?_); (case hp => walk_at "lw_hp")
    with_reducible refine go_cons (go_tup (go_cons (go_op (go_op ?_))))
    with_reducible refine go_callC (go_cons (go_var rfl (go_cons (go_var rfl ?_))))
    with_reducible refine go_cons (go_var rfl (go_cons (go_var rfl (go_nil ?_))))
    refine ⟨a, b, W, F, s, _, rfl, sm _ _ hw, sm _ _ hf, hlF, hs0, hb, fun H3 s3 => ?_⟩
    with_reducible refine go_var rfl (go_i0 (go_var rfl (go_i0 (go_cons ?_))))
    with_reducible refine go_op (go_lst (go_cons (go_var rfl (go_nil ?_))))
    refine go_qlst (Nat.le_of_ble_eq_true rfl) (fun l1 hl1 => ?_)
    have hlt3 : H3 lt = some (.lst ((B i).2.map V.int)) := s3 _ _ (sm _ _ hBu)
    with_reducible refine go_var rfl ?_
    refine go_cat (xs := [V.int (s + 1 + i)]) upd_same (upd_new hl1 hlt3) (small_le (by simp; omega)) (fun l2 hl2 => ?_)
    with_reducible refine go_nil ?_
    refine go_qtup (Nat.le_of_ble_eq_true rfl) (fun q1 hq1 => ?_)
    have s4 : Same H3 (upd (upd (upd H3 l1 (.lst [.int (s + 1 + i)])) l2 (.lst ([V.int (s + 1 + i)] ++ (B i).2.map V.int))) q1 (.tup [.int (againM W F s (s + 1 + i) + p + (B i).1), .ref l2])) := ((same_new hl1 _).trans (same_new hl2 _)).trans (same_new hq1 _)
    have t1 : upd (upd (upd H3 l1 (.lst [.int (s + 1 + i)])) l2 (.lst ([V.int (s + 1 + i)] ++ (B i).2.map V.int))) q1 (.tup [.int (againM W F s (s + 1 + i) + p + (B i).1), .ref l2]) q1 = some (.tup [.int (againM W F s (s + 1 + i) + p + (B i).1), .ref l2]) := upd_same
    have u1 : upd (upd (upd H3 l1 (.lst [.int (s + 1 + i)])) l2 (.lst ([V.int (s + 1 + i)] ++ (B i).2.map V.int))) q1 (.tup [.int (againM W F s (s + 1 + i) + p + (B i).1), .ref l2]) l2 = some (.lst ([V.int (s + 1 + i)] ++ (B i).2.map V.int)) := upd_new hq1 upd_same
    have f2 : H l2 = none := ((sm.trans s3).trans (same_new hl1 _)).free hl2
    have n2 : l2 ≠ c := (ne_of_none ((s3.trans (same_new hl1 _)) _ _ hc') hl2).symm
    have hc4 := s4 _ _ (s3 _ _ hc')
    have sm4 := (sm.trans s3).trans s4
    have s34 := s3.trans s4
    generalize upd (upd (upd H3 l1 (.lst [.int (s + 1 + i)])) l2 (.lst ([V.int (s + 1 + i)] ++ (B i).2.map V.int))) q1 (.tup [.int (againM W F s (s + 1 + i) + p + (B i).1), .ref l2]) = H4 at *
    have nq : q1 ≠ c := ne_of t1 hc4 (by intro z; cases z)
    with_reducible refine go_nil ?_
    refine go_append hc4 (small_line (by simp; omega)) ?_
    refine ⟨ps ++ [q1], _, _, _, rfl, same_upd fc sm4, by rw [upd_same, List.map_append]; rfl, by simp; omega, fun j q y e1 e2 => ?_⟩
    have hcl := chs_length W F p s B i
    rw [chs] at e2
    by_cases cj : j < i + 1
    · rw [List.getElem?_append_left (by omega)] at e1 e2
      obtain ⟨l, r1, r2, r3, r4⟩ := hp' j q y e1 e2
      exact ⟨l, upd_oth (ne_of (s34 _ _ r1) hc4 (by intro z; cases z)) (s34 _ _ r1), upd_oth r4 (s34 _ _ r2), r3, r4⟩
    · rw [List.getElem?_append_right (by omega)] at e1 e2
      have ej : j = i + 1 := by
        have := (List.getElem?_eq_some_iff.mp e1).1
        simp at this
        omega
      subst ej
      rw [hl', Nat.sub_self] at e1
      rw [hcl, Nat.sub_self] at e2
      cases e1
      cases e2
      exact ⟨l2, upd_oth nq t1, upd_oth n2 u1, f2, n2⟩
  · rintro σ H' ⟨ps, v1, v2, v3, rfl, sm, hc', hl', hp'⟩
    with_reducible refine go_ret (go_cb (go_cons (go_var rfl (go_nil ?_))))
    refine ⟨c, ps, chs W F p s B (W.length - (s + 1)).toNat, rfl, SqL.of hc', by rw [hl', chs_length], by omega, fun j q y e1 e2 => ?_, fun j q y e1 e2 low => ?_⟩
    · obtain ⟨l, r1, r2, _⟩ := hp' j q y e1 e2
      exact ⟨l, r1, r2⟩
    · obtain ⟨l, r1, r2, r3, _⟩ := hp' j q y e1 e2
      exact k q H' y sm ⟨l, r1, r2, r3⟩ (List.mem_of_getElem? e2) fun y' hy' => by rw [← pr_eq]; exact low y' hy'
end
end Lw
set_option Elab.async false
set_option linter.all false
set_option maxRecDepth 100000
set_option maxHeartbeats 4000000
namespace Lw
open PySem L2
local macro_rules | `(tactic| walk_at "lw_hp") => `(tactic| (repeat (first | assumption | exact upd_same | (refine' upd_new (by assumption) ?_) | (refine' tup_off (by assumption) (by assumption) ?_) | (refine' lst_off (by assumption) (by assumption) (by assumption) ?_) | (refine' Same.get (by assumption) ?_) | (refine' Off.get (by assumption) (by assumption) ?_) | (refine' upd_oth (by assumption) ?_))))
abbrev s_best : Stmt := top 26
theorem Adm.len : ∀ {ms : List Int} {s n : Int}, Adm s n ms → (ms.length : Int) ≤ max 0 (n - 1 - s)
  | [], s, n, _ => by simp; omega
  | m :: r, s, n, h => by
    obtain ⟨ha, h1, h2⟩ := h.tail
    have := ha.len
    rw [List.length_cons]
    omega
def spBest : Sp := fun vs H Q _ => ∃ (w f : Addr) (W F : List Int) (p : Int), vs = [.ref w, .ref f, .int p] ∧ H w = some (.lst (W.map V.int)) ∧ H f = some (.lst (F.map V.int)) ∧ W.length ≤ 60 ∧ (∀ x ∈ W, 1 ≤ x ∧ x ≤ 99) ∧
  F.length ≤ 20 ∧ (∀ x ∈ F, 0 ≤ x ∧ x ≤ W.length) ∧ F.Pairwise (· ≤ ·) ∧ 0 ≤ p ∧ p ≤ 999 ∧ ∀ (r : Addr) (H' : Hp) (x : Int × List Int), Same H H' → PrN H H' x r → Opt W F p 0 x → Q (.ref r) H'
section
variable {P : Program} {w : World} {K : PySem.W.Frag} {mg : Str → Option Value} {base : Heap} {f : Addr} {fd : FuncData}
theorem scs_best : FnScope ["weights", "falls", "price", "steps", "behind", "start"] ["weights", "falls", "price"] (defScope s_best) := ⟨rfl, rfl, rfl, by decide +kernel, rfl, by decide +kernel, by decide +kernel⟩
theorem ok_best (F : Fun K "best" "best" s_best f fd) (T : Txt mg) (C_check_weights : FnC P w K mg base 2 "check_weights" ["weights"] spCkW) (C_check_falls : FnC P w K mg base 2 "check_falls" ["falls", "steps"] spCkF) (C_check_price : FnC P w K mg base 2 "check_price" ["price"] spCkP)
    (C_best_behind : FnC P w K mg base 2 "best_behind" ["start", "weights", "falls", "price", "behind"] spBeh) : FnOk P w K mg base CX0 3 f fd ["weights", "falls", "price"] spBest := by
  refine F.ok scs_best (fun vs H Q E h => ?_) (fun cdv A outer s H vs Q E hr h => ?_)
  · obtain ⟨a, b, W, F, p, rfl, _⟩ := h
    rfl
  obtain ⟨a, b, W, F, p, rfl, hw, hf, hlW, hbW, hlF, hbF, hsF, hp0, hp1, k⟩ := h
  have nd := scs_best.nd
  have hu := hu_of hr
  refine ⟨_, (pss_cons (ps_expr (pe_callC C_check_weights (hr.mono (by omega)) (by rfl) (pa_cons (pv 0) pa_nil)))
      (pss_cons (ps_set (i := 3) nd rfl (Or.inl rfl) (pe_callB (kLen K) (by rfl) T.n_len (by decide +kernel) (pa_cons (pv 0) pa_nil)))
      (pss_cons (ps_expr (pe_callC C_check_falls (hr.mono (by omega)) (by rfl) (pa_cons (pv 1) (pa_cons (pv 3) pa_nil))))
      (pss_cons (ps_expr (pe_callC C_check_price (hr.mono (by omega)) (by rfl) (pa_cons (pv 2) pa_nil)))
      (pss_cons (ps_set (i := 4) nd rfl (Or.inl rfl) pe_dnewK)
      (pss_cons (ps_for PassesOwn.never rfl (pi_rvrange (by rfl) T.n_reversed (by rfl) T.n_range (pa_cons (pe_callB (c_max rfl) (by rfl) T.n_max (by decide +kernel) (pa_cons pe_int (pa_cons (pv 3) pa_nil))) pa_nil)) (pg_name (i := 5) nd rfl (Or.inl rfl)) (pss_one (ps_dput hu (pv 4) (pv 5) (pe_callC C_best_behind (hr.mono (by omega)) (by rfl) (pa_cons (pv 5) (pa_cons (pv 0) (pa_cons (pv 1) (pa_cons (pv 2) (pa_cons (pv 4) pa_nil)))))) rfl)))
      (pss_one (ps_ret (pe_dget hu (pv 4) pe_int (fun _ _ => rfl)))))))))), ?_⟩
  with_reducible refine go_seq (go_drop (go_callC (go_cons (go_var rfl ?_))))
  with_reducible refine go_nil ?_
  refine ⟨a, W, rfl, hw, hlW, hbW, fun H1 s1 => ?_⟩
  have hw1 := s1 _ _ hw
  with_reducible refine go_seq (go_asg (go_cb (go_cons (go_var rfl ?_))))
  with_reducible refine go_nil ?_
  (with_reducible refine' go_lenL ?hp ?_); (case hp => walk_at "lw_hp")
  with_reducible refine go_gname (go_seq (go_drop (go_callC (go_cons ?_))))
  with_reducible refine go_var rfl (go_cons (go_var rfl (go_nil ?_)))
  simp only [List.length_map]
  refine ⟨b, F, _, rfl, s1 _ _ hf, hlF, hbF, hsF, fun H2 s2 => ?_⟩
  have s12 := s1.trans s2
  with_reducible refine go_seq (go_drop (go_callC (go_cons (go_var rfl ?_))))
  with_reducible refine go_nil ?_
  refine ⟨p, rfl, hp0, hp1, ?_⟩
  with_reducible refine go_seq (go_asg ?_)
  refine go_dnew (fun d hd => ?_)
  have sd : Same H (upd H2 d (.dK [])) := s12.trans (same_new hd _)
  have fd0 : H d = none := s12.free hd
  have hd3 : upd H2 d (.dK []) d = some (.dK []) := upd_same
  generalize upd H2 d (.dK []) = H3 at *
  with_reducible refine go_gname (go_seq (go_for (go_rvr (go_cons ?_))))
  with_reducible refine go_cb (go_cons (go_c (go_cons (go_var rfl ?_))))
  with_reducible refine go_nil (go_max (go_nil (go_qrvr (by omega) (by omega) ?_)))
  refine fq_rvr (fun i σ H' => ∃ (kvs : List (Key × V)) (v : Option V) (X : Int → Int × List Int) (tt : Int → Addr), σ = [some (.ref a), some (.ref b), some (.int p), some (.int W.length), some (.ref d), v] ∧ Same H H' ∧ H' d = some (.dK kvs) ∧ kvs.length ≤ i ∧
    ∀ m : Int, max 1 (W.length : Int) - i ≤ m → m < max 1 (W.length : Int) → valV kvs (.inl m) = some (.ref (tt m)) ∧ PrN H H' (X m) (tt m) ∧ Opt W F p m (X m)) ?_ ?_ ?_
  · exact ⟨[], none, fun _ => (0, []), fun _ => d, rfl, sd, hd3, Nat.le_refl _, fun m h1 h2 => by omega⟩
  · rintro i σ H' hi ⟨kvs, v, X, tt, rfl, sm, hd', hl', hX⟩
    have es : max 1 (W.length : Int) - 1 + (i : Nat) * -1 = max 1 (W.length : Int) - 1 - i := by omega
    rw [es]
    have hs : ∃ s : Int, s = max 1 (W.length : Int) - 1 - i := ⟨_, rfl⟩
    obtain ⟨s, hs⟩ := hs
    rw [← hs]
    with_reducible refine go_gname (go_dput (go_callC (go_cons (go_var rfl ?_))))
    with_reducible refine go_cons (go_var rfl (go_cons (go_var rfl (go_cons ?_))))
    with_reducible refine go_var rfl (go_cons (go_var rfl (go_nil ?_)))
    refine ⟨s, p, a, b, d, W, F, kvs, fun j => X (s + 1 + j), rfl, sm _ _ hw, sm _ _ hf, hd', by omega, by omega, by omega, by omega, hbF, fun j hj => ?_, fun r H4 x s4 hx hm hlow => ?_⟩
    · obtain ⟨e1, ⟨l, q1, q2, _⟩, o⟩ := hX (s + 1 + j) (by omega) (by omega)
      have := o.adm.len
      exact ⟨by show (X (s + 1 + j)).2.length ≤ 1000; omega, _, e1, l, q1, q2⟩
    have ox : Opt W F p s x := opt_step (k := (W.length - (s + 1)).toNat) (by omega) (fun j hj => (hX (s + 1 + j) (by omega) (by omega)).2.2) hm hlow
    have hd4 := s4 _ _ hd'
    with_reducible refine go_var rfl (go_var rfl ?_)
    refine go_qdpI hd4 (small_line (by omega)) ?_
    have sm4 := sm.trans s4
    have nf : ∀ q u, H4 q = some u → (∀ z, u ≠ .dK z) → q ≠ d := fun q u e z => ne_of e hd4 (z _)
    obtain ⟨l, q1, q2, q3⟩ := hx
    refine ⟨_, _, fun m => if m = s then x else X m, fun m => if m = s then r else tt m, rfl, same_upd fd0 sm4, upd_same, Nat.le_trans (length_putK _ _ _) (by omega), fun m h1 h2 => ?_⟩
    rw [valV_put]
    dsimp only
    by_cases c : m = s
    · subst c
      rw [if_pos rfl, if_pos rfl, if_pos rfl]
      exact ⟨rfl, ⟨l, upd_oth (nf _ _ q1 nofun) q1, upd_oth (nf _ _ q2 nofun) q2, sm.free q3⟩, ox⟩
    · obtain ⟨e1, ⟨l', r1, r2, r3⟩, o⟩ := hX m (by omega) h2
      rw [if_neg c, if_neg c, if_neg (by intro z; injection z with z; exact c z)]
      have r1' := s4 _ _ r1
      have r2' := s4 _ _ r2
      exact ⟨e1, ⟨l', upd_oth (nf _ _ r1' nofun) r1', upd_oth (nf _ _ r2' nofun) r2', r3⟩, o⟩
  · rintro σ H' ⟨kvs, v, X, tt, rfl, sm, hd', hl', hX⟩
    obtain ⟨e1, hx, o⟩ := hX 0 (by omega) (by omega)
    with_reducible refine go_ret (go_dget (go_var rfl (go_c ?_)))
    refine go_qdgI hd' e1 ?_
    exact k _ _ _ sm hx o
end
end Lw
set_option Elab.async false
set_option linter.all false
set_option maxRecDepth 100000
set_option maxHeartbeats 4000000
namespace Lw
open PySem L2
local macro_rules | `(tactic| walk_at "lw_hp") => `(tactic| (repeat (first | assumption | exact upd_same | (refine' upd_new (by assumption) ?_) | (refine' tup_off (by assumption) (by assumption) ?_) | (refine' lst_off (by assumption) (by assumption) (by assumption) ?_) | (refine' Same.get (by assumption) ?_) | (refine' Off.get (by assumption) (by assumption) ?_) | (refine' upd_oth (by assumption) ?_))))
abbrev s_check_marks : Stmt := top 22
abbrev s_cost : Stmt := top 24
def spCkM : Sp := fun vs H Q _ => ∃ (m : Addr) (ms : List Int) (n : Int), vs = [.ref m, .int n] ∧ H m = some (.lst (ms.map V.int)) ∧ n ≤ 60 ∧ Adm 0 n ms ∧ ∀ H', Same H H' → Q .non H'
def spPCost : Sp := fun vs H Q _ => ∃ (w f m : Addr) (W F ms : List Int) (p : Int), vs = [.ref w, .ref f, .int p, .ref m] ∧ H w = some (.lst (W.map V.int)) ∧ H f = some (.lst (F.map V.int)) ∧ H m = some (.lst (ms.map V.int)) ∧ W.length ≤ 60 ∧ (∀ x ∈ W, 1 ≤ x ∧ x ≤ 99) ∧ F.length ≤ 20 ∧ (∀ x ∈ F, 0 ≤ x ∧ x ≤ W.length) ∧ F.Pairwise (· ≤ ·) ∧ Adm 0 W.length ms ∧ 0 ≤ p ∧ p ≤ 999 ∧
  ∀ H', Same H H' → Q (.int (Cm W F p 0 ms)) H'
def upFr (W F : List Int) (s : Int) (ms : List Int) : Nat → Int
  | 0 => 0
  | i + 1 => upFr W F s ms i + againM W F ((s :: ms).getD i 0) ((ms ++ [(W.length : Int) + 1]).getD i 0)
theorem upFr_cons (W F : List Int) (s m : Int) (ms : List Int) : ∀ i, upFr W F s (m :: ms) (i + 1) = againM W F s m + upFr W F m ms i
  | 0 => by simp [upFr]
  | i + 1 => by
    show upFr W F s (m :: ms) (i + 1) + _ = _ + (upFr W F m ms i + _)
    rw [upFr_cons W F s m ms i]
    simp only [List.getD_cons_succ, List.cons_append]
    omega
theorem upFr_Cm (W F : List Int) (p : Int) : ∀ (ms : List Int) (s : Int), upFr W F s ms (ms.length + 1) + p * ms.length = Cm W F p s ms
  | [], s => by simp [upFr, Cm]
  | m :: ms, s => by
    rw [List.length_cons, upFr_cons]
    have := upFr_Cm W F p ms m
    unfold Cm
    rw [← this, show ((ms.length + 1 : Nat) : Int) = (ms.length : Int) + 1 by omega, Int.mul_add]
    omega
section
variable {P : Program} {w : World} {K : PySem.W.Frag} {mg : Str → Option Value} {base : Heap} {f : Addr} {fd : FuncData}
theorem scs_check_marks : FnScope ["marks", "steps", "low", "number", "mark"] ["marks", "steps"] (defScope s_check_marks) := ⟨rfl, rfl, rfl, by decide +kernel, rfl, by decide +kernel, by decide +kernel⟩
theorem ok_ckm (F : Fun K "check_marks" "check_marks" s_check_marks f fd) (T : Txt mg) (C_is_number : FnC P w K mg base 1 "is_number" ["thing", "low", "high"] spIsNum) : FnOk P w K mg base CX0 2 f fd ["marks", "steps"] spCkM := by
  refine F.ok scs_check_marks (fun vs H Q E h => ?_) (fun cdv A outer s H vs Q E hr h => ?_)
  · obtain ⟨a, W, n, rfl, _⟩ := h
    rfl
  obtain ⟨a, W, m, rfl, hw, hm60, hA, k⟩ := h
  have nd := scs_check_marks.nd
  have hu := hu_of hr
  refine ⟨_, (pss_cons (ps_if (pt_not (pt_val (pe_callB (kIsinst K) (by rfl) T.n_isinstance (by decide +kernel) (pa_cons (pv 0) (pa_cons (pe_bltn (v := .ty "list") (by rfl) T.n_list (by decide +kernel) rfl) pa_nil))))) (pss_one ps_never) pss_nil)
      (pss_cons (ps_set (i := 2) nd rfl (Or.inl rfl) pe_int)
      (pss_one (ps_for PassesOwn.never rfl (pi_enum (by rfl) T.n_enumerate (pa_cons (pv 0) pa_nil)) (kPgT K (by rfl) (pgs_cons (pg_name (i := 3) nd rfl (Or.inl rfl)) (pgs_cons (pg_name (i := 4) nd rfl (Or.inl rfl)) pgs_nil))) (pss_cons (ps_if (pt_not (pt_val (pe_callC C_is_number (hr.mono (by omega)) (by rfl) (pa_cons (pv 4) (pa_cons (pv 2) (pa_cons (pe_op op_sub (pv 1) pe_int) pa_nil)))))) (pss_one ps_never) pss_nil)
      (pss_one (ps_set (i := 2) nd rfl (Or.inl rfl) (pe_op op_add (pv 4) pe_int)))))))), ?_⟩
  with_reducible refine go_seq (go_ifS (go_not (go_testB (go_cb ?_))))
  with_reducible refine go_cons (go_var rfl (go_cons (go_c (go_nil ?_))))
  (with_reducible refine' go_is_lst_list ?hp ?_); (case hp => walk_at "lw_hp")
  with_reducible refine go_qb (go_iteNt (go_next (go_seq (go_asg ?_))))
  with_reducible refine go_c (go_gname (go_for (go_enum (go_cons ?_))))
  with_reducible refine go_var rfl (go_nil ?_)
  (with_reducible refine' go_qenum ?hp ?_); (case hp => walk_at "lw_hp")
  refine fq_enum (W.map V.int) (fun i σ H' => ∃ lo v v', σ = [some (.ref a), some (.int m), some (.int lo), v, v'] ∧ (∀ (j : Nat) x, i ≤ j → W[j]? = some x → lo ≤ x) ∧ Same H H') ⟨1, none, none, rfl, fun j x _ e => by have := (hA.2 x (mem_of e)).1; omega, Same.refl H⟩ ?_ ?_ ?_
  · rintro i σ H' _ ⟨lo, v, v', rfl, _, sm⟩
    exact SqL.of (sm _ _ hw)
  · rintro i x σ H' t hx ht ⟨lo, v, v', rfl, hlo, sm⟩
    obtain ⟨n, rfl, hn⟩ := int_of hx
    have hi : i < W.length := (List.getElem?_eq_some_iff.mp hn).1
    have hbn := hA.2 n (mem_of hn)
    have h0 := hlo i n (Nat.le_refl _) hn
    (with_reducible refine' go_gtup ?hp ?ha ?_); (case hp => walk_at "lw_hp"); (case ha => first | rfl | assumption)
    with_reducible refine go_gcons (go_gname (go_gcons (go_gname (go_gnil ?_))))
    with_reducible refine go_seq (go_ifS (go_not (go_testB (go_callC ?_))))
    with_reducible refine go_cons (go_var rfl (go_cons (go_var rfl (go_cons ?_))))
    with_reducible refine go_op (go_var rfl (go_c (go_i0 (go_nil ?_))))
    refine num_go h0 (by omega) ?_
    with_reducible refine go_qb (go_iteNt (go_next (go_asg (go_op ?_))))
    with_reducible refine go_var rfl (go_c (go_i0 (go_gname ?_)))
    refine ⟨n + 1, _, _, rfl, fun j x hj e => ?_, sm.trans (same_new ht _)⟩
    obtain ⟨l1, e1⟩ := List.getElem?_eq_some_iff.mp hn
    obtain ⟨l2, e2⟩ := List.getElem?_eq_some_iff.mp e
    rw [← e1, ← e2]
    exact List.pairwise_iff_getElem.mp hA.1 i j l1 l2 (by omega)
  · rintro σ H' ⟨lo, v, v', rfl, _, sm⟩
    skip
    exact k _ sm
theorem scs_cost : FnScope ["weights", "falls", "price", "marks", "steps", "again", "start", "stop"] ["weights", "falls", "price", "marks"] (defScope s_cost) := ⟨rfl, rfl, rfl, by decide +kernel, rfl, by decide +kernel, by decide +kernel⟩
theorem ok_pcost (F : Fun K "cost" "cost" s_cost f fd) (T : Txt mg) (C_check_weights : FnC P w K mg base 2 "check_weights" ["weights"] spCkW) (C_check_falls : FnC P w K mg base 2 "check_falls" ["falls", "steps"] spCkF) (C_check_price : FnC P w K mg base 2 "check_price" ["price"] spCkP) (C_check_marks : FnC P w K mg base 2 "check_marks" ["marks", "steps"] spCkM)
    (C_done_again : FnC P w K mg base 1 "done_again" ["weights", "falls", "start", "stop"] spAgain) : FnOk P w K mg base CX0 3 f fd ["weights", "falls", "price", "marks"] spPCost := by
  refine F.ok scs_cost (fun vs H Q E h => ?_) (fun cdv A outer s H vs Q E hr h => ?_)
  · obtain ⟨a, b, c, W, F, ms, p, rfl, _⟩ := h
    rfl
  obtain ⟨a, b, c, W, F, ms, p, rfl, hw, hf, hm, hlW, hbW, hlF, hbF, hsF, hA, hp0, hp1, k⟩ := h
  have nd := scs_cost.nd
  have hu := hu_of hr
  have hlm := hA.len
  refine ⟨_, (pss_cons (ps_expr (pe_callC C_check_weights (hr.mono (by omega)) (by rfl) (pa_cons (pv 0) pa_nil)))
      (pss_cons (ps_set (i := 4) nd rfl (Or.inl rfl) (pe_callB (kLen K) (by rfl) T.n_len (by decide +kernel) (pa_cons (pv 0) pa_nil)))
      (pss_cons (ps_expr (pe_callC C_check_falls (hr.mono (by omega)) (by rfl) (pa_cons (pv 1) (pa_cons (pv 4) pa_nil))))
      (pss_cons (ps_expr (pe_callC C_check_price (hr.mono (by omega)) (by rfl) (pa_cons (pv 2) pa_nil)))
      (pss_cons (ps_expr (pe_callC C_check_marks (hr.mono (by omega)) (by rfl) (pa_cons (pv 3) (pa_cons (pv 4) pa_nil))))
      (pss_cons (ps_set (i := 5) nd rfl (Or.inl rfl) pe_int)
      (pss_cons (ps_for PassesOwn.never rfl (pi_zip (by rfl) T.n_zip (pa_cons (pe_op op_cat (pe_lst (pa_cons pe_int pa_nil)) (pv 3)) (pa_cons (pe_op op_cat (pv 3) (pe_lst (pa_cons (pe_op op_add (pv 4) pe_int) pa_nil))) pa_nil))) (kPgT K (by rfl) (pgs_cons (pg_name (i := 6) nd rfl (Or.inl rfl)) (pgs_cons (pg_name (i := 7) nd rfl (Or.inl rfl)) pgs_nil))) (pss_one (ps_aug (i := 5) nd rfl (.inl rfl) (pe_callC C_done_again (hr.mono (by omega)) (by rfl) (pa_cons (pv 0) (pa_cons (pv 1) (pa_cons (pv 6) (pa_cons (pv 7) pa_nil))))) ip_add)))
      (pss_one (ps_ret (pe_op op_add (pv 5) (pe_op op_mul (pv 2) (pe_callB (kLen K) (by rfl) T.n_len (by decide +kernel) (pa_cons (pv 3) pa_nil))))))))))))), ?_⟩
  with_reducible refine go_seq (go_drop (go_callC (go_cons (go_var rfl ?_))))
  with_reducible refine go_nil ?_
  refine ⟨a, W, rfl, hw, hlW, hbW, fun H1 s1 => ?_⟩
  have hw1 := s1 _ _ hw
  with_reducible refine go_seq (go_asg (go_cb (go_cons (go_var rfl ?_))))
  with_reducible refine go_nil ?_
  (with_reducible refine' go_lenL ?hp ?_); (case hp => walk_at "lw_hp")
  with_reducible refine go_gname (go_seq (go_drop (go_callC (go_cons ?_))))
  with_reducible refine go_var rfl (go_cons (go_var rfl (go_nil ?_)))
  simp only [List.length_map]
  refine ⟨b, F, _, rfl, s1 _ _ hf, hlF, hbF, hsF, fun H2 s2 => ?_⟩
  have s12 := s1.trans s2
  with_reducible refine go_seq (go_drop (go_callC (go_cons (go_var rfl ?_))))
  with_reducible refine go_nil ?_
  refine ⟨p, rfl, hp0, hp1, ?_⟩
  with_reducible refine go_seq (go_drop (go_callC (go_cons (go_var rfl ?_))))
  with_reducible refine go_cons (go_var rfl (go_nil ?_))
  refine ⟨c, ms, _, rfl, s12 _ _ hm, by omega, hA, fun H3 s3 => ?_⟩
  have s13 := s12.trans s3
  with_reducible refine go_seq (go_asg (go_c (go_gname (go_seq ?_))))
  with_reducible refine go_for ?_
  refine go_zipL ?_
  with_reducible refine go_cons (go_op (go_lst (go_cons (go_c ?_))))
  with_reducible refine go_nil ?_
  refine go_qlst (Nat.le_of_ble_eq_true rfl) (fun z0 hz0 => ?_)
  have s4 := s13.trans (same_new hz0 (.lst [.int 0]))
  have e4 : upd H3 z0 (.lst [.int 0]) z0 = some (.lst [.int 0]) := upd_same
  generalize upd H3 z0 (.lst [.int 0]) = H4 at *
  with_reducible refine go_var rfl ?_
  refine go_cat e4 (s4 _ _ hm) (small_le (by simp; omega)) (fun L1 hL1 => ?_)
  have s5 := s4.trans (same_new hL1 (.lst ([V.int 0] ++ ms.map V.int)))
  have e5 : upd H4 L1 (.lst ([V.int 0] ++ ms.map V.int)) L1 = some (.lst ((0 :: ms).map V.int)) := upd_same
  generalize upd H4 L1 (.lst ([V.int 0] ++ ms.map V.int)) = H5 at *
  with_reducible refine go_cons (go_op (go_var rfl (go_lst (go_cons ?_))))
  with_reducible refine go_op (go_var rfl (go_c (go_i0 (go_nil ?_))))
  refine go_qlst (Nat.le_of_ble_eq_true rfl) (fun z1 hz1 => ?_)
  have s6 := s5.trans (same_new hz1 (.lst [.int ((W.length : Int) + 1)]))
  have e6 : upd H5 z1 (.lst [.int ((W.length : Int) + 1)]) z1 = some (.lst [.int ((W.length : Int) + 1)]) := upd_same
  have e5' := (same_new hz1 (.lst [.int ((W.length : Int) + 1)])) _ _ e5
  generalize upd H5 z1 (.lst [.int ((W.length : Int) + 1)]) = H6 at *
  skip
  refine go_cat (s6 _ _ hm) e6 (small_le (by simp; omega)) (fun L2 hL2 => ?_)
  have S7 := same_new hL2 (.lst (ms.map V.int ++ [V.int ((W.length : Int) + 1)]))
  have s7 := s6.trans S7
  have e7 : upd H6 L2 (.lst (ms.map V.int ++ [V.int ((W.length : Int) + 1)])) L2 = some (.lst ((ms ++ [(W.length : Int) + 1]).map V.int)) := by rw [upd_same, List.map_append]; rfl
  have e5'' := S7 _ _ e5'
  generalize upd H6 L2 (.lst (ms.map V.int ++ [V.int ((W.length : Int) + 1)])) = H7 at *
  clear S7 e5 e5' e6 e4 hz0 hz1 hL1 hL2 s1 s2 s3 s12 s13 s4 s5 s6
  with_reducible refine go_nil ?_
  refine go_qzipL (SqL.of e5'') (SqL.of e7) ?_
  refine fq_zipL ((0 :: ms).map V.int) ((ms ++ [(W.length : Int) + 1]).map V.int) (by simp) (fun i σ H' => ∃ v1 v2, σ = [some (.ref a), some (.ref b), some (.int p), some (.ref c), some (.int W.length), some (.int (upFr W F 0 ms i)), v1, v2] ∧ Same H7 H') ⟨_, _, rfl, Same.refl _⟩ ?_ ?_ ?_
  · rintro i σ H' _ ⟨_, _, rfl, z⟩
    exact ⟨SqL.of (z _ _ e5''), SqL.of (z _ _ e7)⟩
  · rintro i x y σ H' t hx hy ht ⟨v1, v2, rfl, z⟩
    obtain ⟨x, rfl, hx'⟩ := int_of hx
    obtain ⟨y, rfl, hy'⟩ := int_of hy
    have zt := z.trans (same_new ht (.tup [.int x, .int y]))
    have st := s7.trans zt
    have x0 : 0 ≤ x := by
      rcases List.mem_cons.mp (mem_of hx') with rfl | h
      · exact Int.le_refl _
      · have := (hA.2 x h).1; omega
    (with_reducible refine' go_gtup ?hp ?ha ?_); (case hp => walk_at "lw_hp"); (case ha => first | rfl | assumption)
    with_reducible refine go_gcons (go_gname (go_gcons (go_gname (go_gnil ?_))))
    with_reducible refine go_aug rfl (go_callC (go_cons (go_var rfl (go_cons ?_))))
    with_reducible refine go_var rfl (go_cons (go_var rfl (go_cons (go_var rfl ?_))))
    with_reducible refine go_nil ?_
    refine ⟨a, b, W, F, x, y, rfl, st _ _ hw, st _ _ hf, by omega, x0, hbF, fun H9 s9 => ?_⟩
    with_reducible refine go_ipI ?_
    have q : upFr W F 0 ms (i + 1) = upFr W F 0 ms i + againM W F x y := by
      show upFr W F 0 ms i + againM W F ((0 :: ms).getD i 0) ((ms ++ [(W.length : Int) + 1]).getD i 0) = _
      rw [List.getD_eq_getElem?_getD, List.getD_eq_getElem?_getD, hx', hy']
      rfl
    rw [q]
    exact ⟨_, _, rfl, zt.trans s9⟩
  · rintro σ H' ⟨v1, v2, rfl, z⟩
    have hm7 := (s7.trans z) _ _ hm
    with_reducible refine go_ret (go_op (go_var rfl (go_op (go_var rfl ?_))))
    with_reducible refine go_cb (go_cons (go_var rfl (go_nil ?_)))
    (with_reducible refine' go_lenL ?hp ?_); (case hp => walk_at "lw_hp")
    (with_reducible refine' go_i ?cc ?_); (case cc => first | omega | (simp only [CDiv, CMul, CPow]; omega) | (simp only [CDiv, CMul, CPow]; decide))
    with_reducible refine go_i0 ?_
    have q := upFr_Cm W F p ms 0
    simp only [List.length_map, List.length_cons] at *
    rw [q]
    exact k _ (s7.trans z)
end
end Lw
set_option Elab.async false
set_option linter.all false
set_option maxRecDepth 100000
set_option maxHeartbeats 4000000
namespace Lw
open PySem L2
local macro_rules | `(tactic| walk_at "lw_hp") => `(tactic| (repeat (first | assumption | exact upd_same | (refine' upd_new (by assumption) ?_) | (refine' tup_off (by assumption) (by assumption) ?_) | (refine' lst_off (by assumption) (by assumption) (by assumption) ?_) | (refine' Same.get (by assumption) ?_) | (refine' Off.get (by assumption) (by assumption) ?_) | (refine' upd_oth (by assumption) ?_))))
def PlA (y : V) : Prop := ∀ H, Plain H y
def spCkWE (C : Addr) : Sp := fun vs H Q E => ∃ (a : Addr) (xs : List V) (n : Nat) (x : V), vs = [.ref a] ∧ H a = some (.lst xs) ∧ xs[n]? = some x ∧ n ≤ 60 ∧ (n = 60 ∨ numV x 1 99 = false) ∧ (∀ j y, j < n → xs[j]? = some y → numV y 1 99 = true) ∧ (∀ y ∈ xs, PlA y) ∧
  ∀ d H', Same H H' → H' d = some (.xd [("number", .int n)]) → E (.ref C) (some d) H'
def lowAt (l : Int) (xs : List V) : Nat → Int
  | 0 => l
  | i + 1 => match xs[i]? with
    | some (.int z) => z
    | _ => l
theorem lowAt_succ {l z : Int} {xs : List V} {i : Nat} (h : xs[i]? = some (.int z)) : lowAt l xs (i + 1) = z := by
  simp only [lowAt, h]
def lowMk (xs : List V) : Nat → Int
  | 0 => 1
  | i + 1 => match xs[i]? with
    | some (.int z) => z + 1
    | _ => 1
theorem lowMk_succ {z : Int} {xs : List V} {i : Nat} (h : xs[i]? = some (.int z)) : lowMk xs (i + 1) = z + 1 := by
  simp only [lowMk, h]
theorem num_int {y : V} {a b : Int} (h : numV y a b = true) : ∃ z, y = .int z := by
  cases y with
  | int z => exact ⟨z, rfl⟩
  | _ => cases h
def spCkFE (C : Addr) : Sp := fun vs H Q E => ∃ (a : Addr) (xs : List V) (n : Nat) (x : V) (m : Int), vs = [.ref a, .int m] ∧ H a = some (.lst xs) ∧ xs[n]? = some x ∧ n ≤ 20 ∧ (n = 20 ∨ numV x (lowAt 0 xs n) m = false) ∧ (∀ j y, j < n → xs[j]? = some y → numV y (lowAt 0 xs j) m = true) ∧ (∀ y ∈ xs, PlA y) ∧
  ∀ d H', Same H H' → H' d = some (.xd [("number", .int n)]) → E (.ref C) (some d) H'
def spCkME (C : Addr) : Sp := fun vs H Q E => ∃ (a : Addr) (xs : List V) (n : Nat) (x : V) (m : Int), vs = [.ref a, .int m] ∧ H a = some (.lst xs) ∧ xs[n]? = some x ∧ n ≤ 100 ∧ numV x (lowMk xs n) (m - 1) = false ∧ (∀ j y, j < n → xs[j]? = some y → numV y (lowMk xs j) (m - 1) = true) ∧ (∀ y ∈ xs, PlA y) ∧
  ∀ d H', Same H H' → H' d = some (.xd [("number", .int n)]) → E (.ref C) (some d) H'
def spCkPE (C : Addr) : Sp := fun vs H Q E => ∃ (x : V), vs = [x] ∧ PlA x ∧ numV x 0 999 = false ∧ E (.ref C) none H
section
variable {P : Program} {w : World} {K : PySem.W.Frag} {mg : Str → Option Value} {base : Heap} {f : Addr} {fd : FuncData} {W C : Addr}
theorem ok_ckwE (F : Fun K "check_weights" "check_weights" s_check_weights f fd) (T : Txt mg) (C_is_number : FnC P w K mg base 1 "is_number" ["thing", "low", "high"] spIsNum) (XM_BadWeights : XMk P w K mg base 1 "BadWeights" C (.ref W :: vBm) ["self", "number"] (spXI K W C "number")) :
    FnOk P w K mg base (CXE P w) 4 f fd ["weights"] (spCkWE C) := by
  refine F.okE scs_check_weights (fun vs H Q E h => ?_) (fun cdv A outer s H vs Q E hr h => ?_)
  · obtain ⟨a, xs, n, x, rfl, _⟩ := h
    rfl
  obtain ⟨a, xs, n, x, rfl, hw, hx, h60, hbad, hok, hpl, k⟩ := h
  have nd := scs_check_weights.nd
  have hu := hu_of hr
  refine ⟨_, (pss_cons (ps_if (pt_not (pt_val (pe_callB (kIsinst K) (by rfl) T.n_isinstance (by decide +kernel) (pa_cons (pv 0) (pa_cons (pe_bltn (v := .ty "list") (by rfl) T.n_list (by decide +kernel) rfl) pa_nil))))) (pss_one (ps_raiseX XM_BadWeights (hr.mono (by omega)) rfl rfl rfl rfl (by rfl) (pa_cons pe_int pa_nil))) pss_nil)
      (pss_one (ps_for ownE rfl (pi_enum (by rfl) T.n_enumerate (pa_cons (pv 0) pa_nil)) (kPgT K (by rfl) (pgs_cons (pg_name (i := 1) nd rfl (Or.inl rfl)) (pgs_cons (pg_name (i := 2) nd rfl (Or.inl rfl)) pgs_nil))) (pss_one (ps_if (PW.pt (pw_or (pt_cmpR op_eq (pv 1) (pe_gint (by rfl) T.g_MOST_STEPS) (nomark _)) (pw_or1 (pt_not (pt_val (pe_callC C_is_number (hr.mono (by omega)) (by rfl) (pa_cons (pv 2) (pa_cons pe_int (pa_cons (pe_gint (by rfl) T.g_MOST_WEIGHT) pa_nil))))))))) (pss_one (ps_raiseX XM_BadWeights (hr.mono (by omega)) rfl rfl rfl rfl (by rfl) (pa_cons (pv 1) pa_nil))) pss_nil))))), ?_⟩
  with_reducible refine go_seq (go_ifS (go_not (go_testB (go_cb ?_))))
  with_reducible refine go_cons (go_var rfl (go_cons (go_c (go_nil ?_))))
  (with_reducible refine' go_is_lst_list ?hp ?_); (case hp => walk_at "lw_hp")
  with_reducible refine go_qb (go_iteNt (go_next (go_for (go_enum ?_))))
  with_reducible refine go_cons (go_var rfl (go_nil ?_))
  (with_reducible refine' go_qenum ?hp ?_); (case hp => walk_at "lw_hp")
  refine fq_enum xs (fun i σ H' => ∃ v v', σ = [some (.ref a), v, v'] ∧ Same H H' ∧ i ≤ n) ⟨none, none, rfl, Same.refl H, Nat.zero_le _⟩ ?_ ?_ ?_
  · rintro i σ H' _ ⟨v, v', rfl, sm, _⟩
    exact SqL.of (sm _ _ hw)
  · rintro i y σ H' t hy ht ⟨v, v', rfl, sm, hi⟩
    have sn : ∀ u, Same H (upd H' t u) := fun u => sm.trans (same_new ht u)
    have pl := hpl y (List.mem_of_getElem? hy)
    (with_reducible refine' go_gtup ?hp ?ha ?_); (case hp => walk_at "lw_hp"); (case ha => first | rfl | assumption)
    with_reducible refine go_gcons (go_gname (go_gcons (go_gname (go_gnil ?_))))
    with_reducible refine go_ifS (go_or (go_test (go_op (go_var rfl ?_))))
    with_reducible refine go_c (go_eqI (go_qb ?_))
    by_cases e : i = n
    · subst e
      rw [hx] at hy
      cases hy
      refine go_iteD (fun c => ?_) (fun c => ?_)
      · with_reducible refine go_iteT ?_
        refine go_raiseX ?_
        with_reducible refine go_cons (go_var rfl (go_nil ?_))
        exact raise_one (by omega) (by omega) fun d H2 s q => k d H2 ((sn _).trans s) q
      · have bad : numV x 1 99 = false := hbad.resolve_left (fun z => c (by omega))
        with_reducible refine go_not (go_testB (go_callC (go_cons (go_var rfl ?_))))
        with_reducible refine go_cons (go_c (go_cons (go_c (go_nil ?_))))
        refine ⟨x, 1, 99, rfl, pl _, ?_⟩
        rw [bad]
        with_reducible refine go_qb (go_iteNf ?_)
        refine go_raiseX ?_
        with_reducible refine go_cons (go_var rfl (go_nil ?_))
        exact raise_one (by omega) (by omega) fun d H2 s q => k d H2 ((sn _).trans s) q
    · have good := hok i y (by omega) hy
      have c : ¬ ((i : Int) = 60) := by omega
      with_reducible refine go_iteDF (by first | assumption | omega | decide | decide +kernel | (simp only [List.length_cons, List.length_nil, List.length_map]; omega)) (go_not (go_testB (go_callC (go_cons ?_))))
      with_reducible refine go_var rfl (go_cons (go_c (go_cons (go_c ?_))))
      with_reducible refine go_nil ?_
      refine ⟨y, 1, 99, rfl, pl _, ?_⟩
      rw [good]
      with_reducible refine go_qb (go_iteNt (go_next ?_))
      exact ⟨_, _, rfl, sn _, by omega⟩
  · rintro σ H' ⟨v, v', rfl, sm, hi⟩
    exact absurd (List.getElem?_eq_some_iff.mp hx).1 (Nat.not_lt.mpr hi)
theorem ok_ckfE (F : Fun K "check_falls" "check_falls" s_check_falls f fd) (T : Txt mg) (C_is_number : FnC P w K mg base 1 "is_number" ["thing", "low", "high"] spIsNum) (XM_BadFalls : XMk P w K mg base 1 "BadFalls" C (.ref W :: vBm) ["self", "number"] (spXI K W C "number")) :
    FnOk P w K mg base (CXE P w) 4 f fd ["falls", "steps"] (spCkFE C) := by
  refine F.okE scs_check_falls (fun vs H Q E h => ?_) (fun cdv A outer s H vs Q E hr h => ?_)
  · obtain ⟨a, xs, n, x, m, rfl, _⟩ := h
    rfl
  obtain ⟨a, xs, n, x, m, rfl, hw, hx, h20, hbad, hok, hpl, k⟩ := h
  have nd := scs_check_falls.nd
  have hu := hu_of hr
  refine ⟨_, (pss_cons (ps_if (pt_not (pt_val (pe_callB (kIsinst K) (by rfl) T.n_isinstance (by decide +kernel) (pa_cons (pv 0) (pa_cons (pe_bltn (v := .ty "list") (by rfl) T.n_list (by decide +kernel) rfl) pa_nil))))) (pss_one (ps_raiseX XM_BadFalls (hr.mono (by omega)) rfl rfl rfl rfl (by rfl) (pa_cons pe_int pa_nil))) pss_nil)
      (pss_cons (ps_set (i := 2) nd rfl (Or.inl rfl) pe_int)
      (pss_one (ps_for ownE rfl (pi_enum (by rfl) T.n_enumerate (pa_cons (pv 0) pa_nil)) (kPgT K (by rfl) (pgs_cons (pg_name (i := 3) nd rfl (Or.inl rfl)) (pgs_cons (pg_name (i := 4) nd rfl (Or.inl rfl)) pgs_nil))) (pss_cons (ps_if (PW.pt (pw_or (pt_cmpR op_eq (pv 3) (pe_gint (by rfl) T.g_MOST_FALLS) (nomark _)) (pw_or1 (pt_not (pt_val (pe_callC C_is_number (hr.mono (by omega)) (by rfl) (pa_cons (pv 4) (pa_cons (pv 2) (pa_cons (pv 1) pa_nil))))))))) (pss_one (ps_raiseX XM_BadFalls (hr.mono (by omega)) rfl rfl rfl rfl (by rfl) (pa_cons (pv 3) pa_nil))) pss_nil)
      (pss_one (ps_set (i := 2) nd rfl (Or.inl rfl) (pv 4)))))))), ?_⟩
  with_reducible refine go_seq (go_ifS (go_not (go_testB (go_cb ?_))))
  with_reducible refine go_cons (go_var rfl (go_cons (go_c (go_nil ?_))))
  (with_reducible refine' go_is_lst_list ?hp ?_); (case hp => walk_at "lw_hp")
  with_reducible refine go_qb (go_iteNt (go_next (go_seq (go_asg ?_))))
  with_reducible refine go_c (go_gname (go_for (go_enum (go_cons ?_))))
  with_reducible refine go_var rfl (go_nil ?_)
  (with_reducible refine' go_qenum ?hp ?_); (case hp => walk_at "lw_hp")
  refine fq_enum xs (fun i σ H' => ∃ v v', σ = [some (.ref a), some (.int m), some (.int (lowAt 0 xs i)), v, v'] ∧ Same H H' ∧ i ≤ n) ⟨none, none, rfl, Same.refl H, Nat.zero_le _⟩ ?_ ?_ ?_
  · rintro i σ H' _ ⟨v, v', rfl, sm, _⟩
    exact SqL.of (sm _ _ hw)
  · rintro i y σ H' t hy ht ⟨v, v', rfl, sm, hi⟩
    have sn : ∀ u, Same H (upd H' t u) := fun u => sm.trans (same_new ht u)
    have pl := hpl y (List.mem_of_getElem? hy)
    (with_reducible refine' go_gtup ?hp ?ha ?_); (case hp => walk_at "lw_hp"); (case ha => first | rfl | assumption)
    with_reducible refine go_gcons (go_gname (go_gcons (go_gname (go_gnil ?_))))
    with_reducible refine go_seq (go_ifS (go_or (go_test (go_op ?_))))
    with_reducible refine go_var rfl (go_c (go_eqI (go_qb ?_)))
    by_cases e : i = n
    · subst e
      rw [hx] at hy
      cases hy
      refine go_iteD (fun c => ?_) (fun c => ?_)
      · with_reducible refine go_iteT ?_
        refine go_raiseX ?_
        with_reducible refine go_cons (go_var rfl (go_nil ?_))
        exact raise_one (by omega) (by omega) fun d H2 s q => k d H2 ((sn _).trans s) q
      · have bad : numV x (lowAt 0 xs i) m = false := hbad.resolve_left (fun z => c (by omega))
        with_reducible refine go_not (go_testB (go_callC (go_cons (go_var rfl ?_))))
        with_reducible refine go_cons (go_var rfl (go_cons (go_var rfl (go_nil ?_))))
        refine ⟨x, lowAt 0 xs i, m, rfl, pl _, ?_⟩
        rw [bad]
        with_reducible refine go_qb (go_iteNf ?_)
        refine go_raiseX ?_
        with_reducible refine go_cons (go_var rfl (go_nil ?_))
        exact raise_one (by omega) (by omega) fun d H2 s q => k d H2 ((sn _).trans s) q
    · have good := hok i y (by omega) hy
      have c : ¬ ((i : Int) = 20) := by omega
      with_reducible refine go_iteDF (by first | assumption | omega | decide | decide +kernel | (simp only [List.length_cons, List.length_nil, List.length_map]; omega)) (go_not (go_testB (go_callC (go_cons ?_))))
      with_reducible refine go_var rfl (go_cons (go_var rfl (go_cons (go_var rfl ?_))))
      with_reducible refine go_nil ?_
      refine ⟨y, lowAt 0 xs i, m, rfl, pl _, ?_⟩
      rw [good]
      with_reducible refine go_qb (go_iteNt (go_next (go_asg (go_var rfl ?_))))
      with_reducible refine go_gname ?_
      obtain ⟨z, rfl⟩ := num_int good
      exact ⟨_, _, by rw [lowAt_succ hy]; rfl, sn _, by omega⟩
  · rintro σ H' ⟨v, v', rfl, sm, hi⟩
    exact absurd (List.getElem?_eq_some_iff.mp hx).1 (Nat.not_lt.mpr hi)
theorem ok_ckmE (F : Fun K "check_marks" "check_marks" s_check_marks f fd) (T : Txt mg) (C_is_number : FnC P w K mg base 1 "is_number" ["thing", "low", "high"] spIsNum) (XM_BadMarks : XMk P w K mg base 1 "BadMarks" C (.ref W :: vBm) ["self", "number"] (spXI K W C "number")) :
    FnOk P w K mg base (CXE P w) 4 f fd ["marks", "steps"] (spCkME C) := by
  refine F.okE scs_check_marks (fun vs H Q E h => ?_) (fun cdv A outer s H vs Q E hr h => ?_)
  · obtain ⟨a, xs, n, x, m, rfl, _⟩ := h
    rfl
  obtain ⟨a, xs, n, x, m, rfl, hw, hx, h60, hbad, hok, hpl, k⟩ := h
  have nd := scs_check_marks.nd
  have hu := hu_of hr
  refine ⟨_, (pss_cons (ps_if (pt_not (pt_val (pe_callB (kIsinst K) (by rfl) T.n_isinstance (by decide +kernel) (pa_cons (pv 0) (pa_cons (pe_bltn (v := .ty "list") (by rfl) T.n_list (by decide +kernel) rfl) pa_nil))))) (pss_one (ps_raiseX XM_BadMarks (hr.mono (by omega)) rfl rfl rfl rfl (by rfl) (pa_cons pe_int pa_nil))) pss_nil)
      (pss_cons (ps_set (i := 2) nd rfl (Or.inl rfl) pe_int)
      (pss_one (ps_for ownE rfl (pi_enum (by rfl) T.n_enumerate (pa_cons (pv 0) pa_nil)) (kPgT K (by rfl) (pgs_cons (pg_name (i := 3) nd rfl (Or.inl rfl)) (pgs_cons (pg_name (i := 4) nd rfl (Or.inl rfl)) pgs_nil))) (pss_cons (ps_if (pt_not (pt_val (pe_callC C_is_number (hr.mono (by omega)) (by rfl) (pa_cons (pv 4) (pa_cons (pv 2) (pa_cons (pe_op op_sub (pv 1) pe_int) pa_nil)))))) (pss_one (ps_raiseX XM_BadMarks (hr.mono (by omega)) rfl rfl rfl rfl (by rfl) (pa_cons (pv 3) pa_nil))) pss_nil)
      (pss_one (ps_set (i := 2) nd rfl (Or.inl rfl) (pe_op op_add (pv 4) pe_int)))))))), ?_⟩
  with_reducible refine go_seq (go_ifS (go_not (go_testB (go_cb ?_))))
  with_reducible refine go_cons (go_var rfl (go_cons (go_c (go_nil ?_))))
  (with_reducible refine' go_is_lst_list ?hp ?_); (case hp => walk_at "lw_hp")
  with_reducible refine go_qb (go_iteNt (go_next (go_seq (go_asg ?_))))
  with_reducible refine go_c (go_gname (go_for (go_enum (go_cons ?_))))
  with_reducible refine go_var rfl (go_nil ?_)
  (with_reducible refine' go_qenum ?hp ?_); (case hp => walk_at "lw_hp")
  refine fq_enum xs (fun i σ H' => ∃ v v', σ = [some (.ref a), some (.int m), some (.int (lowMk xs i)), v, v'] ∧ Same H H' ∧ i ≤ n) ⟨none, none, rfl, Same.refl H, Nat.zero_le _⟩ ?_ ?_ ?_
  · rintro i σ H' _ ⟨v, v', rfl, sm, _⟩
    exact SqL.of (sm _ _ hw)
  · rintro i y σ H' t hy ht ⟨v, v', rfl, sm, hi⟩
    have sn : ∀ u, Same H (upd H' t u) := fun u => sm.trans (same_new ht u)
    have pl := hpl y (List.mem_of_getElem? hy)
    (with_reducible refine' go_gtup ?hp ?ha ?_); (case hp => walk_at "lw_hp"); (case ha => first | rfl | assumption)
    with_reducible refine go_gcons (go_gname (go_gcons (go_gname (go_gnil ?_))))
    with_reducible refine go_seq (go_ifS (go_not (go_testB (go_callC ?_))))
    with_reducible refine go_cons (go_var rfl (go_cons (go_var rfl (go_cons ?_))))
    with_reducible refine go_op (go_var rfl (go_c (go_i0 (go_nil ?_))))
    by_cases e : i = n
    · subst e
      rw [hx] at hy
      cases hy
      refine ⟨x, lowMk xs i, m - 1, rfl, pl _, ?_⟩
      rw [hbad]
      with_reducible refine go_qb (go_iteNf ?_)
      refine go_raiseX ?_
      with_reducible refine go_cons (go_var rfl (go_nil ?_))
      exact raise_one (by omega) (by omega) fun d H2 s q => k d H2 ((sn _).trans s) q
    · have good := hok i y (by omega) hy
      refine ⟨y, lowMk xs i, m - 1, rfl, pl _, ?_⟩
      rw [good]
      with_reducible refine go_qb (go_iteNt (go_next (go_asg (go_op ?_))))
      with_reducible refine go_var rfl (go_c ?_)
      obtain ⟨z, rfl⟩ := num_int good
      with_reducible refine go_i0 (go_gname ?_)
      exact ⟨_, _, by rw [lowMk_succ hy]; rfl, sn _, by omega⟩
  · rintro σ H' ⟨v, v', rfl, sm, hi⟩
    exact absurd (List.getElem?_eq_some_iff.mp hx).1 (Nat.not_lt.mpr hi)
theorem ok_ckpE (F : Fun K "check_price" "check_price" s_check_price f fd) (T : Txt mg) (C_is_number : FnC P w K mg base 1 "is_number" ["thing", "low", "high"] spIsNum) (XM_BadPrice : XM0 K mg "BadPrice" C (.ref W :: vBm)) : FnOk P w K mg base (CXE P w) 4 f fd ["price"] (spCkPE C) := by
  refine F.okE scs_check_price (fun vs H Q E h => ?_) (fun cdv A outer s H vs Q E hr h => ?_)
  · obtain ⟨x, rfl, _⟩ := h
    rfl
  obtain ⟨x, rfl, hpl, hbad, k⟩ := h
  have nd := scs_check_price.nd
  have hu := hu_of hr
  refine ⟨_, (pss_one (ps_if (pt_not (pt_val (pe_callC C_is_number (hr.mono (by omega)) (by rfl) (pa_cons (pv 0) (pa_cons pe_int (pa_cons (pe_gint (by rfl) T.g_MOST_PRICE) pa_nil)))))) (pss_one (ps_raise0 XM_BadPrice (hr.mono (by omega)) rfl rfl rfl rfl (by rfl) (pa_cons pe_str pa_nil))) pss_nil)), ?_⟩
  with_reducible refine go_ifS (go_not (go_testB (go_callC (go_cons ?_))))
  with_reducible refine go_var rfl (go_cons (go_c (go_cons (go_c ?_))))
  with_reducible refine go_nil ?_
  refine ⟨x, 0, 999, rfl, hpl _, ?_⟩
  rw [hbad]
  with_reducible refine go_qb (go_iteNf ?_)
  refine go_raise0 ?_
  with_reducible refine go_cons (go_c (go_nil ?_))
  exact ⟨Nat.le_of_ble_eq_true rfl, k⟩
end
end Lw
set_option Elab.async false
set_option linter.all false
set_option maxRecDepth 100000
set_option maxHeartbeats 4000000
namespace Lw
open PySem L2
local macro_rules | `(tactic| walk_at "lw_hp") => `(tactic| (repeat (first | assumption | exact upd_same | (refine' upd_new (by assumption) ?_) | (refine' tup_off (by assumption) (by assumption) ?_) | (refine' lst_off (by assumption) (by assumption) (by assumption) ?_) | (refine' Same.get (by assumption) ?_) | (refine' Off.get (by assumption) (by assumption) ?_) | (refine' upd_oth (by assumption) ?_))))
def ROut (C : Addr) (n : Nat) (H : Hp) (E : XK) : Prop := ∀ d H', Same H H' → H' d = some (.xd [("number", .int n)]) → E (.ref C) (some d) H'
theorem ROut.mono {C : Addr} {n : Nat} {H H1 : Hp} {E : XK} (r : ROut C n H E) (s : Same H H1) : ROut C n H1 E := fun d H' s' q => r d H' (s.trans s') q
structure WBad (xs : List V) (n : Nat) : Prop where
  ex : ∃ x, xs[n]? = some x ∧ (n = 60 ∨ numV x 1 99 = false)
  le : n ≤ 60
  ok : ∀ j y, j < n → xs[j]? = some y → numV y 1 99 = true
  pl : ∀ y ∈ xs, PlA y
structure FBad (xs : List V) (m : Int) (n : Nat) : Prop where
  ex : ∃ x, xs[n]? = some x ∧ (n = 20 ∨ numV x (lowAt 0 xs n) m = false)
  le : n ≤ 20
  ok : ∀ j y, j < n → xs[j]? = some y → numV y (lowAt 0 xs j) m = true
  pl : ∀ y ∈ xs, PlA y
structure MBad (xs : List V) (m : Int) (n : Nat) : Prop where
  ex : ∃ x, xs[n]? = some x ∧ numV x (lowMk xs n) (m - 1) = false
  le : n ≤ 100
  ok : ∀ j y, j < n → xs[j]? = some y → numV y (lowMk xs j) (m - 1) = true
  pl : ∀ y ∈ xs, PlA y
structure WOk (H : Hp) (a : Addr) (W : List Int) : Prop where
  at_ : H a = some (.lst (W.map V.int))
  le : W.length ≤ 60
  ok : ∀ x ∈ W, 1 ≤ x ∧ x ≤ 99
structure FOk (H : Hp) (a : Addr) (F : List Int) (n : Int) : Prop where
  at_ : H a = some (.lst (F.map V.int))
  le : F.length ≤ 20
  ok : ∀ x ∈ F, 0 ≤ x ∧ x ≤ n
  so : F.Pairwise (· ≤ ·)
def spCostE (cW cF cP cM : Addr) : Sp := fun vs H Q E =>
  (∃ a xs n f p m, vs = [.ref a, f, p, m] ∧ H a = some (.lst xs) ∧ WBad xs n ∧ ROut cW n H E) ∨
  (∃ a b W xs n p m, vs = [.ref a, .ref b, p, m] ∧ WOk H a W ∧ H b = some (.lst xs) ∧ FBad xs W.length n ∧ ROut cF n H E) ∨
  (∃ a b W F x m, vs = [.ref a, .ref b, x, m] ∧ WOk H a W ∧ FOk H b F W.length ∧ PlA x ∧ numV x 0 999 = false ∧ ∀ H', Same H H' → E (.ref cP) none H') ∨
  (∃ a b c W F p xs n, vs = [.ref a, .ref b, .int p, .ref c] ∧ WOk H a W ∧ FOk H b F W.length ∧ 0 ≤ p ∧ p ≤ 999 ∧ H c = some (.lst xs) ∧ MBad xs W.length n ∧ ROut cM n H E)
def spBestE (cW cF cP : Addr) : Sp := fun vs H Q E =>
  (∃ a xs n f p, vs = [.ref a, f, p] ∧ H a = some (.lst xs) ∧ WBad xs n ∧ ROut cW n H E) ∨
  (∃ a b W xs n p, vs = [.ref a, .ref b, p] ∧ WOk H a W ∧ H b = some (.lst xs) ∧ FBad xs W.length n ∧ ROut cF n H E) ∨
  (∃ a b W F x, vs = [.ref a, .ref b, x] ∧ WOk H a W ∧ FOk H b F W.length ∧ PlA x ∧ numV x 0 999 = false ∧ ∀ H', Same H H' → E (.ref cP) none H')
section
variable {P : Program} {w : World} {K : PySem.W.Frag} {mg : Str → Option Value} {base : Heap} {f : Addr} {fd : FuncData} {W cW cF cP cM : Addr}
theorem ok_costE (F : Fun K "cost" "cost" s_cost f fd) (T : Txt mg) (C_check_weights : FnC P w K mg base 2 "check_weights" ["weights"] spCkW) (C_check_falls : FnC P w K mg base 2 "check_falls" ["falls", "steps"] spCkF) (C_check_price : FnC P w K mg base 2 "check_price" ["price"] spCkP)
    (C_check_weightsE : FnE P w K mg base 4 "check_weights" ["weights"] (spCkWE cW)) (C_check_fallsE : FnE P w K mg base 4 "check_falls" ["falls", "steps"] (spCkFE cF)) (C_check_priceE : FnE P w K mg base 4 "check_price" ["price"] (spCkPE cP)) (C_check_marksE : FnE P w K mg base 4 "check_marks" ["marks", "steps"] (spCkME cM)) :
    FnOk P w K mg base (CXE P w) 5 f fd ["weights", "falls", "price", "marks"] (spCostE cW cF cP cM) := by
  refine F.okE scs_cost (fun vs H Q E h => ?_) (fun cdv A outer s H vs Q E hr h => ?_)
  · rcases h with ⟨_, _, _, _, _, _, rfl, _⟩ | ⟨_, _, _, _, _, _, _, rfl, _⟩ | ⟨_, _, _, _, _, _, rfl, _⟩ | ⟨_, _, _, _, _, _, _, _, rfl, _⟩ <;> rfl
  have nd := scs_cost.nd
  have hu := hu_of hr
  rcases h with ⟨a, xs, n, b, p, m, rfl, ha, ⟨⟨x, hx, hb⟩, hle, hok, hpl⟩, k⟩ | ⟨a, b, W, xs, n, p, m, rfl, w1, hb, ⟨⟨x, hx, hbad⟩, hle, hok, hpl⟩, k⟩ | ⟨a, b, W, F', x, m, rfl, w1, f1, hpl, hbad, k⟩ | ⟨a, b, c, W, F', p, xs, n, rfl, w1, f1, p0, p1, hc, ⟨⟨x, hx, hbad⟩, hle, hok, hpl⟩, k⟩
  · refine ⟨_, (pss_cons (ps_expr (pe_callE C_check_weightsE (hr.mono (by omega)) (by rfl) (pa_cons (pv 0) pa_nil) passE))
      pss_any), ?_⟩
    with_reducible refine go_seq (go_drop ?_)
    refine go_callE ?_
    with_reducible refine go_cons (go_var rfl (go_nil ?_))
    exact ⟨a, xs, n, x, rfl, ha, hx, hle, hb, hok, hpl, k⟩
  · refine ⟨_, (pss_cons (ps_expr (pe_callC C_check_weights (hr.mono (by omega)) (by rfl) (pa_cons (pv 0) pa_nil)))
      (pss_cons (ps_set (i := 4) nd rfl (Or.inl rfl) (pe_callB (kLen K) (by rfl) T.n_len (by decide +kernel) (pa_cons (pv 0) pa_nil)))
      (pss_cons (ps_expr (pe_callE C_check_fallsE (hr.mono (by omega)) (by rfl) (pa_cons (pv 1) (pa_cons (pv 4) pa_nil)) passE))
      pss_any))), ?_⟩
    with_reducible refine go_seq (go_drop (go_callC (go_cons (go_var rfl ?_))))
    with_reducible refine go_nil ?_
    refine ⟨a, W, rfl, w1.at_, w1.le, w1.ok, fun H1 s1 => ?_⟩
    have e1 := s1 _ _ w1.at_
    with_reducible refine go_seq (go_asg (go_cb (go_cons (go_var rfl ?_))))
    with_reducible refine go_nil ?_
    (with_reducible refine' go_lenL ?hp ?_); (case hp => walk_at "lw_hp")
    with_reducible refine go_gname (go_seq (go_drop ?_))
    refine go_callE ?_
    with_reducible refine go_cons (go_var rfl (go_cons (go_var rfl (go_nil ?_))))
    refine ⟨b, xs, n, x, W.length, by simp, s1 _ _ hb, hx, hle, hbad, hok, hpl, k.mono s1⟩
  · refine ⟨_, (pss_cons (ps_expr (pe_callC C_check_weights (hr.mono (by omega)) (by rfl) (pa_cons (pv 0) pa_nil)))
      (pss_cons (ps_set (i := 4) nd rfl (Or.inl rfl) (pe_callB (kLen K) (by rfl) T.n_len (by decide +kernel) (pa_cons (pv 0) pa_nil)))
      (pss_cons (ps_expr (pe_callC C_check_falls (hr.mono (by omega)) (by rfl) (pa_cons (pv 1) (pa_cons (pv 4) pa_nil))))
      (pss_cons (ps_expr (pe_callE C_check_priceE (hr.mono (by omega)) (by rfl) (pa_cons (pv 2) pa_nil) passE))
      pss_any)))), ?_⟩
    with_reducible refine go_seq (go_drop (go_callC (go_cons (go_var rfl ?_))))
    with_reducible refine go_nil ?_
    refine ⟨a, W, rfl, w1.at_, w1.le, w1.ok, fun H1 s1 => ?_⟩
    have e1 := s1 _ _ w1.at_
    with_reducible refine go_seq (go_asg (go_cb (go_cons (go_var rfl ?_))))
    with_reducible refine go_nil ?_
    (with_reducible refine' go_lenL ?hp ?_); (case hp => walk_at "lw_hp")
    with_reducible refine go_gname (go_seq (go_drop (go_callC (go_cons ?_))))
    with_reducible refine go_var rfl (go_cons (go_var rfl (go_nil ?_)))
    simp only [List.length_map]
    refine ⟨b, F', _, rfl, s1 _ _ f1.at_, f1.le, f1.ok, f1.so, fun H2 s2 => ?_⟩
    with_reducible refine go_seq (go_drop ?_)
    refine go_callE ?_
    with_reducible refine go_cons (go_var rfl (go_nil ?_))
    exact ⟨x, rfl, hpl, hbad, k _ (s1.trans s2)⟩
  · refine ⟨_, (pss_cons (ps_expr (pe_callC C_check_weights (hr.mono (by omega)) (by rfl) (pa_cons (pv 0) pa_nil)))
      (pss_cons (ps_set (i := 4) nd rfl (Or.inl rfl) (pe_callB (kLen K) (by rfl) T.n_len (by decide +kernel) (pa_cons (pv 0) pa_nil)))
      (pss_cons (ps_expr (pe_callC C_check_falls (hr.mono (by omega)) (by rfl) (pa_cons (pv 1) (pa_cons (pv 4) pa_nil))))
      (pss_cons (ps_expr (pe_callC C_check_price (hr.mono (by omega)) (by rfl) (pa_cons (pv 2) pa_nil)))
      (pss_cons (ps_expr (pe_callE C_check_marksE (hr.mono (by omega)) (by rfl) (pa_cons (pv 3) (pa_cons (pv 4) pa_nil)) passE))
      pss_any))))), ?_⟩
    with_reducible refine go_seq (go_drop (go_callC (go_cons (go_var rfl ?_))))
    with_reducible refine go_nil ?_
    refine ⟨a, W, rfl, w1.at_, w1.le, w1.ok, fun H1 s1 => ?_⟩
    have e1 := s1 _ _ w1.at_
    with_reducible refine go_seq (go_asg (go_cb (go_cons (go_var rfl ?_))))
    with_reducible refine go_nil ?_
    (with_reducible refine' go_lenL ?hp ?_); (case hp => walk_at "lw_hp")
    with_reducible refine go_gname (go_seq (go_drop (go_callC (go_cons ?_))))
    with_reducible refine go_var rfl (go_cons (go_var rfl (go_nil ?_)))
    simp only [List.length_map]
    refine ⟨b, F', _, rfl, s1 _ _ f1.at_, f1.le, f1.ok, f1.so, fun H2 s2 => ?_⟩
    with_reducible refine go_seq (go_drop (go_callC (go_cons (go_var rfl ?_))))
    with_reducible refine go_nil ?_
    refine ⟨p, rfl, p0, p1, ?_⟩
    with_reducible refine go_seq (go_drop ?_)
    refine go_callE ?_
    with_reducible refine go_cons (go_var rfl (go_cons (go_var rfl (go_nil ?_))))
    exact ⟨c, xs, n, x, W.length, rfl, s2 _ _ (s1 _ _ hc), hx, hle, hbad, hok, hpl, k.mono (s1.trans s2)⟩
theorem ok_bestE (F : Fun K "best" "best" s_best f fd) (T : Txt mg) (C_check_weights : FnC P w K mg base 2 "check_weights" ["weights"] spCkW) (C_check_falls : FnC P w K mg base 2 "check_falls" ["falls", "steps"] spCkF)
    (C_check_weightsE : FnE P w K mg base 4 "check_weights" ["weights"] (spCkWE cW)) (C_check_fallsE : FnE P w K mg base 4 "check_falls" ["falls", "steps"] (spCkFE cF)) (C_check_priceE : FnE P w K mg base 4 "check_price" ["price"] (spCkPE cP)) :
    FnOk P w K mg base (CXE P w) 5 f fd ["weights", "falls", "price"] (spBestE cW cF cP) := by
  refine F.okE scs_best (fun vs H Q E h => ?_) (fun cdv A outer s H vs Q E hr h => ?_)
  · rcases h with ⟨_, _, _, _, _, rfl, _⟩ | ⟨_, _, _, _, _, _, rfl, _⟩ | ⟨_, _, _, _, _, rfl, _⟩ <;> rfl
  have nd := scs_best.nd
  have hu := hu_of hr
  rcases h with ⟨a, xs, n, b, p, rfl, ha, ⟨⟨x, hx, hb⟩, hle, hok, hpl⟩, k⟩ | ⟨a, b, W, xs, n, p, rfl, w1, hb, ⟨⟨x, hx, hbad⟩, hle, hok, hpl⟩, k⟩ | ⟨a, b, W, F', x, rfl, w1, f1, hpl, hbad, k⟩
  · refine ⟨_, (pss_cons (ps_expr (pe_callE C_check_weightsE (hr.mono (by omega)) (by rfl) (pa_cons (pv 0) pa_nil) passE))
      pss_any), ?_⟩
    with_reducible refine go_seq (go_drop ?_)
    refine go_callE ?_
    with_reducible refine go_cons (go_var rfl (go_nil ?_))
    exact ⟨a, xs, n, x, rfl, ha, hx, hle, hb, hok, hpl, k⟩
  · refine ⟨_, (pss_cons (ps_expr (pe_callC C_check_weights (hr.mono (by omega)) (by rfl) (pa_cons (pv 0) pa_nil)))
      (pss_cons (ps_set (i := 3) nd rfl (Or.inl rfl) (pe_callB (kLen K) (by rfl) T.n_len (by decide +kernel) (pa_cons (pv 0) pa_nil)))
      (pss_cons (ps_expr (pe_callE C_check_fallsE (hr.mono (by omega)) (by rfl) (pa_cons (pv 1) (pa_cons (pv 3) pa_nil)) passE))
      pss_any))), ?_⟩
    with_reducible refine go_seq (go_drop (go_callC (go_cons (go_var rfl ?_))))
    with_reducible refine go_nil ?_
    refine ⟨a, W, rfl, w1.at_, w1.le, w1.ok, fun H1 s1 => ?_⟩
    have e1 := s1 _ _ w1.at_
    with_reducible refine go_seq (go_asg (go_cb (go_cons (go_var rfl ?_))))
    with_reducible refine go_nil ?_
    (with_reducible refine' go_lenL ?hp ?_); (case hp => walk_at "lw_hp")
    with_reducible refine go_gname (go_seq (go_drop ?_))
    refine go_callE ?_
    with_reducible refine go_cons (go_var rfl (go_cons (go_var rfl (go_nil ?_))))
    refine ⟨b, xs, n, x, W.length, by simp, s1 _ _ hb, hx, hle, hbad, hok, hpl, k.mono s1⟩
  · refine ⟨_, (pss_cons (ps_expr (pe_callC C_check_weights (hr.mono (by omega)) (by rfl) (pa_cons (pv 0) pa_nil)))
      (pss_cons (ps_set (i := 3) nd rfl (Or.inl rfl) (pe_callB (kLen K) (by rfl) T.n_len (by decide +kernel) (pa_cons (pv 0) pa_nil)))
      (pss_cons (ps_expr (pe_callC C_check_falls (hr.mono (by omega)) (by rfl) (pa_cons (pv 1) (pa_cons (pv 3) pa_nil))))
      (pss_cons (ps_expr (pe_callE C_check_priceE (hr.mono (by omega)) (by rfl) (pa_cons (pv 2) pa_nil) passE))
      pss_any)))), ?_⟩
    with_reducible refine go_seq (go_drop (go_callC (go_cons (go_var rfl ?_))))
    with_reducible refine go_nil ?_
    refine ⟨a, W, rfl, w1.at_, w1.le, w1.ok, fun H1 s1 => ?_⟩
    have e1 := s1 _ _ w1.at_
    with_reducible refine go_seq (go_asg (go_cb (go_cons (go_var rfl ?_))))
    with_reducible refine go_nil ?_
    (with_reducible refine' go_lenL ?hp ?_); (case hp => walk_at "lw_hp")
    with_reducible refine go_gname (go_seq (go_drop (go_callC (go_cons ?_))))
    with_reducible refine go_var rfl (go_cons (go_var rfl (go_nil ?_)))
    simp only [List.length_map]
    refine ⟨b, F', _, rfl, s1 _ _ f1.at_, f1.le, f1.ok, f1.so, fun H2 s2 => ?_⟩
    with_reducible refine go_seq (go_drop ?_)
    refine go_callE ?_
    with_reducible refine go_cons (go_var rfl (go_nil ?_))
    exact ⟨x, rfl, hpl, hbad, k _ (s1.trans s2)⟩
end
end Lw
set_option Elab.async false
set_option linter.all false
set_option maxRecDepth 100000
set_option maxHeartbeats 4000000
namespace Lw
open PySem L2
local macro_rules | `(tactic| walk_at "lw_hp") => `(tactic| (repeat (first | assumption | exact upd_same | (refine' upd_new (by assumption) ?_) | (refine' tup_off (by assumption) (by assumption) ?_) | (refine' lst_off (by assumption) (by assumption) (by assumption) ?_) | (refine' Same.get (by assumption) ?_) | (refine' Off.get (by assumption) (by assumption) ?_) | (refine' upd_oth (by assumption) ?_))))
abbrev s__law_plan : Stmt := top 32
structure PlanIs (W F : List Int) (p : Int) : Prop where
  w : ∀ x ∈ W, 1 ≤ x ∧ x ≤ 99
  l : F.length ≤ 20
  f : ∀ x ∈ F, 0 ≤ x ∧ x ≤ W.length
  s : F.Pairwise (· ≤ ·)
  p0 : 0 ≤ p
  p1 : p ≤ 999
def spPlan (K : PySem.W.Frag) : Sp := fun vs H Q _ => ∃ (d : Addr) (most : Int), vs = [.ref d, .int most] ∧ Dice K H d ∧ 0 ≤ most ∧ most ≤ 60 ∧
  ∀ (r w f : Addr) (H' : Hp) (W F : List Int) (p : Int), Off d H H' → Dice K H' d → H' r = some (.tup [.ref w, .ref f, .int p]) → H' w = some (.lst (W.map V.int)) → H' f = some (.lst (F.map V.int)) → H w = none → H f = none → w ≠ f → (W.length : Int) ≤ most → PlanIs W F p → Q (.ref r) H'
theorem at_three {x y z : V} {r : Int} (h0 : 0 ≤ r) (h1 : r < 3) : ∃ v, atI [x, y, z] r = some v ∧ (v = x ∨ v = y ∨ v = z) := by
  rcases (by omega : r = 0 ∨ r = 1 ∨ r = 2) with e | e | e
  · subst e; exact ⟨x, rfl, .inl rfl⟩
  · subst e; exact ⟨y, rfl, .inr (.inl rfl)⟩
  · subst e; exact ⟨z, rfl, .inr (.inr rfl)⟩
theorem off_free {K : PySem.W.Frag} {H H' : Hp} {d l : Addr} (o : Off d H H') (D : Dice K H' d) (h : H' l = none) : H l = none := by
  cases e : H l with
  | none => rfl
  | some u =>
    rw [o _ _ e (D.nef h)] at h
    cases h
section
variable {P : Program} {w : World} {K : PySem.W.Frag} {mg : Str → Option Value} {base : Heap} {f : Addr} {fd : FuncData}
theorem scs__law_plan : FnScope ["_law_d", "_law_most", "_law_wide", "_law_weights", "_law_many", "_law_falls", "_law_k"] ["_law_d", "_law_most"] (defScope s__law_plan) := ⟨rfl, rfl, rfl, by decide +kernel, rfl, by decide +kernel, by decide +kernel⟩
theorem ok_plan (F : Fun K "_law_plan" "_law_plan" s__law_plan f fd) (T : Txt mg) (C_law_next : FnC P w K mg base 1 "_law_next" ["_law_dice_here", "_law_many"] (spNext K)) : FnOk P w K mg base CX0 2 f fd ["_law_d", "_law_most"] (spPlan K) := by
  refine F.ok scs__law_plan (fun vs H Q E h => ?_) (fun cdv A outer s H vs Q E hr h => ?_)
  · obtain ⟨d, most, rfl, _⟩ := h
    rfl
  obtain ⟨d, most, rfl, D, h0, h1, k⟩ := h
  have nd := scs__law_plan.nd
  have hu := hu_of hr
  refine ⟨_, (pss_cons (ps_set (i := 2) nd rfl (Or.inr rfl) (pe_ix (kIxL K) (pe_lst (pa_cons pe_int (pa_cons pe_int pa_nil))) (pe_callC C_law_next (hr.mono (by omega)) (by rfl) (pa_cons (pv 0) (pa_cons pe_int pa_nil))) (fun _ _ => rfl)))
      (pss_cons (ps_set (i := 3) nd rfl (Or.inr rfl) (pe_lc rfl nd (pi_range1 (by rfl) T.n_range (pa_cons (pe_callC C_law_next (hr.mono (by omega)) (by rfl) (pa_cons (pv 0) (pa_cons (pe_op op_add (pv 1) pe_int) pa_nil))) pa_nil)) (blkOk_by (own := [("_law_k", 6)]) (by show blkC ["_law_d", "_law_most", "_law_wide", "_law_weights", "_law_many", "_law_falls", "_law_k"] (defScope s__law_plan) _ _ = true; decide +kernel)) (fun _ _ _ _ _ => (pg_name (i := 6) nd rfl (Or.inl rfl))) (fun _ _ _ _ _ => pts_nil) (fun _ _ _ _ _ => (pe_op op_add pe_int (pe_callC C_law_next (hr.mono (by omega)) (by rfl) (pa_cons (pv 0) (pa_cons (pv 2) pa_nil)))))))
      (pss_cons (ps_set (i := 4) nd rfl (Or.inl rfl) (pe_ix (kIxL K) (pe_lst (pa_cons (pe_callC C_law_next (hr.mono (by omega)) (by rfl) (pa_cons (pv 0) (pa_cons pe_int pa_nil))) (pa_cons (pe_callC C_law_next (hr.mono (by omega)) (by rfl) (pa_cons (pv 0) (pa_cons pe_int pa_nil))) pa_nil))) (pe_callC C_law_next (hr.mono (by omega)) (by rfl) (pa_cons (pv 0) (pa_cons pe_int pa_nil))) (fun _ _ => rfl)))
      (pss_cons (ps_set (i := 5) nd rfl (Or.inl rfl) (pe_callB (kSorted K) (by rfl) T.n_sorted (by decide +kernel) (pa_cons (pe_lc rfl nd (pi_range1 (by rfl) T.n_range (pa_cons (pv 4) pa_nil)) (blkOk_by (own := [("_law_k", 6)]) (by show blkC ["_law_d", "_law_most", "_law_wide", "_law_weights", "_law_many", "_law_falls", "_law_k"] (defScope s__law_plan) _ _ = true; decide +kernel)) (fun _ _ _ _ _ => (pg_name (i := 6) nd rfl (Or.inl rfl))) (fun _ _ _ _ _ => pts_nil) (fun _ _ _ _ _ => (pe_callC C_law_next (hr.mono (by omega)) (by rfl) (pa_cons (pv 0) (pa_cons (pe_op op_add (pe_callB (kLen K) (by rfl) T.n_len (by decide +kernel) (pa_cons (pv 3) pa_nil)) pe_int) pa_nil))))) pa_nil)))
      (pss_one (ps_ret (pe_tup (pa_cons (pv 3) (pa_cons (pv 5) (pa_cons (pe_ix (kIxL K) (pe_lst (pa_cons (pe_callC C_law_next (hr.mono (by omega)) (by rfl) (pa_cons (pv 0) (pa_cons pe_int pa_nil))) (pa_cons (pe_callC C_law_next (hr.mono (by omega)) (by rfl) (pa_cons (pv 0) (pa_cons pe_int pa_nil))) (pa_cons (pe_callC C_law_next (hr.mono (by omega)) (by rfl) (pa_cons (pv 0) (pa_cons pe_int pa_nil))) pa_nil)))) (pe_callC C_law_next (hr.mono (by omega)) (by rfl) (pa_cons (pv 0) (pa_cons pe_int pa_nil))) (fun _ _ => rfl)) pa_nil)))))))))), ?_⟩
  with_reducible refine go_seq (go_asg (go_op (go_lst (go_cons ?_))))
  with_reducible refine go_c (go_cons (go_c (go_nil ?_)))
  refine go_qlst (Nat.le_of_ble_eq_true rfl) (fun p1 hp1 => ?_)
  with_reducible refine go_callC (go_cons (go_var rfl (go_cons (go_c ?_))))
  with_reducible refine go_nil ?_
  refine nx_go (D.same (same_new hp1 _)) (by omega) (by omega) (fun r1 H1 a1 b1 D1 o1 => ?_)
  have o1' : Off d H H1 := (same_new hp1 _).off.trans o1
  have e1 : H1 p1 = some (.lst [.int 3, .int 99]) := o1 _ _ upd_same (D.nef hp1)
  obtain ⟨wd, hwd, wd0, wd1⟩ : ∃ z, atI [V.int 3, V.int 99] r1 = some (.int z) ∧ 0 < z ∧ z ≤ 99 := by
    obtain ⟨z, hz, hz'⟩ := at_two (x := V.int 3) (y := V.int 99) a1 b1
    rcases hz' with rfl | rfl
    · exact ⟨_, hz, by decide, by decide⟩
    · exact ⟨_, hz, by decide, by decide⟩
  (with_reducible refine' go_ixL ?hp ?ha ?_); (case hp => walk_at "lw_hp"); (case ha => first | rfl | assumption)
  with_reducible refine go_gname (go_seq (go_asg (go_lc (go_rng1 ?_))))
  with_reducible refine go_cons (go_callC (go_cons (go_var rfl (go_cons ?_))))
  with_reducible refine go_op (go_var rfl (go_c (go_i0 (go_nil ?_))))
  refine nx_go D1 (by omega) (by omega) (fun n H2 a2 b2 D2 o2 => ?_)
  have o2' := o1'.trans o2
  with_reducible refine go_nil (go_qrng1 (by omega) (by omega) ?_)
  refine lq_range (fun L hL => ?_)
  have nL : L ≠ d := D2.nef hL
  refine ⟨fun i H' => ∃ W : List Int, H' L = some (.lst (W.map V.int)) ∧ W.length = i ∧ (∀ x ∈ W, 1 ≤ x ∧ x ≤ 99) ∧ Dice K H' d ∧ Off d H2 H', ?_, ?_, ?_⟩
  · exact ⟨[], upd_same, rfl, (fun x h => by cases h), D2.same (same_new hL _), (same_new hL _).off⟩
  · rintro i H' hi ⟨W, eL, hl, hW, D', o'⟩
    refine go_gname ⟨rfl, ?_⟩
    with_reducible refine go_yes (go_iteT (go_op (go_c (go_callC ?_))))
    with_reducible refine go_cons (go_var rfl (go_cons (go_var rfl (go_nil ?_))))
    refine nx_go D' (by omega) (by omega) (fun x H3 a3 b3 D3 o3 => ?_)
    with_reducible refine go_i0 ?_
    have eL3 := o3 _ _ eL nL
    refine go_lcA eL3 (small_line (by simp; omega)) ?_
    refine ⟨W ++ [1 + x], by rw [upd_same, List.map_append]; rfl, by simp [hl], fun y hy => ?_, D3.updL eL3 nL.symm, off_fresh hL (o'.trans o3)⟩
    rcases List.mem_append.mp hy with hy | hy
    · exact hW y hy
    · have e : y = 1 + x := by simpa using hy
      omega
  rintro H3 ⟨W, eL, hl, hW, D3, o3⟩
  have o3' := o2'.trans o3
  have fL : H L = none := off_free o2' D2 hL
  clear o1 o2 o3 e1 D1 D2 hL
  with_reducible refine go_gname (go_seq (go_asg (go_op (go_lst ?_))))
  with_reducible refine go_cons (go_callC (go_cons (go_var rfl (go_cons ?_))))
  with_reducible refine go_c (go_nil ?_)
  refine nx_go D3 (by omega) (by omega) (fun m1 H4 a4 b4 D4 o4 => ?_)
  with_reducible refine go_cons (go_callC (go_cons (go_var rfl (go_cons ?_))))
  with_reducible refine go_c (go_nil ?_)
  refine nx_go D4 (by omega) (by omega) (fun m2 H5 a5 b5 D5 o5 => ?_)
  with_reducible refine go_nil ?_
  refine go_qlst (Nat.le_of_ble_eq_true rfl) (fun p2 hp2 => ?_)
  with_reducible refine go_callC (go_cons (go_var rfl (go_cons (go_c ?_))))
  with_reducible refine go_nil ?_
  refine nx_go (D5.same (same_new hp2 _)) (by omega) (by omega) (fun m3 H6 a6 b6 D6 o6 => ?_)
  have e2 : H6 p2 = some (.lst [.int m1, .int m2]) := o6 _ _ upd_same (D5.nef hp2)
  have eL6 : H6 L = some (.lst (W.map V.int)) := o6 _ _ (upd_new hp2 (o5 _ _ (o4 _ _ eL nL) nL)) nL
  have o6' : Off d H H6 := ((o3'.trans o4).trans o5).trans ((same_new hp2 _).off.trans o6)
  obtain ⟨mn, hmn, mn0, mn1⟩ : ∃ z, atI [V.int m1, V.int m2] m3 = some (.int z) ∧ 0 ≤ z ∧ z ≤ 20 := by
    obtain ⟨z, hz, hz'⟩ := at_two (x := V.int m1) (y := V.int m2) a6 b6
    rcases hz' with rfl | rfl
    · exact ⟨_, hz, by omega, by omega⟩
    · exact ⟨_, hz, by omega, by omega⟩
  clear o4 o5 o6 hp2
  (with_reducible refine' go_ixL ?hp ?ha ?_); (case hp => walk_at "lw_hp"); (case ha => first | rfl | assumption)
  with_reducible refine go_gname (go_seq (go_asg (go_cb (go_cons ?_))))
  with_reducible refine go_lc (go_rng1 (go_cons (go_var rfl (go_nil ?_))))
  with_reducible refine go_qrng1 (by omega) (by omega) ?_
  refine lq_range (fun G hG => ?_)
  have nG : G ≠ d := D6.nef hG
  have nLG : L ≠ G := ne_of_none eL6 hG
  refine ⟨fun i H' => ∃ F : List Int, H' G = some (.lst (F.map V.int)) ∧ F.length = i ∧ (∀ x ∈ F, 0 ≤ x ∧ x ≤ W.length) ∧ Dice K H' d ∧ Off d H6 H', ?_, ?_, ?_⟩
  · exact ⟨[], upd_same, rfl, (fun x h => by cases h), D6.same (same_new hG _), (same_new hG _).off⟩
  · rintro i H' hi ⟨F, eG, hl', hF, D', o'⟩
    refine go_gname ⟨rfl, ?_⟩
    have eL' := o' _ _ eL6 nL
    with_reducible refine go_yes (go_iteT (go_callC (go_cons (go_var rfl ?_))))
    with_reducible refine go_cons (go_op (go_cb (go_cons (go_var rfl ?_))))
    with_reducible refine go_nil ?_
    (with_reducible refine' go_lenL ?hp ?_); (case hp => walk_at "lw_hp")
    with_reducible refine go_c (go_i0 (go_nil ?_))
    simp only [List.length_map]
    refine nx_go D' (by omega) (by omega) (fun x H7 a7 b7 D7 o7 => ?_)
    skip
    have eG7 := o7 _ _ eG nG
    refine go_lcA eG7 (small_line (by simp; omega)) ?_
    refine ⟨F ++ [x], by rw [upd_same, List.map_append]; rfl, by simp [hl'], fun y hy => ?_, D7.updL eG7 nG.symm, off_fresh hG (o'.trans o7)⟩
    rcases List.mem_append.mp hy with hy | hy
    · exact hF y hy
    · have e : y = x := by simpa using hy
      omega
  rintro H7 ⟨F, eG, hl', hF, D7, o7⟩
  have o7' := o6'.trans o7
  have eL7 := o7 _ _ eL6 nL
  clear o7 hG e2
  with_reducible refine go_nil ?_
  refine go_sorted eG (by omega) (fun F' q pm so hq => ?_)
  have nq : q ≠ d := D7.nef hq
  have fq : H q = none := off_free o7' D7 hq
  have nLq : L ≠ q := ne_of_none eL7 hq
  have D8 := D7.same (same_new hq (.lst (F'.map V.int)))
  have o8 : Off d H (upd H7 q (.lst (F'.map V.int))) := o7'.trans (same_new hq _).off
  have eL8 : upd H7 q (.lst (F'.map V.int)) L = some (.lst (W.map V.int)) := upd_new hq eL7
  have eq8 : upd H7 q (.lst (F'.map V.int)) q = some (.lst (F'.map V.int)) := upd_same
  generalize upd H7 q (.lst (F'.map V.int)) = H8 at *
  with_reducible refine go_gname (go_ret (go_tup (go_cons (go_var rfl ?_))))
  with_reducible refine go_cons (go_var rfl (go_cons (go_op (go_lst ?_))))
  with_reducible refine go_cons (go_callC (go_cons (go_var rfl (go_cons ?_))))
  with_reducible refine go_c (go_nil ?_)
  refine nx_go D8 (by omega) (by omega) (fun c1 H9 a9 b9 D9 o9 => ?_)
  with_reducible refine go_cons (go_callC (go_cons (go_var rfl (go_cons ?_))))
  with_reducible refine go_c (go_nil ?_)
  refine nx_go D9 (by omega) (by omega) (fun c2 H10 a10 b10 D10 o10 => ?_)
  with_reducible refine go_cons (go_callC (go_cons (go_var rfl (go_cons ?_))))
  with_reducible refine go_c (go_nil ?_)
  refine nx_go D10 (by omega) (by omega) (fun c3 H11 a11 b11 D11 o11 => ?_)
  with_reducible refine go_nil ?_
  refine go_qlst (Nat.le_of_ble_eq_true rfl) (fun p3 hp3 => ?_)
  with_reducible refine go_callC (go_cons (go_var rfl (go_cons (go_c ?_))))
  with_reducible refine go_nil ?_
  refine nx_go (D11.same (same_new hp3 _)) (by omega) (by omega) (fun c4 H12 a12 b12 D12 o12 => ?_)
  have e3 : H12 p3 = some (.lst [.int c1, .int c2, .int c3]) := o12 _ _ upd_same (D11.nef hp3)
  have o12' : Off d H8 H12 := ((o9.trans o10).trans o11).trans ((same_new hp3 _).off.trans o12)
  obtain ⟨pr, hpr, pr0, pr1⟩ : ∃ z, atI [V.int c1, V.int c2, V.int c3] c4 = some (.int z) ∧ 0 ≤ z ∧ z ≤ 999 := by
    obtain ⟨z, hz, hz'⟩ := at_three (x := V.int c1) (y := V.int c2) (z := V.int c3) a12 b12
    rcases hz' with rfl | rfl | rfl
    · exact ⟨_, hz, by omega, by omega⟩
    · exact ⟨_, hz, by omega, by omega⟩
    · exact ⟨_, hz, by omega, by omega⟩
  clear o9 o10 o11 o12 hp3
  (with_reducible refine' go_ixL ?hp ?ha ?_); (case hp => walk_at "lw_hp"); (case ha => first | rfl | assumption)
  with_reducible refine go_nil ?_
  refine go_qtup (Nat.le_of_ble_eq_true rfl) (fun rr hrr => ?_)
  refine k rr L q _ W F' pr ((o8.trans o12').trans (same_new hrr _).off) (D12.same (same_new hrr _)) upd_same (upd_new hrr (o12' _ _ eL8 nL)) (upd_new hrr (o12' _ _ eq8 nq)) fL fq nLq (by omega) ⟨hW, by rw [pm.length_eq]; omega, fun x hx => hF x (pm.mem_iff.mp hx), so, pr0, pr1⟩
end
end Lw
set_option Elab.async false
set_option linter.all false
set_option maxRecDepth 100000
set_option maxHeartbeats 8000000
namespace Lw
open PySem L2
local macro_rules | `(tactic| walk_at "lw_hp") => `(tactic| (repeat (first | assumption | exact upd_same | (refine' upd_new (by assumption) ?_) | (refine' tup_off (by assumption) (by assumption) ?_) | (refine' lst_off (by assumption) (by assumption) (by assumption) ?_) | (refine' Same.get (by assumption) ?_) | (refine' Off.get (by assumption) (by assumption) ?_) | (refine' upd_oth (by assumption) ?_))))
abbrev s__law_bad_weights : Stmt := top 34
def spBW (K : PySem.W.Frag) : Sp := fun vs H Q _ => ∃ (d a : Addr) (W : List Int) (far : Int), vs = [.ref d, .ref a, .int far] ∧ Dice K H d ∧ H a = some (.lst (W.map V.int)) ∧ a ≠ d ∧ W.length ≤ 12 ∧ (∀ x ∈ W, 1 ≤ x ∧ x ≤ 99) ∧ 0 ≤ far ∧ far ≤ 1000000 ∧
  ∀ (r b : Addr) (n : Nat) (xs : List V) (H' : Hp), Off d H H' → Dice K H' d → H' r = some (.tup [.ref b, .int n]) → H' b = some (.lst xs) → H b = none → WBad xs n → Q (.ref r) H'
theorem at_mem {xs : List V} {r : Int} (h0 : 0 ≤ r) (h1 : r < xs.length) : ∃ v, v ∈ xs ∧ atI xs r = some v := by
  obtain ⟨n, rfl⟩ := Int.eq_ofNat_of_zero_le h0
  have hn : n < xs.length := by simpa using h1
  exact ⟨xs[n], List.getElem_mem hn, by rw [← Int.zero_add (n : Int)]; exact atI_0n (List.getElem?_eq_getElem hn)⟩
theorem pla_int (n : Int) : PlA (.int n) := fun _ => .inl ⟨n, rfl⟩
theorem pla_bl (b : Bool) : PlA (.bl b) := fun _ => .inr (.inl ⟨b, rfl⟩)
theorem pla_non : PlA .non := fun _ => .inr (.inr (.inl rfl))
theorem pla_ints (l : List Int) : ∀ y ∈ l.map V.int, PlA y := fun y hy => by
  obtain ⟨n, _, rfl⟩ := List.mem_map.mp hy
  exact pla_int n
theorem mid_at {pre : List V} {o : V} {rest : List V} : (pre ++ [o] ++ rest)[pre.length]? = some o := by simp
theorem mid_lt {pre : List V} {o : V} {rest : List V} {j : Nat} (h : j < pre.length) : (pre ++ [o] ++ rest)[j]? = pre[j]? := by
  rw [List.append_assoc, List.getElem?_append_left h]
theorem wbad_of {pre : List Int} {o : V} {rest : List V} (h : ∀ x ∈ pre, 1 ≤ x ∧ x ≤ 99) (l : pre.length ≤ 60) (ho : numV o 1 99 = false) (po : PlA o) (pr : ∀ y ∈ rest, PlA y) : WBad (pre.map V.int ++ [o] ++ rest) pre.length := by
  refine ⟨⟨o, ?_, .inr ho⟩, l, fun j y hj e => ?_, fun y hy => ?_⟩
  · have := mid_at (pre := pre.map V.int) (o := o) (rest := rest)
    rwa [List.length_map] at this
  · rw [mid_lt (by simpa using hj)] at e
    obtain ⟨n, rfl, hn⟩ := int_of e
    have := h n (List.mem_of_getElem? hn)
    exact decide_eq_true this
  · rcases List.mem_append.mp hy with hy | hy
    · rcases List.mem_append.mp hy with hy | hy
      · exact pla_ints _ y hy
      · rw [List.mem_singleton.mp hy]; exact po
    · exact pr y hy
theorem wbad_rep {k : Int} (h : 61 ≤ k) : WBad (List.replicate k.toNat (V.int 99)) 60 := by
  refine ⟨⟨.int 99, ?_, .inl rfl⟩, Nat.le_refl _, fun j y hj e => ?_, fun y hy => ?_⟩
  · rw [List.getElem?_replicate, if_pos (by omega)]
  · rw [List.eq_of_mem_replicate (List.mem_of_getElem? e)]; rfl
  · rw [List.eq_of_mem_replicate hy]; exact pla_int _
section
variable {P : Program} {w : World} {K : PySem.W.Frag} {mg : Str → Option Value} {base : Heap} {f : Addr} {fd : FuncData}
theorem scs__law_bad_weights : FnScope ["_law_d", "_law_weights", "_law_far", "_law_odd", "_law_at"] ["_law_d", "_law_weights", "_law_far"] (defScope s__law_bad_weights) := ⟨rfl, rfl, rfl, by decide +kernel, rfl, by decide +kernel, by decide +kernel⟩
theorem ok_bw (F : Fun K "_law_bad_weights" "_law_bad_weights" s__law_bad_weights f fd) (T : Txt mg) (C_law_next : FnC P w K mg base 1 "_law_next" ["_law_dice_here", "_law_many"] (spNext K)) : FnOk P w K mg base CX0 2 f fd ["_law_d", "_law_weights", "_law_far"] (spBW K) := by
  refine F.ok scs__law_bad_weights (fun vs H Q E h => ?_) (fun cdv A outer s H vs Q E hr h => ?_)
  · obtain ⟨d, a, W, far, rfl, _⟩ := h
    rfl
  obtain ⟨d, a, W, far, rfl, D, ha, nad, hW, hb, f0, f1, k⟩ := h
  have nd := scs__law_bad_weights.nd
  have hu := hu_of hr
  refine ⟨_, (pss_cons (ps_set (i := 3) nd rfl (Or.inl rfl) (pe_ix (kIxL K) (pe_lst (pa_cons pe_int (pa_cons (pe_op op_add pe_int (pv 2)) (pa_cons (pe_op op_sub (pe_un un_neg pe_int) (pv 2)) (pa_cons pe_bl (pa_cons pe_non pa_nil)))))) (pe_callC C_law_next (hr.mono (by omega)) (by rfl) (pa_cons (pv 0) (pa_cons pe_int pa_nil))) (fun _ _ => rfl)))
      (pss_cons (ps_set (i := 4) nd rfl (Or.inl rfl) (pe_ix (kIxL K) (pe_lst (pa_cons (pe_callC C_law_next (hr.mono (by omega)) (by rfl) (pa_cons (pv 0) (pa_cons (pe_op op_add (pe_callB (kLen K) (by rfl) T.n_len (by decide +kernel) (pa_cons (pv 1) pa_nil)) pe_int) pa_nil))) (pa_cons (pe_callB (kLen K) (by rfl) T.n_len (by decide +kernel) (pa_cons (pv 1) pa_nil)) pa_nil))) (pe_callC C_law_next (hr.mono (by omega)) (by rfl) (pa_cons (pv 0) (pa_cons pe_int pa_nil))) (fun _ _ => rfl)))
      (pss_cons (ps_if (pt_cmpR op_eq (pe_callC C_law_next (hr.mono (by omega)) (by rfl) (pa_cons (pv 0) (pa_cons pe_int pa_nil))) pe_int (nomark _)) (pss_one (ps_ret (pe_tup (pa_cons (pe_op op_rep (pe_lst (pa_cons pe_int pa_nil)) (pe_op op_add pe_int (pe_callC C_law_next (hr.mono (by omega)) (by rfl) (pa_cons (pv 0) (pa_cons pe_int pa_nil))))) (pa_cons pe_int pa_nil))))) pss_nil)
      (pss_one (ps_ret (pe_tup (pa_cons (pe_op op_cat (pe_op op_cat (pe_slice (kSlL K) (pv 1) po_none (po_some (pv 4))) (pe_lst (pa_cons (pv 3) pa_nil))) (pe_slice (kSlL K) (pv 1) (po_some (pe_op op_add (pv 4) (pe_callC C_law_next (hr.mono (by omega)) (by rfl) (pa_cons (pv 0) (pa_cons pe_int pa_nil))))) po_none)) (pa_cons (pv 4) pa_nil)))))))), ?_⟩
  with_reducible refine go_seq (go_asg (go_op (go_lst (go_cons ?_))))
  with_reducible refine go_c (go_cons (go_op (go_c (go_var rfl ?_))))
  with_reducible refine go_i0 (go_cons (go_op (go_un (go_c ?_))))
  with_reducible refine go_u (go_var rfl (go_i0 (go_cons (go_c ?_))))
  with_reducible refine go_cons (go_c (go_nil ?_))
  refine go_qlst (Nat.le_of_ble_eq_true rfl) (fun p1 hp1 => ?_)
  with_reducible refine go_callC (go_cons (go_var rfl (go_cons (go_c ?_))))
  with_reducible refine go_nil ?_
  refine nx_go (D.same (same_new hp1 _)) (by omega) (by omega) (fun r1 H1 a1 b1 D1 o1 => ?_)
  have e1 := o1 _ _ (upd_same (H := H)) (D.nef hp1)
  have ha1 := o1 _ _ (upd_new hp1 ha) nad
  have o1' : Off d H H1 := (same_new hp1 _).off.trans o1
  skip
  obtain ⟨odd, hodd, eodd⟩ := at_mem (xs := [V.int 0, V.int (100 + far), V.int (-1 - far), V.bl true, V.non]) a1 b1
  have od : numV odd 1 99 = false ∧ PlA odd := by
    simp only [List.mem_cons, List.not_mem_nil, or_false] at hodd
    rcases hodd with rfl | rfl | rfl | rfl | rfl
    · exact ⟨rfl, pla_int _⟩
    · exact ⟨decide_eq_false (by omega), pla_int _⟩
    · exact ⟨decide_eq_false (by omega), pla_int _⟩
    · exact ⟨rfl, pla_bl _⟩
    · exact ⟨rfl, pla_non⟩
  clear o1 hodd
  refine go_ixL e1 eodd ?_
  with_reducible refine go_gname (go_seq (go_asg (go_op (go_lst ?_))))
  with_reducible refine go_cons (go_callC (go_cons (go_var rfl (go_cons ?_))))
  with_reducible refine go_op (go_cb (go_cons (go_var rfl (go_nil ?_))))
  (with_reducible refine' go_lenL ?hp ?_); (case hp => walk_at "lw_hp")
  with_reducible refine go_c (go_i0 (go_nil ?_))
  simp only [List.length_map]
  refine nx_go D1 (by omega) (by omega) (fun r2 H2 a2 b2 D2 o2 => ?_)
  have ha2 := o2 _ _ ha1 nad
  have o2' := o1'.trans o2
  with_reducible refine go_cons (go_cb (go_cons (go_var rfl (go_nil ?_))))
  (with_reducible refine' go_lenL ?hp ?_); (case hp => walk_at "lw_hp")
  with_reducible refine go_nil ?_
  refine go_qlst (Nat.le_of_ble_eq_true rfl) (fun p2 hp2 => ?_)
  with_reducible refine go_callC (go_cons (go_var rfl (go_cons (go_c ?_))))
  with_reducible refine go_nil ?_
  refine nx_go (D2.same (same_new hp2 _)) (by omega) (by omega) (fun r3 H3 a3 b3 D3 o3 => ?_)
  have e3 := o3 _ _ (upd_same (H := H2)) (D2.nef hp2)
  have ha3 := o3 _ _ (upd_new hp2 ha2) nad
  have o3' : Off d H H3 := o2'.trans ((same_new hp2 _).off.trans o3)
  simp only [List.length_map] at e3
  obtain ⟨at_, hat, at0, at1⟩ : ∃ z : Int, atI [V.int r2, V.int W.length] r3 = some (.int z) ∧ 0 ≤ z ∧ z ≤ W.length := by
    obtain ⟨z, hz, hz'⟩ := at_two (x := V.int r2) (y := V.int W.length) a3 b3
    rcases hz' with rfl | rfl
    · exact ⟨_, hz, by omega, by omega⟩
    · exact ⟨_, hz, by omega, by omega⟩
  clear o2 o3 hp2 e1
  refine go_ixL e3 hat ?_
  with_reducible refine go_gname (go_seq (go_ifS (go_test (go_op ?_))))
  with_reducible refine go_callC (go_cons (go_var rfl (go_cons (go_c ?_))))
  with_reducible refine go_nil ?_
  refine nx_go D3 (by omega) (by omega) (fun r4 H4 a4 b4 D4 o4 => ?_)
  have ha4 := o4 _ _ ha3 nad
  have o4' := o3'.trans o4
  with_reducible refine go_c (go_eqI (go_qb ?_))
  refine go_iteD (fun cc => ?_) (fun cc => ?_)
  · with_reducible refine go_ret (go_tup (go_cons (go_op (go_lst ?_))))
    with_reducible refine go_cons (go_c (go_nil ?_))
    refine go_qlst (Nat.le_of_ble_eq_true rfl) (fun p3 hp3 => ?_)
    with_reducible refine go_op (go_c (go_callC (go_cons (go_var rfl ?_))))
    with_reducible refine go_cons (go_c (go_nil ?_))
    refine nx_go (D4.same (same_new hp3 _)) (by omega) (by omega) (fun r5 H5 a5 b5 D5 o5 => ?_)
    have e5 := o5 _ _ (upd_same (H := H4)) (D4.nef hp3)
    have o5' : Off d H H5 := o4'.trans ((same_new hp3 _).off.trans o5)
    with_reducible refine go_i0 ?_
    refine go_rep1 e5 (by omega) (by omega) (fun q hq => ?_)
    with_reducible refine go_cons (go_c (go_nil ?_))
    refine go_qtup (Nat.le_of_ble_eq_true rfl) (fun t ht => ?_)
    have hs := (same_new hq (.lst (List.replicate (61 + r5).toNat (V.int 99)))).trans (same_new ht (.tup [.ref q, .int 60]))
    exact k t q 60 _ _ (o5'.trans hs.off) (D5.same hs) upd_same (upd_new ht upd_same) (off_free o5' D5 hq) (wbad_rep (by omega))
  · with_reducible refine go_next (go_ret (go_tup (go_cons (go_op ?_))))
    with_reducible refine go_op (go_sl (go_var rfl (go_nopart (go_part ?_))))
    with_reducible refine go_var rfl (go_qI ?_)
    refine go_slL ha4 (fun q1 hq1 => ?_)
    rw [cut_to at0]
    with_reducible refine go_lst (go_cons (go_var rfl (go_nil ?_)))
    refine go_qlst (Nat.le_of_ble_eq_true rfl) (fun q2 hq2 => ?_)
    skip
    refine go_cat (by walk_at "lw_hp") (by walk_at "lw_hp") (small_le (by rw [List.length_take, List.length_map]; show _ + 1 ≤ _; omega)) (fun q3 hq3 => ?_)
    have s3 := ((same_new hq1 (.lst ((W.map V.int).take at_.toNat))).trans (same_new hq2 (.lst [odd]))).trans (same_new hq3 (.lst ((W.map V.int).take at_.toNat ++ [odd])))
    with_reducible refine go_sl (go_var rfl (go_part (go_op (go_var rfl ?_))))
    with_reducible refine go_callC (go_cons (go_var rfl (go_cons (go_c ?_))))
    with_reducible refine go_nil ?_
    refine nx_go (D4.same s3) (by omega) (by omega) (fun r5 H5 a5 b5 D5 o5 => ?_)
    have e5 := o5 _ _ (upd_same (H := upd (upd H4 q1 (.lst ((W.map V.int).take at_.toNat))) q2 (.lst [odd]))) ((D4.same ((same_new hq1 (.lst ((W.map V.int).take at_.toNat))).trans (same_new hq2 (.lst [odd])))).nef hq3)
    have ha5 := o5 _ _ (s3 _ _ ha4) nad
    have o5' := (o4'.trans s3.off).trans o5
    with_reducible refine go_i0 (go_qI (go_nopart ?_))
    refine go_slL ha5 (fun q4 hq4 => ?_)
    rw [cut_from (by omega)]
    skip
    refine go_cat (by walk_at "lw_hp") (by walk_at "lw_hp") (small_le (by simp; omega)) (fun q5 hq5 => ?_)
    with_reducible refine go_cons (go_var rfl (go_nil ?_))
    refine go_qtup (Nat.le_of_ble_eq_true rfl) (fun t ht => ?_)
    have s6 := ((same_new hq4 (.lst ((W.map V.int).drop (at_ + r5).toNat))).trans (same_new hq5 (.lst (((W.map V.int).take at_.toNat ++ [odd]) ++ (W.map V.int).drop (at_ + r5).toNat)))).trans (same_new ht (.tup [.ref q5, .int at_]))
    have wb := wbad_of (pre := W.take at_.toNat) (o := odd) (rest := (W.map V.int).drop (at_ + r5).toNat) (fun x hx => hb x (List.mem_of_mem_take hx)) (by rw [List.length_take]; omega) od.1 od.2 (fun y hy => pla_ints W y (List.mem_of_mem_drop hy))
    have el : (W.take at_.toNat).length = at_.toNat := by rw [List.length_take]; omega
    rw [el, List.map_take] at wb
    refine k t q5 at_.toNat _ _ (o5'.trans s6.off) (D5.same s6) ?_ (upd_new ht upd_same) (off_free o5' D5 (Same.free (H := H5) (same_new hq4 _) hq5)) wb
    rw [Int.toNat_of_nonneg at0]
    exact upd_same
end
end Lw
set_option Elab.async false
set_option linter.all false
set_option maxRecDepth 100000
set_option maxHeartbeats 8000000
namespace Lw
open PySem L2
local macro_rules | `(tactic| walk_at "lw_hp") => `(tactic| (repeat (first | assumption | exact upd_same | (refine' upd_new (by assumption) ?_) | (refine' tup_off (by assumption) (by assumption) ?_) | (refine' lst_off (by assumption) (by assumption) (by assumption) ?_) | (refine' Same.get (by assumption) ?_) | (refine' Off.get (by assumption) (by assumption) ?_) | (refine' upd_oth (by assumption) ?_))))
local macro_rules | `(tactic| walk_at "lw_go") => `(tactic| (repeat (first | (with_reducible (first | refine go_var rfl ?_ | refine go_c ?_ | refine go_cons ?_ | refine go_op ?_ | refine go_nil ?_ | refine go_seq ?_ | refine go_qb ?_ | refine go_test ?_ | refine go_ifS ?_ | refine go_gname ?_ | refine go_cb ?_)) | ((with_reducible refine' go_ixT ?hp ?ha ?_); (case hp => walk_at "lw_hp"); (case ha => first | rfl | assumption)) | (with_reducible (first | refine go_asg ?_ | refine go_callC ?_ | refine go_next ?_ | refine go_tup ?_ | refine go_i0 ?_ | refine go_ret ?_ | refine go_dget ?_ | refine go_gcons ?_ | refine go_gsub ?_ | refine go_testB ?_)) | ((with_reducible refine' go_ixL ?hp ?ha ?_); (case hp => walk_at "lw_hp"); (case ha => first | rfl | assumption)) | (with_reducible (first | refine' go_ixLs (by assumption) (by assumption) ?_ | refine go_lst ?_)) | ((with_reducible refine' go_i ?cc ?_); (case cc => first | omega | (simp only [CDiv, CMul, CPow]; omega) | (simp only [CDiv, CMul, CPow]; decide))) | (with_reducible (first | refine go_drop ?_ | refine go_eqI ?_ | refine go_eqS ?_ | refine go_eqB ?_ | refine go_eq (by rfl) ?_ | refine go_gnil ?_ | refine go_iteT ?_ | refine go_iteF ?_ | refine go_iteNt ?_ | refine go_iteNf ?_ | refine go_iteNN ?_)) | (with_reducible refine go_iteDT (by first | assumption | rfl | omega | (simp only [List.length_cons, List.length_nil, List.length_map]; omega)) ?_) | (with_reducible refine go_iteDF (by first | assumption | omega | decide | decide +kernel | (simp only [List.length_cons, List.length_nil, List.length_map]; omega)) ?_) | (with_reducible refine go_iteNT (by first | assumption | rfl | omega | (simp only [List.length_cons, List.length_nil, List.length_map]; omega)) ?_) | (with_reducible refine go_iteNF (by first | assumption | omega | decide | decide +kernel | (simp only [List.length_cons, List.length_nil, List.length_map]; omega)) ?_) | (with_reducible refine go_iteBT (by first | assumption | decide +kernel) ?_) | (with_reducible refine go_iteBF (by first | assumption | decide +kernel) ?_) | (with_reducible (first | refine go_dput ?_ | refine go_setD ?_)) | ((with_reducible refine' go_gtup ?hp ?ha ?_); (case hp => walk_at "lw_hp"); (case ha => first | rfl | assumption)) | (with_reducible refine go_if ?_) | ((with_reducible refine' go_setL ?hp ?ha ?_); (case hp => walk_at "lw_hp"); (case ha => first | rfl | assumption)) | (with_reducible (first | refine go_not ?_ | refine go_or ?_ | refine go_andV ?_ | refine go_sl ?_ | refine go_nopart ?_ | refine go_part ?_ | refine go_qI ?_ | refine' go_lenLs (by assumption) ?_)) | ((with_reducible refine' go_lenL ?hp ?_); (case hp => walk_at "lw_hp")) | ((with_reducible refine' go_lenT ?hp ?_); (case hp => walk_at "lw_hp")) | ((with_reducible refine' go_inT ?hp ?ha ?hb ?_); (case hp => walk_at "lw_hp"); (case ha => rfl); (case hb => rfl)) | ((with_reducible refine' go_notInT ?hp ?ha ?hb ?_); (case hp => walk_at "lw_hp"); (case ha => rfl); (case hb => rfl)) | (with_reducible (first | refine go_pnil ?_ | refine go_pcons ?_ | refine go_un ?_ | refine go_u ?_ | refine go_for ?_ | refine go_rng1 ?_ | refine go_qrng1 (by omega) (by omega) ?_ | refine go_notN_non ?_ | refine go_notN_int ?_ | refine go_notN_str ?_ | refine go_notN_bl ?_ | refine go_notN_ref ?_ | refine go_min ?_ | refine go_bm ?_ | refine go_lc ?_)) | ((with_reducible refine' go_qbm ?hp ?_); (case hp => walk_at "lw_hp")) | (with_reducible (first | refine go_int ?_ | refine go_intB ?_ | refine go_yes ?_ | refine go_and ?_ | refine go_notV ?_ | refine go_iL ?_)) | ((with_reducible refine' go_glst ?hp ?ha ?_); (case hp => walk_at "lw_hp"); (case ha => first | rfl | assumption)) | ((with_reducible refine' go_qiL ?hp ?_); (case hp => walk_at "lw_hp")) | (with_reducible (first | refine go_par ?_ | refine go_gpar ?_ | refine go_isN_non ?_ | refine go_isN_int ?_ | refine go_isN_str ?_ | refine go_isN_bl ?_ | refine go_isN_ref ?_ | refine go_neI ?_ | refine go_neS ?_ | refine go_neB ?_ | refine go_iT ?_ | refine go_ne (by rfl) ?_)) | ((with_reducible refine' go_ixAL ?hp ?ha ?_); (case hp => walk_at "lw_hp"); (case ha => first | rfl | assumption)) | ((with_reducible refine' go_ixAT ?hp ?ha ?_); (case hp => walk_at "lw_hp"); (case ha => first | rfl | assumption)) | ((with_reducible refine' go_qiT ?hp ?_); (case hp => walk_at "lw_hp")) | (with_reducible (first | refine go_is_non_int ?_ | refine go_is_non_bool ?_ | refine go_is_non_str ?_ | refine go_is_non_tuple ?_ | refine go_is_non_list ?_ | refine go_is_bl_int ?_ | refine go_is_bl_bool ?_ | refine go_is_bl_str ?_ | refine go_is_bl_tuple ?_ | refine go_is_bl_list ?_ | refine go_is_int_int ?_ | refine go_is_int_bool ?_ | refine go_is_int_str ?_ | refine go_is_int_tuple ?_ | refine go_is_int_list ?_ | refine go_is_str_int ?_ | refine go_is_str_bool ?_ | refine go_is_str_str ?_ | refine go_is_str_tuple ?_ | refine go_is_str_list ?_)) | ((with_reducible refine' go_is_lst_int ?hp ?_); (case hp => walk_at "lw_hp")) | ((with_reducible refine' go_is_lst_bool ?hp ?_); (case hp => walk_at "lw_hp")) | ((with_reducible refine' go_is_lst_str ?hp ?_); (case hp => walk_at "lw_hp")) | ((with_reducible refine' go_is_lst_tuple ?hp ?_); (case hp => walk_at "lw_hp")) | ((with_reducible refine' go_is_lst_list ?hp ?_); (case hp => walk_at "lw_hp")) | ((with_reducible refine' go_is_tup_int ?hp ?_); (case hp => walk_at "lw_hp")) | ((with_reducible refine' go_is_tup_bool ?hp ?_); (case hp => walk_at "lw_hp")) | ((with_reducible refine' go_is_tup_str ?hp ?_); (case hp => walk_at "lw_hp")) | ((with_reducible refine' go_is_tup_tuple ?hp ?_); (case hp => walk_at "lw_hp")) | ((with_reducible refine' go_is_tup_list ?hp ?_); (case hp => walk_at "lw_hp")) | (with_reducible (first | refine go_max ?_ | refine go_bm0 ?_ | refine go_chain ?_ | refine go_qch ?_)) | ((with_reducible refine' go_qbm0 ?hp ?_); (case hp => walk_at "lw_hp")) | (with_reducible (first | refine go_retN ?_ | refine go_orV ?_ | refine go_whQ ?_ | refine go_rng2 ?_ | refine go_qrng2 (by omega) (by omega) (by omega) (by omega) ?_ | refine go_rvr ?_ | refine go_qrvr (by omega) (by omega) ?_ | refine go_fcons ?_ | refine go_fv ?_ | refine go_m0 ?_ | refine go_m1 ?_ | refine go_qm0 ?_ | refine go_qm1 ?_ | refine go_digit ?_ | refine go_ascii ?_ | refine go_starts ?_ | refine go_star ?_ | refine go_rvL ?_ | refine go_dninK ?_ | refine go_rng3 ?_ | refine go_qrng3 (by omega) (by omega) (by omega) (by omega) ?_ | refine go_lr2 ?_ | refine go_enum ?_ | refine go_aug rfl ?_ | refine go_ipI ?_)) | ((with_reducible refine' go_qenum ?hp ?_); (case hp => walk_at "lw_hp")) | ((with_reducible refine' go_sumL ?hp ?_); (case hp => walk_at "lw_hp")))))
abbrev s__law_bad_falls : Stmt := top 35
abbrev s__law_bad_marks : Stmt := top 36
theorem lowAt_pre {pre : List Int} {rest : List V} {j : Nat} {z : Int} (h : pre[j]? = some z) : lowAt 0 (pre.map V.int ++ rest) (j + 1) = z := by
  have hj := (List.getElem?_eq_some_iff.mp h).1
  refine lowAt_succ ?_
  rw [List.getElem?_append_left (by simpa using hj), List.getElem?_map, h]
  rfl
theorem lowMk_pre {pre : List Int} {rest : List V} {j : Nat} {z : Int} (h : pre[j]? = some z) : lowMk (pre.map V.int ++ rest) (j + 1) = z + 1 := by
  have hj := (List.getElem?_eq_some_iff.mp h).1
  refine lowMk_succ ?_
  rw [List.getElem?_append_left (by simpa using hj), List.getElem?_map, h]
  rfl
theorem low_bd {pre : List Int} {rest : List V} {m : Int} (h : ∀ x ∈ pre, 0 ≤ x ∧ x ≤ m) (m0 : 0 ≤ m) {j : Nat} (hj : j ≤ pre.length) : 0 ≤ lowAt 0 (pre.map V.int ++ rest) j ∧ lowAt 0 (pre.map V.int ++ rest) j ≤ m := by
  cases j with
  | zero => exact ⟨Int.le_refl 0, m0⟩
  | succ j =>
    have e := List.getElem?_eq_getElem (l := pre) (i := j) (by omega)
    rw [lowAt_pre e]
    exact h _ (List.getElem_mem _)
theorem pre_ok {pre : List Int} {rest : List V} {m : Int} (h : ∀ x ∈ pre, 0 ≤ x ∧ x ≤ m) (so : pre.Pairwise (· ≤ ·)) : ∀ j y, j < pre.length → (pre.map V.int ++ rest)[j]? = some y → numV y (lowAt 0 (pre.map V.int ++ rest) j) m = true := by
  intro j y hj e
  rw [List.getElem?_append_left (by simpa using hj)] at e
  obtain ⟨n, rfl, hn⟩ := int_of e
  have b := h n (List.mem_of_getElem? hn)
  cases j with
  | zero => exact decide_eq_true b
  | succ j =>
    have e2 := List.getElem?_eq_getElem (l := pre) (i := j) (by omega)
    rw [lowAt_pre e2]
    obtain ⟨h2, e3⟩ := List.getElem?_eq_some_iff.mp hn
    have := List.pairwise_iff_getElem.mp so j (j + 1) (by omega) h2 (by omega)
    rw [e3] at this
    exact decide_eq_true ⟨this, b.2⟩
theorem fbad_of {pre : List Int} {o : V} {rest : List V} {m : Int} (h : ∀ x ∈ pre, 0 ≤ x ∧ x ≤ m) (m0 : 0 ≤ m) (so : pre.Pairwise (· ≤ ·)) (l : pre.length ≤ 20) (ho : ∀ lo, 0 ≤ lo → numV o lo m = false) (po : PlA o) (pr : ∀ y ∈ rest, PlA y) : FBad (pre.map V.int ++ [o] ++ rest) m pre.length := by
  refine ⟨⟨o, ?_, .inr ?_⟩, l, ?_, fun y hy => ?_⟩
  · have := mid_at (pre := pre.map V.int) (o := o) (rest := rest)
    rwa [List.length_map] at this
  · rw [List.append_assoc]
    exact ho _ (low_bd h m0 (Nat.le_refl _)).1
  · rw [List.append_assoc]
    exact pre_ok h so
  · rcases List.mem_append.mp hy with hy | hy
    · rcases List.mem_append.mp hy with hy | hy
      · exact pla_ints _ y hy
      · rw [List.mem_singleton.mp hy]; exact po
    · exact pr y hy
theorem fbad_rep {m : Int} (h : 0 ≤ m) : FBad (List.replicate 21 (V.int 0)) m 20 := by
  have lo : ∀ j, lowAt 0 (List.replicate 21 (V.int 0)) j = 0 := fun j => by
    cases j with
    | zero => rfl
    | succ j =>
      by_cases hj : j < 21
      · exact lowAt_succ (by rw [List.getElem?_replicate, if_pos hj])
      · have e : (List.replicate 21 (V.int 0))[j]? = none := by rw [List.getElem?_replicate, if_neg hj]
        show (match (List.replicate 21 (V.int 0))[j]? with | some (.int z) => z | _ => 0) = 0
        rw [e]
  refine ⟨⟨.int 0, rfl, .inl rfl⟩, Nat.le_refl _, fun j y hj e => ?_, fun y hy => ?_⟩
  · rw [List.eq_of_mem_replicate (List.mem_of_getElem? e), lo]
    exact decide_eq_true ⟨Int.le_refl 0, h⟩
  · rw [List.eq_of_mem_replicate hy]; exact pla_int _
theorem fbad_back {F : List Int} {m : Int} (h : ∀ x ∈ F, 0 ≤ x ∧ x ≤ m) (m0 : 0 < m) (so : F.Pairwise (· ≤ ·)) (l : F.length ≤ 20) : FBad (F.map V.int ++ [.int m, .int (m - 1)]) m (min 20 (F.length + 1)) := by
  have h2 : ∀ x ∈ F ++ [m], 0 ≤ x ∧ x ≤ m := fun x hx => by
    rcases List.mem_append.mp hx with hx | hx
    · exact h x hx
    · rw [List.mem_singleton.mp hx]; omega
  have so2 : (F ++ [m]).Pairwise (· ≤ ·) := List.pairwise_append.mpr ⟨so, List.pairwise_singleton _ _, fun a ha b hb => by rw [List.mem_singleton.mp hb]; exact (h a ha).2⟩
  have e : F.map V.int ++ [.int m, .int (m - 1)] = (F ++ [m]).map V.int ++ [.int (m - 1)] := by simp
  have l2 : (F ++ [m]).length = F.length + 1 := by simp
  have pl : ∀ y ∈ F.map V.int ++ [.int m, .int (m - 1)], PlA y := fun y hy => by
    rcases List.mem_append.mp hy with hy | hy
    · exact pla_ints _ y hy
    · simp at hy
      rcases hy with rfl | rfl <;> exact pla_int _
  have ok := pre_ok (rest := [.int (m - 1)]) h2 so2
  rw [← e] at ok
  refine ⟨?_, Nat.min_le_left _ _, fun j y hj => ok j y (by omega), pl⟩
  by_cases c : F.length = 20
  · refine ⟨.int m, ?_, .inl (by omega)⟩
    rw [show min 20 (F.length + 1) = F.length by omega]
    simp
  · rw [show min 20 (F.length + 1) = F.length + 1 by omega]
    refine ⟨.int (m - 1), ?_, .inr ?_⟩
    · rw [List.getElem?_append_right (by simp)]
      simp
    · rw [e, lowAt_pre (z := m) (by simp)]
      exact decide_eq_false (by omega)
def spBF (K : PySem.W.Frag) : Sp := fun vs H Q _ => ∃ (d a : Addr) (F : List Int) (m far : Int), vs = [.ref d, .ref a, .int m, .int far] ∧ Dice K H d ∧ H a = some (.lst (F.map V.int)) ∧ a ≠ d ∧ F.length ≤ 20 ∧ (∀ x ∈ F, 0 ≤ x ∧ x ≤ m) ∧ F.Pairwise (· ≤ ·) ∧ 0 ≤ m ∧ m ≤ 60 ∧ 0 ≤ far ∧ far ≤ 1000000 ∧
  ∀ (r b : Addr) (n : Nat) (xs : List V) (H' : Hp), Off d H H' → Dice K H' d → H' r = some (.tup [.ref b, .int n]) → H' b = some (.lst xs) → H b = none → FBad xs m n → Q (.ref r) H'
section
variable {P : Program} {w : World} {K : PySem.W.Frag} {mg : Str → Option Value} {base : Heap} {f : Addr} {fd : FuncData}
theorem scs__law_bad_falls : FnScope ["_law_d", "_law_falls", "_law_many", "_law_far", "_law_way", "_law_at", "_law_odd"] ["_law_d", "_law_falls", "_law_many", "_law_far"] (defScope s__law_bad_falls) := ⟨rfl, rfl, rfl, by decide +kernel, rfl, by decide +kernel, by decide +kernel⟩
theorem ok_bf (F : Fun K "_law_bad_falls" "_law_bad_falls" s__law_bad_falls f fd) (T : Txt mg) (C_law_next : FnC P w K mg base 1 "_law_next" ["_law_dice_here", "_law_many"] (spNext K)) : FnOk P w K mg base CX0 2 f fd ["_law_d", "_law_falls", "_law_many", "_law_far"] (spBF K) := by
  refine F.ok scs__law_bad_falls (fun vs H Q E h => ?_) (fun cdv A outer s H vs Q E hr h => ?_)
  · obtain ⟨d, a, F, m, far, rfl, _⟩ := h
    rfl
  obtain ⟨d, a, F, m, far, rfl, D, ha, nad, hF, hb, so, m0, m1, f0, f1, k⟩ := h
  have nd := scs__law_bad_falls.nd
  have hu := hu_of hr
  refine ⟨_, (pss_cons (ps_set (i := 4) nd rfl (Or.inl rfl) (pe_callC C_law_next (hr.mono (by omega)) (by rfl) (pa_cons (pv 0) (pa_cons pe_int pa_nil))))
      (pss_cons (ps_set (i := 5) nd rfl (Or.inl rfl) (pe_ix (kIxL K) (pe_lst (pa_cons (pe_callC C_law_next (hr.mono (by omega)) (by rfl) (pa_cons (pv 0) (pa_cons (pe_op op_add (pe_callB (kLen K) (by rfl) T.n_len (by decide +kernel) (pa_cons (pv 1) pa_nil)) pe_int) pa_nil))) (pa_cons (pe_callB (kLen K) (by rfl) T.n_len (by decide +kernel) (pa_cons (pv 1) pa_nil)) pa_nil))) (pe_callC C_law_next (hr.mono (by omega)) (by rfl) (pa_cons (pv 0) (pa_cons pe_int pa_nil))) (fun _ _ => rfl)))
      (pss_cons (ps_set (i := 6) nd rfl (Or.inl rfl) (pe_ix (kIxL K) (pe_lst (pa_cons (pe_op op_add (pe_op op_add (pv 2) pe_int) (pv 3)) (pa_cons (pe_op op_sub (pe_un un_neg pe_int) (pv 3)) (pa_cons pe_bl (pa_cons pe_non pa_nil))))) (pe_callC C_law_next (hr.mono (by omega)) (by rfl) (pa_cons (pv 0) (pa_cons pe_int pa_nil))) (fun _ _ => rfl)))
      (pss_cons (ps_if (pt_cmpR op_eq (pv 4) pe_int (nomark _)) (pss_one (ps_ret (pe_tup (pa_cons (pe_op op_rep (pe_lst (pa_cons pe_int pa_nil)) pe_int) (pa_cons pe_int pa_nil))))) pss_nil)
      (pss_cons (ps_if (PW.pt (pw_and (pt_cmpR op_lt (pv 4) pe_int (nomark _)) (pw_and1 (pt_cmpR op_gt (pv 2) pe_int (nomark _))))) (pss_one (ps_ret (pe_tup (pa_cons (pe_op op_cat (pv 1) (pe_lst (pa_cons (pv 2) (pa_cons (pe_op op_sub (pv 2) pe_int) pa_nil)))) (pa_cons (pe_callB (c_min rfl) (by rfl) T.n_min (by decide +kernel) (pa_cons pe_int (pa_cons (pe_op op_add (pe_callB (kLen K) (by rfl) T.n_len (by decide +kernel) (pa_cons (pv 1) pa_nil)) pe_int) pa_nil))) pa_nil))))) pss_nil)
      (pss_one (ps_ret (pe_tup (pa_cons (pe_op op_cat (pe_op op_cat (pe_slice (kSlL K) (pv 1) po_none (po_some (pv 5))) (pe_lst (pa_cons (pv 6) pa_nil))) (pe_slice (kSlL K) (pv 1) (po_some (pv 5)) po_none)) (pa_cons (pe_callB (c_min rfl) (by rfl) T.n_min (by decide +kernel) (pa_cons pe_int (pa_cons (pv 5) pa_nil))) pa_nil)))))))))), ?_⟩
  with_reducible refine go_seq (go_asg (go_callC (go_cons (go_var rfl ?_))))
  with_reducible refine go_cons (go_c (go_nil ?_))
  refine nx_go D (by omega) (by omega) (fun way H1 a1 b1 D1 o1 => ?_)
  have ha1 := o1 _ _ ha nad
  with_reducible refine go_gname (go_seq (go_asg (go_op (go_lst ?_))))
  with_reducible refine go_cons (go_callC (go_cons (go_var rfl (go_cons ?_))))
  with_reducible refine go_op (go_cb (go_cons (go_var rfl (go_nil ?_))))
  (with_reducible refine' go_lenL ?hp ?_); (case hp => walk_at "lw_hp")
  with_reducible refine go_c (go_i0 (go_nil ?_))
  simp only [List.length_map]
  refine nx_go D1 (by omega) (by omega) (fun r2 H2 a2 b2 D2 o2 => ?_)
  have ha2 := o2 _ _ ha1 nad
  have o2' := o1.trans o2
  with_reducible refine go_cons (go_cb (go_cons (go_var rfl (go_nil ?_))))
  (with_reducible refine' go_lenL ?hp ?_); (case hp => walk_at "lw_hp")
  with_reducible refine go_nil ?_
  refine go_qlst (Nat.le_of_ble_eq_true rfl) (fun p2 hp2 => ?_)
  with_reducible refine go_callC (go_cons (go_var rfl (go_cons (go_c ?_))))
  with_reducible refine go_nil ?_
  refine nx_go (D2.same (same_new hp2 _)) (by omega) (by omega) (fun r3 H3 a3 b3 D3 o3 => ?_)
  have e3 := o3 _ _ (upd_same (H := H2)) (D2.nef hp2)
  have ha3 := o3 _ _ (upd_new hp2 ha2) nad
  have o3' : Off d H H3 := o2'.trans ((same_new hp2 _).off.trans o3)
  simp only [List.length_map] at e3
  obtain ⟨at_, hat, at0, at1⟩ : ∃ z : Int, atI [V.int r2, V.int F.length] r3 = some (.int z) ∧ 0 ≤ z ∧ z ≤ F.length := by
    obtain ⟨z, hz, hz'⟩ := at_two (x := V.int r2) (y := V.int F.length) a3 b3
    rcases hz' with rfl | rfl
    · exact ⟨_, hz, by omega, by omega⟩
    · exact ⟨_, hz, by omega, by omega⟩
  clear o2 o3 hp2
  refine go_ixL e3 hat ?_
  with_reducible refine go_gname (go_seq (go_asg (go_op (go_lst ?_))))
  with_reducible refine go_cons (go_op (go_op (go_var rfl (go_c ?_))))
  with_reducible refine go_i0 (go_var rfl (go_i0 (go_cons (go_op ?_))))
  with_reducible refine go_un (go_c (go_u (go_var rfl (go_i0 ?_))))
  with_reducible refine go_cons (go_c (go_cons (go_c (go_nil ?_))))
  refine go_qlst (Nat.le_of_ble_eq_true rfl) (fun p1 hp1 => ?_)
  with_reducible refine go_callC (go_cons (go_var rfl (go_cons (go_c ?_))))
  with_reducible refine go_nil ?_
  refine nx_go (D3.same (same_new hp1 _)) (by omega) (by omega) (fun r4 H4 a4 b4 D4 o4 => ?_)
  have e4 := o4 _ _ (upd_same (H := H3)) (D3.nef hp1)
  have ha4 := o4 _ _ (upd_new hp1 ha3) nad
  have o4' : Off d H H4 := o3'.trans ((same_new hp1 _).off.trans o4)
  obtain ⟨odd, hodd, eodd⟩ := at_mem (xs := [V.int (m + 1 + far), V.int (-1 - far), V.bl true, V.non]) a4 b4
  have od : (∀ lo, 0 ≤ lo → numV odd lo m = false) ∧ PlA odd := by
    simp only [List.mem_cons, List.not_mem_nil, or_false] at hodd
    rcases hodd with rfl | rfl | rfl | rfl
    · exact ⟨fun lo h => decide_eq_false (by omega), pla_int _⟩
    · exact ⟨fun lo h => decide_eq_false (by omega), pla_int _⟩
    · exact ⟨fun _ _ => rfl, pla_bl _⟩
    · exact ⟨fun _ _ => rfl, pla_non⟩
  clear o4 hodd
  refine go_ixL e4 eodd ?_
  with_reducible refine go_gname (go_seq (go_ifS (go_test (go_op ?_))))
  with_reducible refine go_var rfl (go_c (go_eqI (go_qb ?_)))
  refine go_iteD (fun cc => ?_) (fun cc => ?_)
  · with_reducible refine go_ret (go_tup (go_cons (go_op (go_lst ?_))))
    with_reducible refine go_cons (go_c (go_nil ?_))
    refine go_qlst (Nat.le_of_ble_eq_true rfl) (fun p3 hp3 => ?_)
    with_reducible refine go_c ?_
    refine go_rep1 (by walk_at "lw_hp") (by omega) (by omega) (fun q hq => ?_)
    with_reducible refine go_cons (go_c (go_nil ?_))
    refine go_qtup (Nat.le_of_ble_eq_true rfl) (fun t ht => ?_)
    have hs := ((same_new hp3 (.lst [V.int 0])).trans (same_new hq (.lst (List.replicate (21 : Int).toNat (V.int 0))))).trans (same_new ht (.tup [.ref q, .int 20]))
    exact k t q 20 _ _ (o4'.trans hs.off) (D4.same hs) upd_same (upd_new ht upd_same) (off_free o4' D4 (Same.free (H := H4) (same_new hp3 _) hq)) (fbad_rep m0)
  rcases (by omega : (way < 3 ∧ 0 < m) ∨ (¬ way < 3) ∨ (way < 3 ∧ ¬ 0 < m)) with ⟨c2, c3⟩ | c2 | ⟨c2, c3⟩
  · with_reducible refine go_next ?_
    with_reducible refine go_seq ?_
    with_reducible refine go_ifS ?_
    with_reducible refine go_and ?_
    with_reducible refine go_test ?_
    with_reducible refine go_op ?_
    with_reducible refine go_var rfl ?_
    with_reducible refine go_c ?_
    with_reducible refine go_i0 ?_
    with_reducible refine go_qb ?_
    with_reducible refine go_iteDT (by first | assumption | rfl | omega | (simp only [List.length_cons, List.length_nil, List.length_map]; omega)) ?_
    with_reducible refine go_test ?_
    with_reducible refine go_op ?_
    with_reducible refine go_var rfl ?_
    with_reducible refine go_c ?_
    with_reducible refine go_i0 ?_
    with_reducible refine go_qb ?_
    with_reducible refine go_iteDT (by first | assumption | rfl | omega | (simp only [List.length_cons, List.length_nil, List.length_map]; omega)) ?_
    with_reducible refine go_ret ?_
    with_reducible refine go_tup ?_
    with_reducible refine go_cons ?_
    with_reducible refine go_op ?_
    with_reducible refine go_var rfl ?_
    with_reducible refine go_lst ?_
    with_reducible refine go_cons ?_
    with_reducible refine go_var rfl ?_
    with_reducible refine go_cons ?_
    with_reducible refine go_op ?_
    with_reducible refine go_var rfl ?_
    with_reducible refine go_c ?_
    with_reducible refine go_i0 ?_
    with_reducible refine go_nil ?_
    refine go_qlst (Nat.le_of_ble_eq_true rfl) (fun q1 hq1 => ?_)
    walk_at "lw_go"
    refine go_cat (by walk_at "lw_hp") (by walk_at "lw_hp") (small_le (by rw [List.length_map]; show _ + 2 ≤ _; omega)) (fun q hq => ?_)
    walk_at "lw_go"
    refine go_qtup (Nat.le_of_ble_eq_true rfl) (fun t ht => ?_)
    have hs := ((same_new hq1 (.lst [V.int m, V.int (m - 1)])).trans (same_new hq (.lst (F.map V.int ++ [V.int m, V.int (m - 1)])))).trans (same_new ht (.tup [.ref q, .int (min 20 ((F.map V.int).length + 1 : Nat))]))
    refine k t q (min 20 (F.length + 1)) _ _ (o4'.trans hs.off) (D4.same hs) ?_ (upd_new ht upd_same) (off_free o4' D4 (Same.free (H := H4) (same_new hq1 _) hq)) (fbad_back hb c3 so hF)
    refine (upd_same).trans ?_
    congr 4
    simp
    omega
  all_goals
    walk_at "lw_go"
    refine go_slL ha4 (fun q1 hq1 => ?_)
    rw [cut_to at0]
    walk_at "lw_go"
    refine go_qlst (Nat.le_of_ble_eq_true rfl) (fun q2 hq2 => ?_)
    walk_at "lw_go"
    refine go_cat (by walk_at "lw_hp") (by walk_at "lw_hp") (small_le (by rw [List.length_take, List.length_map]; show _ + 1 ≤ _; omega)) (fun q3 hq3 => ?_)
    have s3 := ((same_new hq1 (.lst ((F.map V.int).take at_.toNat))).trans (same_new hq2 (.lst [odd]))).trans (same_new hq3 (.lst ((F.map V.int).take at_.toNat ++ [odd])))
    have ha5 := s3 _ _ ha4
    have o5' := o4'.trans s3.off
    have D5 := D4.same s3
    have e5 : upd (upd (upd H4 q1 (.lst ((F.map V.int).take at_.toNat))) q2 (.lst [odd])) q3 (.lst ((F.map V.int).take at_.toNat ++ [odd])) q3 = some (.lst ((F.map V.int).take at_.toNat ++ [odd])) := upd_same
    generalize upd (upd (upd H4 q1 (.lst ((F.map V.int).take at_.toNat))) q2 (.lst [odd])) q3 (.lst ((F.map V.int).take at_.toNat ++ [odd])) = H5 at *
    walk_at "lw_go"
    refine go_slL ha5 (fun q4 hq4 => ?_)
    rw [cut_from at0]
    walk_at "lw_go"
    refine go_cat (by walk_at "lw_hp") (by walk_at "lw_hp") (small_le (by simp; omega)) (fun q5 hq5 => ?_)
    walk_at "lw_go"
    refine go_qtup (Nat.le_of_ble_eq_true rfl) (fun t ht => ?_)
    have s6 := ((same_new hq4 (.lst ((F.map V.int).drop at_.toNat))).trans (same_new hq5 (.lst (((F.map V.int).take at_.toNat ++ [odd]) ++ (F.map V.int).drop at_.toNat)))).trans (same_new ht (.tup [.ref q5, .int (min 20 at_)]))
    have fb := fbad_of (pre := F.take at_.toNat) (o := odd) (rest := (F.map V.int).drop at_.toNat) (fun x hx => hb x (List.mem_of_mem_take hx)) m0 (so.sublist (List.take_sublist _ _)) (by rw [List.length_take]; omega) od.1 od.2 (fun y hy => pla_ints F y (List.mem_of_mem_drop hy))
    have el : (F.take at_.toNat).length = at_.toNat := by rw [List.length_take]; omega
    rw [el, List.map_take] at fb
    refine k t q5 at_.toNat _ _ (o5'.trans s6.off) (D5.same s6) ?_ (upd_new ht upd_same) (off_free o5' D5 (Same.free (H := H5) (same_new hq4 _) hq5)) fb
    rw [Int.toNat_of_nonneg at0]
    refine (upd_same).trans ?_
    rw [show min 20 at_ = at_ by omega]
end
end Lw
set_option Elab.async false
set_option linter.all false
set_option maxRecDepth 100000
set_option maxHeartbeats 8000000
namespace Lw
open PySem L2
local macro_rules | `(tactic| walk_at "lw_hp") => `(tactic| (repeat (first | assumption | exact upd_same | (refine' upd_new (by assumption) ?_) | (refine' tup_off (by assumption) (by assumption) ?_) | (refine' lst_off (by assumption) (by assumption) (by assumption) ?_) | (refine' Same.get (by assumption) ?_) | (refine' Off.get (by assumption) (by assumption) ?_) | (refine' upd_oth (by assumption) ?_))))
structure MG (g : List Int) (m : Int) : Prop where
  b : ∀ x ∈ g, 1 ≤ x ∧ x ≤ m - 1
  so : g.Pairwise (· < ·)
  l : g.length ≤ 60
theorem mlow_bd {g : List Int} {rest : List V} {m : Int} (G : MG g m) {j : Nat} (hj : j ≤ g.length) : 1 ≤ lowMk (g.map V.int ++ rest) j := by
  cases j with
  | zero => exact Int.le_refl 1
  | succ j =>
    have e := List.getElem?_eq_getElem (l := g) (i := j) (by omega)
    rw [lowMk_pre e]
    have := G.b _ (List.getElem_mem (h := (by omega : j < g.length)))
    omega
theorem mpre_ok {g : List Int} {rest : List V} {m : Int} (G : MG g m) : ∀ j y, j < g.length → (g.map V.int ++ rest)[j]? = some y → numV y (lowMk (g.map V.int ++ rest) j) (m - 1) = true := by
  intro j y hj e
  rw [List.getElem?_append_left (by simpa using hj)] at e
  obtain ⟨n, rfl, hn⟩ := int_of e
  have b := G.b n (List.mem_of_getElem? hn)
  cases j with
  | zero => exact decide_eq_true b
  | succ j =>
    have e2 := List.getElem?_eq_getElem (l := g) (i := j) (by omega)
    rw [lowMk_pre e2]
    obtain ⟨h2, e3⟩ := List.getElem?_eq_some_iff.mp hn
    have := List.pairwise_iff_getElem.mp G.so j (j + 1) (by omega) h2 (by omega)
    rw [e3] at this
    exact decide_eq_true ⟨by omega, b.2⟩
theorem mbad_end {g : List Int} {o : V} {m : Int} (G : MG g m) (ho : numV o (lowMk (g.map V.int ++ [o]) g.length) (m - 1) = false) (po : PlA o) : MBad (g.map V.int ++ [o]) m g.length := by
  refine ⟨⟨o, ?_, ho⟩, Nat.le_trans G.l (by decide), mpre_ok G, fun y hy => ?_⟩
  · have := mid_at (pre := g.map V.int) (o := o) (rest := [])
    rw [List.append_nil, List.length_map] at this
    exact this
  · rcases List.mem_append.mp hy with hy | hy
    · exact pla_ints _ y hy
    · rw [List.mem_singleton.mp hy]; exact po
theorem mbad_first {o : Int} {rest : List Int} {m : Int} (ho : ¬ (1 ≤ o ∧ o ≤ m - 1)) : MBad (.int o :: rest.map V.int) m 0 :=
  ⟨⟨.int o, rfl, decide_eq_false ho⟩, Nat.zero_le _, fun j y h => absurd h (Nat.not_lt_zero j), fun y hy => pla_ints (o :: rest) y hy⟩
theorem cut_last {xs : List V} (h : xs ≠ []) : cutV xs (some (-1)) none = [xs.getLast h] := by
  have hl : 0 < xs.length := List.length_pos_iff.mpr h
  have e1 : HT.sIx xs.length 0 (some (-1)) = xs.length - 1 := by
    unfold HT.sIx
    simp only []
    split <;> omega
  have e2 : HT.sIx xs.length xs.length none = xs.length := rfl
  unfold cutV
  rw [e1, e2]
  have e3 : xs.drop (xs.length - 1) = [xs.getLast h] := by
    have h2 : xs.length - 1 < xs.length := by omega
    rw [List.drop_eq_getElem_cons h2, List.getLast_eq_getElem, List.drop_eq_nil_of_le (by omega)]
  rw [e3, show xs.length - (xs.length - 1) = 1 by omega]
  rfl
theorem five {w : Int} (h0 : 0 ≤ w) (h1 : w < 5) (a0 a1 a2 a3 a4 b0 b1 b2 b3 b4 : V) (R : V → V → Prop) (r0 : R a0 b0) (r1 : R a1 b1) (r2 : R a2 b2) (r3 : R a3 b3) (r4 : R a4 b4) : ∃ x y, atI [a0, a1, a2, a3, a4] w = some x ∧ atI [b0, b1, b2, b3, b4] w = some y ∧ R x y := by
  rcases (by omega : w = 0 ∨ w = 1 ∨ w = 2 ∨ w = 3 ∨ w = 4) with e | e | e | e | e <;> subst e
  · exact ⟨_, _, rfl, rfl, r0⟩
  · exact ⟨_, _, rfl, rfl, r1⟩
  · exact ⟨_, _, rfl, rfl, r2⟩
  · exact ⟨_, _, rfl, rfl, r3⟩
  · exact ⟨_, _, rfl, rfl, r4⟩
theorem go_five {K : PySem.W.Frag} {H0 H : Hp} {Q : VK} {p : Addr} {w m : Int} {c1 c2 c3 c4 c5 : Addr} {n1 n2 n3 n4 n5 : Nat} {x1 x2 x3 x4 x5 : List V} (h : H p = some (.lst [.ref c1, .ref c2, .ref c3, .ref c4, .ref c5])) (h0 : 0 ≤ w) (h1 : w < 5)
    (e1 : H c1 = some (.lst x1)) (e2 : H c2 = some (.lst x2)) (e3 : H c3 = some (.lst x3)) (e4 : H c4 = some (.lst x4)) (e5 : H c5 = some (.lst x5)) (f1 : H0 c1 = none) (f2 : H0 c2 = none) (f3 : H0 c3 = none) (f4 : H0 c4 = none) (f5 : H0 c5 = none)
    (b1 : MBad x1 m n1) (b2 : MBad x2 m n2) (b3 : MBad x3 m n3) (b4 : MBad x4 m n4) (b5 : MBad x5 m n5)
    (q : ∀ (b : Addr) (n : Nat) (xs : List V), atI ([V.int n1, V.int n2, V.int n3, V.int n4, V.int n5] : List V) w = some (.int n) → H b = some (.lst xs) → H0 b = none → MBad xs m n → Q (.ref b) H) : rIxL K (.ref p) (.int w) H Q := by
  obtain ⟨x, y, ex, ey, b, n, xs, rfl, rfl, eb, fb, mb⟩ := five h0 h1 (.ref c1) (.ref c2) (.ref c3) (.ref c4) (.ref c5) (.int n1) (.int n2) (.int n3) (.int n4) (.int n5) (fun x y => ∃ (b : Addr) (n : Nat) (xs : List V), x = .ref b ∧ y = .int n ∧ H b = some (.lst xs) ∧ H0 b = none ∧ MBad xs m n)
    ⟨c1, n1, x1, rfl, rfl, e1, f1, b1⟩ ⟨c2, n2, x2, rfl, rfl, e2, f2, b2⟩ ⟨c3, n3, x3, rfl, rfl, e3, f3, b3⟩ ⟨c4, n4, x4, rfl, rfl, e4, f4, b4⟩ ⟨c5, n5, x5, rfl, rfl, e5, f5, b5⟩
  exact go_ixL h ex (q b n xs ey eb fb mb)
def spBM (K : PySem.W.Frag) : Sp := fun vs H Q _ => ∃ (d : Addr) (m far : Int), vs = [.ref d, .int m, .int far] ∧ Dice K H d ∧ 0 ≤ m ∧ m ≤ 60 ∧ 0 ≤ far ∧ far ≤ 1000000 ∧
  ∀ (r b : Addr) (n : Nat) (xs : List V) (H' : Hp), Off d H H' → Dice K H' d → H' r = some (.tup [.ref b, .int n]) → H' b = some (.lst xs) → H b = none → MBad xs m n → Q (.ref r) H'
section
variable {P : Program} {w : World} {K : PySem.W.Frag} {mg : Str → Option Value} {base : Heap} {f : Addr} {fd : FuncData}
theorem scs__law_bad_marks : FnScope ["_law_d", "_law_many", "_law_far", "_law_good", "_law_way", "_law_twice", "_law_bad", "_law_place"] ["_law_d", "_law_many", "_law_far"] (defScope s__law_bad_marks) := ⟨rfl, rfl, rfl, by decide +kernel, rfl, by decide +kernel, by decide +kernel⟩
theorem ok_bm (F : Fun K "_law_bad_marks" "_law_bad_marks" s__law_bad_marks f fd) (T : Txt mg) (C_law_next : FnC P w K mg base 1 "_law_next" ["_law_dice_here", "_law_many"] (spNext K)) : FnOk P w K mg base CX0 2 f fd ["_law_d", "_law_many", "_law_far"] (spBM K) := by
  refine F.ok scs__law_bad_marks (fun vs H Q E h => ?_) (fun cdv A outer s H vs Q E hr h => ?_)
  · obtain ⟨d, m, far, rfl, _⟩ := h
    rfl
  obtain ⟨d, m, far, rfl, D, m0, m1, f0, f1, k⟩ := h
  have nd := scs__law_bad_marks.nd
  have hu := hu_of hr
  refine ⟨_, (pss_cons (ps_setLc (i := 3) rfl nd rfl rfl (sw_true rfl rfl rfl rfl) (pi_range2 (by rfl) T.n_range (pa_cons pe_int (pa_cons (pv 1) pa_nil))) (blkOk_by (own := [("_law_place", 7)]) (by show blkC ["_law_d", "_law_many", "_law_far", "_law_good", "_law_way", "_law_twice", "_law_bad", "_law_place"] (defScope s__law_bad_marks) _ _ = true; decide +kernel)) (fun _ _ _ _ _ => (pg_name (i := 7) nd rfl (Or.inl rfl))) (fun _ _ _ _ _ => (pts_one (pt_cmpR op_eq (pe_callC C_law_next (hr.mono (by omega)) (by rfl) (pa_cons (pv 0) (pa_cons pe_int pa_nil))) pe_int (nomark _)))) (fun _ _ _ _ _ => (pv 7)))
      (pss_cons (ps_set (i := 4) nd rfl (Or.inl rfl) (pe_callC C_law_next (hr.mono (by omega)) (by rfl) (pa_cons (pv 0) (pa_cons pe_int pa_nil))))
      (pss_cons (ps_set (i := 5) nd rfl (Or.inl rfl) (pe_ifExp (pt_cmpR (op_neNil hu) (pv 3) (pe_lst pa_nil) (nomark _)) (pe_op op_cat (pv 3) (pe_slice (kSlL K) (pv 3) (po_some (pe_un un_neg pe_int)) po_none)) (pe_lst (pa_cons (pv 1) pa_nil))))
      (pss_cons (ps_set (i := 6) nd rfl (Or.inl rfl) (pe_ix (kIxL K) (pe_lst (pa_cons (pe_op op_cat (pe_lst (pa_cons pe_int pa_nil)) (pv 3)) (pa_cons (pe_op op_cat (pv 3) (pe_lst (pa_cons (pv 1) pa_nil))) (pa_cons (pv 5) (pa_cons (pe_op op_cat (pe_lst (pa_cons (pe_op op_add (pv 1) (pv 2)) pa_nil)) (pv 3)) (pa_cons (pe_op op_cat (pv 3) (pe_lst (pa_cons pe_non pa_nil))) pa_nil)))))) (pv 4) (fun _ _ => rfl)))
      (pss_one (ps_ret (pe_tup (pa_cons (pv 6) (pa_cons (pe_ix (kIxL K) (pe_lst (pa_cons pe_int (pa_cons (pe_callB (kLen K) (by rfl) T.n_len (by decide +kernel) (pa_cons (pv 3) pa_nil)) (pa_cons (pe_callB (kLen K) (by rfl) T.n_len (by decide +kernel) (pa_cons (pv 3) pa_nil)) (pa_cons pe_int (pa_cons (pe_callB (kLen K) (by rfl) T.n_len (by decide +kernel) (pa_cons (pv 3) pa_nil)) pa_nil)))))) (pv 4) (fun _ _ => rfl)) pa_nil))))))))), ?_⟩
  with_reducible refine go_seq (go_asg (go_lc (go_rng2 (go_cons ?_))))
  with_reducible refine go_c (go_cons (go_var rfl (go_nil (go_qrng2 (by omega) (by omega) (by omega) (by omega) ?_))))
  refine lq_range (fun L hL => ?_)
  have nL : L ≠ d := D.nef hL
  refine ⟨fun i H' => ∃ g : List Int, H' L = some (.lst (g.map V.int)) ∧ g.length ≤ i ∧ (∀ x ∈ g, 1 ≤ x ∧ x ≤ i) ∧ g.Pairwise (· < ·) ∧ Dice K H' d ∧ Off d H H', ?_, ?_, ?_⟩
  · exact ⟨[], upd_same, Nat.le_refl _, (fun x h => by cases h), .nil, D.same (same_new hL _), (same_new hL _).off⟩
  · rintro i H' hi ⟨g, eL, hl, hg, so, D', o'⟩
    refine go_gname ⟨rfl, ?_⟩
    with_reducible refine go_test (go_op (go_callC (go_cons (go_var rfl ?_))))
    with_reducible refine go_cons (go_c (go_nil ?_))
    refine nx_go D' (by omega) (by omega) (fun x H3 a3 b3 D3 o3 => ?_)
    have eL3 := o3 _ _ eL nL
    with_reducible refine go_c (go_eqI (go_qb ?_))
    refine go_iteD (fun cc => ?_) (fun cc => ?_)
    · with_reducible refine go_var rfl ?_
      refine go_lcA eL3 (small_line (by rw [List.length_map]; omega)) ?_
      refine ⟨g ++ [1 + (i : Int)], by rw [upd_same, List.map_append]; rfl, by simp; omega, fun y hy => ?_, ?_, D3.updL eL3 nL.symm, off_fresh hL (o'.trans o3)⟩
      · rcases List.mem_append.mp hy with hy | hy
        · have := hg y hy; omega
        · rw [List.mem_singleton.mp hy]; omega
      · refine List.pairwise_append.mpr ⟨so, List.pairwise_singleton _ _, fun a ha b hb => ?_⟩
        have := hg a ha
        rw [List.mem_singleton.mp hb]; omega
    · exact ⟨g, eL3, by omega, fun y hy => by have := hg y hy; omega, so, D3, o'.trans o3⟩
  rintro H1 ⟨g, eL, hl, hg, so, D1, o1⟩
  have G : MG g m := ⟨fun x hx => by have := hg x hx; omega, so, by omega⟩
  have fL : H L = none := hL
  with_reducible refine go_gname (go_seq (go_asg (go_callC (go_cons ?_))))
  with_reducible refine go_var rfl (go_cons (go_c (go_nil ?_)))
  refine nx_go D1 (by omega) (by omega) (fun way H2 a2 b2 D2 o2 => ?_)
  have eL2 := o2 _ _ eL nL
  have o2' := o1.trans o2
  with_reducible refine go_gname (go_seq (go_asg (go_if (go_test ?_))))
  with_reducible refine go_op (go_var rfl (go_lst (go_nil ?_)))
  refine go_qlst (Nat.le_of_ble_eq_true rfl) (fun p1 hp1 => ?_)
  skip
  have lens : (g.map V.int).length ≤ 60 := by rw [List.length_map]; exact G.l
  have twice : ∃ o, PlA (.int o) ∧ numV (.int o) (lowMk (g.map V.int ++ [.int o]) g.length) (m - 1) = false ∧ (g = [] → o = m) ∧ ∀ h : g.map V.int ≠ [], (g.map V.int).getLast h = .int o := by
    by_cases c : g = []
    · subst c
      exact ⟨m, pla_int _, decide_eq_false (by omega), fun _ => rfl, fun h => absurd rfl h⟩
    · refine ⟨g.getLast c, pla_int _, ?_, fun z => absurd z c, fun h => List.getLast_map ..⟩
      obtain ⟨j, hj⟩ : ∃ j, g.length = j + 1 := ⟨g.length - 1, by have := List.length_pos_iff.mpr c; omega⟩
      rw [hj, lowMk_pre (z := g.getLast c) (by rw [List.getLast_eq_getElem]; simp [hj])]
      exact decide_eq_false (by omega)
  obtain ⟨o, po, lo, on, ol⟩ := twice
  have mb2 := mbad_end G lo po
  have mb1 := mbad_end (o := .int m) G (by have := mlow_bd (rest := [.int m]) G (Nat.le_refl _); exact decide_eq_false (by omega)) (pla_int _)
  have mb4 := mbad_end (o := .non) G rfl pla_non
  have mb0 := mbad_first (o := 0) (rest := g) (m := m) (by omega)
  have mb3 := mbad_first (o := m + far) (rest := g) (m := m) (by omega)
  have tail : ∀ (q : Addr) (H3 : Hp) (Qx : V → Hp → Prop), True := fun _ _ _ => trivial
  by_cases c : g = []
  · have eo := on c
    have eL' : H2 L = some (.lst []) := by rw [c] at eL2; exact eL2
    refine go_neNilE (upd_new hp1 eL') upd_same ?_
    clear eL'
    with_reducible refine go_qb (go_iteF (go_lst (go_cons (go_var rfl ?_))))
    with_reducible refine go_nil ?_
    refine go_qlst (Nat.le_of_ble_eq_true rfl) (fun q hq => ?_)
    have s3 := (same_new hp1 (.lst [])).trans (same_new hq (.lst [V.int m]))
    have eq3 : upd (upd H2 p1 (.lst [])) q (.lst [V.int m]) q = some (.lst (g.map V.int ++ [.int o])) := by rw [c, eo]; exact upd_same
    have fq : H q = none := off_free o2' D2 (Same.free (H := H2) (same_new hp1 _) hq)
    generalize upd (upd H2 p1 (.lst [])) q (.lst [V.int m]) = H3 at *
    have D3 := D2.same s3
    have o3' := o2'.trans s3.off
    have eL3 := s3 _ _ eL2
    clear o1 o2 eL hp1 hq s3
    with_reducible refine go_gname (go_seq (go_asg (go_op (go_lst ?_))))
    with_reducible refine go_cons (go_op (go_lst (go_cons (go_c ?_))))
    with_reducible refine go_nil ?_
    refine go_qlst (Nat.le_of_ble_eq_true rfl) (fun z1 hz1 => ?_)
    with_reducible refine go_var rfl ?_
    refine go_cat (xs := [V.int 0]) (ys := g.map V.int) (by walk_at "lw_hp") (by walk_at "lw_hp") (small_le (by show 1 + _ ≤ _; omega)) (fun c1 hc1 => ?_)
    with_reducible refine go_cons (go_op (go_var rfl (go_lst (go_cons ?_))))
    with_reducible refine go_var rfl (go_nil ?_)
    refine go_qlst (Nat.le_of_ble_eq_true rfl) (fun z2 hz2 => ?_)
    skip
    refine go_cat (xs := g.map V.int) (ys := [V.int m]) (by walk_at "lw_hp") (by walk_at "lw_hp") (small_le (by show _ + 1 ≤ _; omega)) (fun c2 hc2 => ?_)
    with_reducible refine go_cons (go_var rfl (go_cons (go_op (go_lst ?_))))
    with_reducible refine go_cons (go_op (go_var rfl (go_var rfl (go_i0 ?_))))
    with_reducible refine go_nil ?_
    refine go_qlst (Nat.le_of_ble_eq_true rfl) (fun z4 hz4 => ?_)
    with_reducible refine go_var rfl ?_
    refine go_cat (xs := [V.int (m + far)]) (ys := g.map V.int) (by walk_at "lw_hp") (by walk_at "lw_hp") (small_le (by show 1 + _ ≤ _; omega)) (fun c4 hc4 => ?_)
    with_reducible refine go_cons (go_op (go_var rfl (go_lst (go_cons ?_))))
    with_reducible refine go_c (go_nil ?_)
    refine go_qlst (Nat.le_of_ble_eq_true rfl) (fun z5 hz5 => ?_)
    skip
    refine go_cat (xs := g.map V.int) (ys := [V.non]) (by walk_at "lw_hp") (by walk_at "lw_hp") (small_le (by show _ + 1 ≤ _; omega)) (fun c5 hc5 => ?_)
    with_reducible refine go_nil ?_
    refine go_qlst (Nat.le_of_ble_eq_true rfl) (fun bb hbb => ?_)
    have f1 : H c1 = none := off_free o3' D3 (Same.free (H := H3) (by (repeat (first | assumption | exact Same.refl _ | (refine' Same.trans ?_ (same_new (by assumption) _)) | (refine' same_upd (by assumption) ?_)))) hc1)
    have f2 : H c2 = none := off_free o3' D3 (Same.free (H := H3) (by (repeat (first | assumption | exact Same.refl _ | (refine' Same.trans ?_ (same_new (by assumption) _)) | (refine' same_upd (by assumption) ?_)))) hc2)
    have f4 : H c4 = none := off_free o3' D3 (Same.free (H := H3) (by (repeat (first | assumption | exact Same.refl _ | (refine' Same.trans ?_ (same_new (by assumption) _)) | (refine' same_upd (by assumption) ?_)))) hc4)
    have f5 : H c5 = none := off_free o3' D3 (Same.free (H := H3) (by (repeat (first | assumption | exact Same.refl _ | (refine' Same.trans ?_ (same_new (by assumption) _)) | (refine' same_upd (by assumption) ?_)))) hc5)
    with_reducible refine go_var rfl ?_
    refine go_five (H0 := H) (m := m) (n1 := 0) (n2 := g.length) (n3 := g.length) (n4 := 0) (n5 := g.length) (by walk_at "lw_hp") a2 b2 (by walk_at "lw_hp") (by walk_at "lw_hp") (by walk_at "lw_hp") (by walk_at "lw_hp") (by walk_at "lw_hp") f1 f2 fq f4 f5 mb0 mb1 mb2 mb3 mb4 (fun b n xs ey eb fb mb => ?_)
    with_reducible refine go_gname (go_ret (go_tup (go_cons (go_var rfl ?_))))
    with_reducible refine go_cons (go_op (go_lst (go_cons (go_c ?_))))
    with_reducible refine go_cons (go_cb (go_cons (go_var rfl (go_nil ?_))))
    (with_reducible refine' go_lenL ?hp ?_); (case hp => walk_at "lw_hp")
    with_reducible refine go_cons (go_cb (go_cons (go_var rfl (go_nil ?_))))
    (with_reducible refine' go_lenL ?hp ?_); (case hp => walk_at "lw_hp")
    with_reducible refine go_cons (go_c (go_cons (go_cb (go_cons ?_))))
    with_reducible refine go_var rfl (go_nil ?_)
    (with_reducible refine' go_lenL ?hp ?_); (case hp => walk_at "lw_hp")
    with_reducible refine go_nil ?_
    simp only [List.length_map]
    refine go_qlst (Nat.le_of_ble_eq_true rfl) (fun ll hll => ?_)
    with_reducible refine go_var rfl ?_
    (with_reducible refine' go_ixL ?hp ?ha ?_); (case hp => walk_at "lw_hp"); (case ha => first | rfl | assumption)
    with_reducible refine go_nil ?_
    refine go_qtup (Nat.le_of_ble_eq_true rfl) (fun t ht => ?_)
    refine k t b n xs _ (o3'.trans (Same.off (by (repeat (first | assumption | exact Same.refl _ | (refine' Same.trans ?_ (same_new (by assumption) _)) | (refine' same_upd (by assumption) ?_)))))) (D3.same (by (repeat (first | assumption | exact Same.refl _ | (refine' Same.trans ?_ (same_new (by assumption) _)) | (refine' same_upd (by assumption) ?_))))) upd_same (upd_new ht (upd_new hll eb)) fb mb
  · obtain ⟨y, rest, hy⟩ : ∃ y rest, g.map V.int = y :: rest := by
      cases h : g.map V.int with
      | nil => exact absurd (List.map_eq_nil_iff.mp h) c
      | cons y r => exact ⟨y, r, rfl⟩
    have eL' : H2 L = some (.lst (y :: rest)) := by rw [← hy]; exact eL2
    refine go_neNilC (xs := rest) (x := y) (upd_new hp1 eL') upd_same ?_
    with_reducible refine go_qb (go_iteT (go_op (go_var rfl (go_sl ?_))))
    with_reducible refine go_var rfl (go_part (go_un (go_c (go_u ?_))))
    with_reducible refine go_qI (go_nopart ?_)
    clear eL'
    refine go_slL (upd_new hp1 eL2) (fun q0 hq0 => ?_)
    have hne : g.map V.int ≠ [] := by rw [hy]; intro z; cases z
    rw [cut_last hne, ol hne]
    skip
    refine go_cat (xs := g.map V.int) (ys := [V.int o]) (by walk_at "lw_hp") (by walk_at "lw_hp") (small_le (by show _ + 1 ≤ _; omega)) (fun q hq => ?_)
    have s3 := ((same_new hp1 (.lst [])).trans (same_new hq0 (.lst [V.int o]))).trans (same_new hq (.lst (g.map V.int ++ [V.int o])))
    have eq3 : upd (upd (upd H2 p1 (.lst [])) q0 (.lst [V.int o])) q (.lst (g.map V.int ++ [V.int o])) q = some (.lst (g.map V.int ++ [.int o])) := upd_same
    have fq : H q = none := off_free o2' D2 (Same.free (H := H2) ((same_new hp1 (.lst [])).trans (same_new hq0 (.lst [V.int o]))) hq)
    generalize upd (upd (upd H2 p1 (.lst [])) q0 (.lst [V.int o])) q (.lst (g.map V.int ++ [V.int o])) = H3 at *
    have D3 := D2.same s3
    have o3' := o2'.trans s3.off
    have eL3 := s3 _ _ eL2
    clear o1 o2 eL hp1 hq s3
    with_reducible refine go_gname (go_seq (go_asg (go_op (go_lst ?_))))
    with_reducible refine go_cons (go_op (go_lst (go_cons (go_c ?_))))
    with_reducible refine go_nil ?_
    refine go_qlst (Nat.le_of_ble_eq_true rfl) (fun z1 hz1 => ?_)
    with_reducible refine go_var rfl ?_
    refine go_cat (xs := [V.int 0]) (ys := g.map V.int) (by walk_at "lw_hp") (by walk_at "lw_hp") (small_le (by show 1 + _ ≤ _; omega)) (fun c1 hc1 => ?_)
    with_reducible refine go_cons (go_op (go_var rfl (go_lst (go_cons ?_))))
    with_reducible refine go_var rfl (go_nil ?_)
    refine go_qlst (Nat.le_of_ble_eq_true rfl) (fun z2 hz2 => ?_)
    skip
    refine go_cat (xs := g.map V.int) (ys := [V.int m]) (by walk_at "lw_hp") (by walk_at "lw_hp") (small_le (by show _ + 1 ≤ _; omega)) (fun c2 hc2 => ?_)
    with_reducible refine go_cons (go_var rfl (go_cons (go_op (go_lst ?_))))
    with_reducible refine go_cons (go_op (go_var rfl (go_var rfl (go_i0 ?_))))
    with_reducible refine go_nil ?_
    refine go_qlst (Nat.le_of_ble_eq_true rfl) (fun z4 hz4 => ?_)
    with_reducible refine go_var rfl ?_
    refine go_cat (xs := [V.int (m + far)]) (ys := g.map V.int) (by walk_at "lw_hp") (by walk_at "lw_hp") (small_le (by show 1 + _ ≤ _; omega)) (fun c4 hc4 => ?_)
    with_reducible refine go_cons (go_op (go_var rfl (go_lst (go_cons ?_))))
    with_reducible refine go_c (go_nil ?_)
    refine go_qlst (Nat.le_of_ble_eq_true rfl) (fun z5 hz5 => ?_)
    skip
    refine go_cat (xs := g.map V.int) (ys := [V.non]) (by walk_at "lw_hp") (by walk_at "lw_hp") (small_le (by show _ + 1 ≤ _; omega)) (fun c5 hc5 => ?_)
    with_reducible refine go_nil ?_
    refine go_qlst (Nat.le_of_ble_eq_true rfl) (fun bb hbb => ?_)
    have f1 : H c1 = none := off_free o3' D3 (Same.free (H := H3) (by (repeat (first | assumption | exact Same.refl _ | (refine' Same.trans ?_ (same_new (by assumption) _)) | (refine' same_upd (by assumption) ?_)))) hc1)
    have f2 : H c2 = none := off_free o3' D3 (Same.free (H := H3) (by (repeat (first | assumption | exact Same.refl _ | (refine' Same.trans ?_ (same_new (by assumption) _)) | (refine' same_upd (by assumption) ?_)))) hc2)
    have f4 : H c4 = none := off_free o3' D3 (Same.free (H := H3) (by (repeat (first | assumption | exact Same.refl _ | (refine' Same.trans ?_ (same_new (by assumption) _)) | (refine' same_upd (by assumption) ?_)))) hc4)
    have f5 : H c5 = none := off_free o3' D3 (Same.free (H := H3) (by (repeat (first | assumption | exact Same.refl _ | (refine' Same.trans ?_ (same_new (by assumption) _)) | (refine' same_upd (by assumption) ?_)))) hc5)
    with_reducible refine go_var rfl ?_
    refine go_five (H0 := H) (m := m) (n1 := 0) (n2 := g.length) (n3 := g.length) (n4 := 0) (n5 := g.length) (by walk_at "lw_hp") a2 b2 (by walk_at "lw_hp") (by walk_at "lw_hp") (by walk_at "lw_hp") (by walk_at "lw_hp") (by walk_at "lw_hp") f1 f2 fq f4 f5 mb0 mb1 mb2 mb3 mb4 (fun b n xs ey eb fb mb => ?_)
    with_reducible refine go_gname (go_ret (go_tup (go_cons (go_var rfl ?_))))
    with_reducible refine go_cons (go_op (go_lst (go_cons (go_c ?_))))
    with_reducible refine go_cons (go_cb (go_cons (go_var rfl (go_nil ?_))))
    (with_reducible refine' go_lenL ?hp ?_); (case hp => walk_at "lw_hp")
    with_reducible refine go_cons (go_cb (go_cons (go_var rfl (go_nil ?_))))
    (with_reducible refine' go_lenL ?hp ?_); (case hp => walk_at "lw_hp")
    with_reducible refine go_cons (go_c (go_cons (go_cb (go_cons ?_))))
    with_reducible refine go_var rfl (go_nil ?_)
    (with_reducible refine' go_lenL ?hp ?_); (case hp => walk_at "lw_hp")
    with_reducible refine go_nil ?_
    simp only [List.length_map]
    refine go_qlst (Nat.le_of_ble_eq_true rfl) (fun ll hll => ?_)
    with_reducible refine go_var rfl ?_
    (with_reducible refine' go_ixL ?hp ?ha ?_); (case hp => walk_at "lw_hp"); (case ha => first | rfl | assumption)
    with_reducible refine go_nil ?_
    refine go_qtup (Nat.le_of_ble_eq_true rfl) (fun t ht => ?_)
    refine k t b n xs _ (o3'.trans (Same.off (by (repeat (first | assumption | exact Same.refl _ | (refine' Same.trans ?_ (same_new (by assumption) _)) | (refine' same_upd (by assumption) ?_)))))) (D3.same (by (repeat (first | assumption | exact Same.refl _ | (refine' Same.trans ?_ (same_new (by assumption) _)) | (refine' same_upd (by assumption) ?_))))) upd_same (upd_new ht (upd_new hll eb)) fb mb
end
end Lw
set_option Elab.async false
set_option linter.all false
set_option maxRecDepth 100000
set_option maxHeartbeats 8000000
namespace Lw
open PySem L2
theorem sum_nn : ∀ l : List Int, (∀ x ∈ l, 0 ≤ x) → 0 ≤ l.sum
  | [], _ => Int.le_refl 0
  | x :: r, h => by
    rw [List.sum_cons]
    have := h x List.mem_cons_self
    have := sum_nn r fun y hy => h y (List.mem_cons_of_mem _ hy)
    omega
theorem seg_nn {W : List Int} (h : ∀ x ∈ W, 1 ≤ x ∧ x ≤ 99) (a b : Int) : 0 ≤ seg W a b := sum_nn _ fun x hx => by
  have := h x (List.mem_of_mem_drop (List.mem_of_mem_take hx))
  omega
theorem again_nn {W F : List Int} (h : ∀ x ∈ W, 1 ≤ x ∧ x ≤ 99) (s e : Int) : 0 ≤ againM W F s e := sum_nn _ fun x hx => by
  obtain ⟨f, _, rfl⟩ := List.mem_map.mp hx
  exact seg_nn h _ _
theorem Cm_nn {W F : List Int} {p : Int} (h : ∀ x ∈ W, 1 ≤ x ∧ x ≤ 99) (hp : 0 ≤ p) : ∀ (ms : List Int) (s : Int), 0 ≤ Cm W F p s ms
  | [], s => again_nn h _ _
  | m :: r, s => by
    have a := again_nn (F := F) h s m
    have b := Cm_nn (F := F) h hp r m
    show 0 ≤ againM W F s m + p + Cm W F p m r
    omega
def qL : Str := ("law" : Str) ++ ".<locals>." ++ "<lambda>"
theorem has_of {X : Cx} {scope : Scope} {names : List (Str × NameKind)} (e : X.env.scope.names = names) (h : scope.names.all (fun y => (y.2 != NameKind.free) || (names.lookup y.1 == some .cell)) = true) : ∀ n, (n, NameKind.free) ∈ scope.names → X.env.kindOf n = some .cell ∨ X.env.kindOf n = some .free := by
  intro n hn
  have q := List.all_eq_true.mp h _ hn
  left
  show X.env.scope.names.lookup n = some .cell
  rw [e]
  have q' : (false || (names.lookup n == some NameKind.cell)) = true := q
  rw [Bool.false_or] at q'
  cases hk : names.lookup n with
  | none => rw [hk] at q'; cases q'
  | some kd =>
    rw [hk] at q'
    cases kd <;> first | rfl | cases q'
theorem cap_of : ∀ {l : List (Str × Addr)}, (l.map (·.1)).Nodup → ∀ q ∈ l, l.lookup q.1 = some q.2
  | [], _, q, h => by cases h
  | (x, a) :: r, n, q, h => by
    rw [List.map_cons, List.nodup_cons] at n
    rw [List.lookup_cons]
    rcases List.mem_cons.mp h with rfl | h
    · simp
    · have ne : (q.1 == x) = false := by
        refine Bool.eq_false_iff.mpr fun z => n.1 ?_
        rw [← eq_of_beq z]
        exact List.mem_map.mpr ⟨q, h, rfl⟩
      rw [ne]
      exact cap_of n.2 q h
theorem cells_fst : ∀ (names : List (Str × NameKind)) (n : Nat) (acc : List (Str × Addr)), (cellsFrom n names acc).map (·.1) = ((names.filter fun y => y.2 == .cell).map (·.1)).reverse ++ acc.map (·.1)
  | [], _, _ => rfl
  | (x, kd) :: r, n, acc => by
    unfold cellsFrom
    cases h : kd == NameKind.cell with
    | true =>
      rw [if_pos rfl, cells_fst r, List.filter_cons, if_pos (show ((x, kd).2 == NameKind.cell) = true from h)]
      simp
    | false =>
      rw [if_neg (by simp), cells_fst r, List.filter_cons, if_neg (by simp [h])]
theorem cap_cells {names : List (Str × NameKind)} (h : ((names.filter fun y => y.2 == .cell).map (·.1)).Nodup) (n : Nat) : ∀ q ∈ cellsFrom n names [], (cellsFrom n names []).lookup q.1 = some q.2 := by
  refine cap_of ?_
  rw [cells_fst, List.map_nil, List.append_nil]
  exact List.pairwise_reverse.mpr (h.imp fun h => h.symm)
theorem ToldIs.mono {K : PySem.W.Frag} {C : Addr} {i : Nat} {d : Option Addr} {H H' : Hp} {r : List V} (h : ∀ dx fs, H dx = some (.xd fs) → H' dx = some (.xd fs)) (t : ToldIs K C i d H r) : ToldIs K C i d H' r := by
  rcases t with ⟨e, dx, fs, v, u, e1, e2, q⟩ | ⟨e, dx, fs, v, e1, e2, q⟩ | ⟨e, dx, fs, v, e1, e2, q⟩ | ⟨e, q⟩
  · exact .inl ⟨e, dx, fs, v, u, e1, h _ _ e2, q⟩
  · exact .inr (.inl ⟨e, dx, fs, v, e1, h _ _ e2, q⟩)
  · exact .inr (.inr (.inl ⟨e, dx, fs, v, e1, h _ _ e2, q⟩))
  · exact .inr (.inr (.inr ⟨e, q⟩))
theorem tbl_same {H H' : Hp} {T : Addr} {q : Str} (t : TblOk H T q) (s : Same H H') : TblOk H' T q := by
  obtain ⟨ps, h, a, b⟩ := t
  exact ⟨ps, s _ _ h, a, fun pos c' e => by
    obtain ⟨c, e1, e2⟩ := b pos c' e
    exact ⟨c, e1, s _ _ e2⟩⟩
theorem tbl_off {K : PySem.W.Frag} {H H' : Hp} {T d : Addr} {q : Str} (t : TblOk H T q) (D : Dice K H d) (s : Off d H H') : TblOk H' T q := by
  obtain ⟨ps, h, a, b⟩ := t
  obtain ⟨_, ns, i, m, r, hd, _⟩ := D.ex
  exact ⟨ps, s _ _ h (ne_of h hd (by intro z; cases z)), a, fun pos c' e => by
    obtain ⟨c, e1, e2⟩ := b pos c' e
    exact ⟨c, e1, s _ _ e2 (ne_of e2 hd (by intro z; cases z))⟩⟩
section
variable {P : Program} {w : World} {K : PySem.W.Frag} {mg : Str → Option Value} {base : Heap} {W : Addr} {ks : Ks}
theorem ClOf.at_ {names : List (Str × NameKind)} {cells cl : List (Str × Addr)} (C : ClOf names cells cl) {x : Str} {c : Addr} (h : cl.lookup x = some c) : cells.lookup x = some c := C.from_ _ (PySem.mem_of_lookup h)
theorem raises_of {H Hf : Hp} {cells : List (Str × Addr)} {NL : List Str} {names : List (Str × NameKind)} {σ σ0 : St} (F : Frz H Hf cells NL names σ) {f c : Addr} {cl : List (Str × Addr)} {qual : Str} {params : Arguments} {body : Expr} {scope : Scope} {dV ct pm : Value} {N ps : List Str} {us : List Value} {r : List V}
    (S : LamScope N ps scope) (C : ClOf scope.names cells cl) (hf : H f = some (LamO f (lamOf qual params body scope cl dV ct pm c))) (hc : H c = some (CodO c qual))
    (hbi : ∀ H1, Same Hf H1 → ∀ s : Shared, HOk P w H1 s.heap → BindsTo s (lamOf qual params body scope cl dV ct pm c) ⟨[], []⟩ (ps.zip us)) (hlen : σ0.length = N.length)
    (hval : ∀ (i : Nat) x v, N[i]? = some x → σ0[i]? = some (some v) → ∃ li : Nat, NL[li]? = some x ∧ σ[li]? = some (some v) ∧ names.lookup x = some .cell ∧ scope.names.lookup x = some .free)
    (hbody : ∀ (E : XK) (H1 : Hp) (A : Around) (outer : List Env) (s : Shared), Same H (delL H1 (cl.map (·.2))) → Room 6 (A.deeper (envL qual scope s.heap.objs.size f c cl)) →
      (∀ (C : Addr) (i : Nat) (d : Option Addr) (H' : Hp), Same (delL H1 (cl.map (·.2))) H' → XK1 K ks W C i → ToldIs K C i d H' r → E (.ref C) d H') →
      ∃ t, PE ((cxL P w K mg base N qual scope f c cl A outer s (delL H1 (cl.map (·.2)))).wish (XAl (cxL P w K mg base N qual scope f c cl A outer s (delL H1 (cl.map (·.2)))) E)) body t ∧ ∀ Q, t σ0 (delL H1 (cl.map (·.2))) Q) :
    Raises P w K mg base ks W Hf r f := by
  refine ⟨_, F.sub _ _ hf, fun H1 s1 Q E hE => ?_⟩
  have Zf : Cells Hf cl := ⟨fun x y b h1 h2 => F.cells.inj x y b (ClOf.at_ C h1) (ClOf.at_ C h2), fun q hq => F.cells.fr _ (PySem.mem_of_lookup (C.from_ q hq))⟩
  have Z : Cells H1 cl := ⟨Zf.inj, fun q hq => by
    obtain ⟨o, v, e1, e2⟩ := Zf.fr q hq
    exact ⟨o, v, s1 _ _ e1, e2⟩⟩
  have sub : ∀ b ∈ cl.map (·.2), b ∈ cells.map (·.2) := fun b hb => by
    obtain ⟨q, hq, rfl⟩ := List.mem_map.mp hb
    exact List.mem_map.mpr ⟨_, PySem.mem_of_lookup (C.from_ q hq), rfl⟩
  have sm : Same H (delL H1 (cl.map (·.2))) := fun b u e => by
    rw [delL_out fun z => F.nin b u e (sub b z)]
    exact s1 _ _ (F.sub _ _ e)
  refine lam_run (k := 6) S Z (s1 _ _ (F.sub _ _ hf)) (s1 _ _ (F.sub _ _ hc)) (hbi H1 s1) hlen (fun x h => C.all x (PySem.mem_of_lookup h)) (fun i x v h1 h2 => ?_) fun A outer s hr => ?_
  · obtain ⟨li, e1, e2, e3, e4⟩ := hval i x v h1 h2
    obtain ⟨c', o, u, e5, e6, e7, e8⟩ := F.val li x v e1 e2 e3
    obtain ⟨a, ha⟩ := C.all x (PySem.mem_of_lookup e4)
    have := ClOf.at_ C ha
    rw [e5] at this
    cases this
    exact ⟨c', o, u, e4, ha, s1 _ _ e6, e7, e8⟩
  · obtain ⟨t, ht, hq⟩ := hbody (fun C d H' => (∀ b ∈ cl.map (·.2), H' b = none) → E C d (putL H' H1 (cl.map (·.2)))) H1 A outer s sm hr (by
      intro C' i d H' s' x told hn
      refine hE C' i d _ (fun b u e => ?_) x (told.mono fun dx fs e => ?_)
      · by_cases hb : b ∈ cl.map (·.2)
        · rw [putL_in hb]; exact e
        · rw [putL_out hb]
          exact s' _ _ (by rw [delL_out hb]; exact e)
      · rw [putL_out fun z => by rw [hn dx z] at e; cases e]
        exact e)
    exact ⟨t, ht, hq _⟩
theorem made_at {H H' : Hp} {P' f c : Addr} {q qual : Str} {params : Arguments} {body : Expr} {scope : Scope} {cells cl : List (Str × Addr)} {dV ct pm : Value} (t : TblOk H P' q) (M : Made H H' P' f c qual params body scope cells cl dV ct pm) {b : Addr} {u : HO} (h : H b = some u) (n : ∀ ps, u ≠ .tbl ps) : H' b = some u :=
  M.same b u (fun z => by
    obtain ⟨ps, e, _⟩ := t
    rw [z, e] at h
    cases h
    exact n ps rfl) h
theorem made_dice {H H' : Hp} {d P' f c : Addr} {q qual : Str} {params : Arguments} {body : Expr} {scope : Scope} {cells cl : List (Str × Addr)} {dV ct pm : Value} (t : TblOk H P' q) (M : Made H H' P' f c qual params body scope cells cl dV ct pm) (D : Dice K H d) : Dice K H' d := by
  refine D.keep (fun a o io h => made_at t M h (by intro ps z; subst z; exact io)) fun o h => ?_
  obtain ⟨_, ns, i, m, r, hd, _⟩ := D.ex
  have e : o = _ := Option.some.inj (h.symm.trans hd)
  subst e
  exact made_at t M h (by intro ps z; cases z)
theorem nt_lam {f : Addr} {fd : FuncData} : ∀ ps, LamO f fd ≠ .tbl ps := fun ps z => by unfold LamO at z; cases z
theorem nt_cod {c : Addr} {q : Str} : ∀ ps, CodO c q ≠ .tbl ps := fun ps z => by unfold CodO at z; cases z
theorem nt_lst {xs : List V} : ∀ ps, HO.lst xs ≠ .tbl ps := fun ps z => by cases z
structure BS (K : PySem.W.Frag) (d Tb wa fa : Addr) (W F : List Int) (H : Hp) : Prop where
  D : Dice K H d
  T : TblOk H Tb qL
  w : H wa = some (.lst (W.map V.int))
  f : H fa = some (.lst (F.map V.int))
  nw : wa ≠ d
  nf : fa ≠ d
theorem BS.same {d Tb wa fa : Addr} {W F : List Int} {H H' : Hp} (B : BS K d Tb wa fa W F H) (s : Same H H') : BS K d Tb wa fa W F H' := ⟨B.D.same s, tbl_same B.T s, s _ _ B.w, s _ _ B.f, B.nw, B.nf⟩
theorem BS.off {d Tb wa fa : Addr} {W F : List Int} {H H' : Hp} (B : BS K d Tb wa fa W F H) (o : Off d H H') (D : Dice K H' d) : BS K d Tb wa fa W F H' := ⟨D, tbl_off B.T B.D o, o _ _ B.w B.nw, o _ _ B.f B.nf, B.nw, B.nf⟩
theorem BS.made {d Tb wa fa f c : Addr} {W F : List Int} {H H' : Hp} {params : Arguments} {body : Expr} {scope : Scope} {cells cl : List (Str × Addr)} {dV ct pm : Value} (B : BS K d Tb wa fa W F H) (M : Made H H' Tb f c qL params body scope cells cl dV ct pm) : BS K d Tb wa fa W F H' :=
  ⟨made_dice B.T M B.D, M.t, made_at B.T M B.w nt_lst, made_at B.T M B.f nt_lst, B.nw, B.nf⟩
theorem frz_back {H Hf H' : Hp} {cells : List (Str × Addr)} {NL : List Str} {names : List (Str × NameKind)} {σ : St} (F : Frz H Hf cells NL names σ) (s : Same Hf H') : Same H (delL H' (cells.map (·.2))) := fun b u e => by
  rw [delL_out (F.nin b u e)]
  exact s _ _ (F.sub _ _ e)
theorem go_refF {H Hf : Hp} {cells : List (Str × Addr)} {NL : List Str} {names : List (Str × NameKind)} {σ : St} {Q : VK} {E : XK} {p t : Addr} {fs : List Addr} {due : List V} (F : Frz H Hf cells NL names σ) (ew : H p = some (.lst (fs.map V.ref))) (l : fs.length ≤ 2) (ed : H t = some (.tup due)) (dn : due ≠ []) (dl : due.length ≤ 3) (ds : ∀ x ∈ due, Scal x)
    (hr : ∀ f ∈ fs, Raises P w K mg base ks W Hf (.str "refused" :: due) f) (q : ∀ H', Same H (delL H' (cells.map (·.2))) → Q (.bl true) H') : spRef P w K mg base ks W [.ref p, .ref t] Hf Q E :=
  ⟨p, t, fs, due, rfl, F.sub _ _ ew, l, F.sub _ _ ed, dn, dl, ds, hr, fun H' s' => q _ (frz_back F s')⟩
theorem binds_dflt {H1 : Hp} {s : Shared} {fd : FuncData} {t : Addr} {tk : Tok} {x : Str} {k : Option (Array Value) → Sem (List (Str × Value))} (hok : HOk P w H1 s.heap) (e : H1 t = some (.ext fun h => h.get? t = some { cls := .type "tuple", data := .seq #[.int 0 tk] })) (hd : fd.defaults = .ref t)
    (h₁ : bindArgs fd ⟨[], []⟩ = seqItems? fd.defaults >>= k) (h₂ : k (some #[.int 0 tk]) = pure [(x, .int 0 tk)]) : BindsTo s fd ⟨[], []⟩ [(x, .int 0 tk)] :=
  BindsTo.of_defaults hd (hok t _ e).1 rfl h₁ h₂
end
end Lw
set_option Elab.async false
set_option linter.all false
set_option maxRecDepth 100000
set_option maxHeartbeats 8000000
namespace Lw
open PySem L2
local macro_rules | `(tactic| walk_at "lw_hp") => `(tactic| (repeat (first | assumption | exact upd_same | (refine' upd_new (by assumption) ?_) | (refine' tup_off (by assumption) (by assumption) ?_) | (refine' lst_off (by assumption) (by assumption) (by assumption) ?_) | (refine' Same.get (by assumption) ?_) | (refine' Off.get (by assumption) (by assumption) ?_) | (refine' upd_oth (by assumption) ?_))))
abbrev s_law : Stmt := top 37
def spLaw (K : PySem.W.Frag) (Tb : Addr) : Sp := fun vs H Q _ => ∃ (a : Addr) (ns : List Int), vs = [.ref a] ∧ Scr K H a ns ∧ ns.length ≤ 63 ∧ TblOk H Tb qL ∧ ∀ H', Q (.bl true) H'
section
variable {P : Program} {w : World} {K : PySem.W.Frag} {mg : Str → Option Value} {base : Heap} {f : Addr} {fd : FuncData} {cW cF cP cM W cc Tb : Addr} {ks : Ks}
theorem scs_law : FnScope ["_law_script", "_law_d", "_law_turn", "_law_far", "_law_lost", "_law_works", "_law_weights", "_law_falls", "_law_price", "_law_bad", "_law_due", "_law_odd", "_law_marks"] ["_law_script"] (defScope s_law) := ⟨rfl, rfl, rfl, by decide +kernel, rfl, by decide +kernel, by decide +kernel⟩
theorem ok_law (F : FunC K "law" "law" s_law f fd cc) (T : Txt mg) (hcd : PySem.W.CodeHd base cc Tb) (BM : BMod base mg) (XkW : XK1 K ks W cW 5) (XkF : XK1 K ks W cF 6) (XkP : XK1 K ks W cP 7) (XkM : XK1 K ks W cM 8)
    (nW : PySem.W.findIn K (.ref cW) "number" = some none) (nF : PySem.W.findIn K (.ref cF) "number" = some none) (nM : PySem.W.findIn K (.ref cM) "number" = some none)
    (C_law_dice : FnC P w K mg base 1 "_law_dice" ["_law_script"] (spDice K)) (C_law_next : FnC P w K mg base 1 "_law_next" ["_law_dice_here", "_law_many"] (spNext K)) (C_law_plan : FnC P w K mg base 2 "_law_plan" ["_law_d", "_law_most"] (spPlan K))
    (C_law_bad_weights : FnC P w K mg base 2 "_law_bad_weights" ["_law_d", "_law_weights", "_law_far"] (spBW K)) (C_law_bad_falls : FnC P w K mg base 2 "_law_bad_falls" ["_law_d", "_law_falls", "_law_many", "_law_far"] (spBF K)) (C_law_bad_marks : FnC P w K mg base 2 "_law_bad_marks" ["_law_d", "_law_many", "_law_far"] (spBM K))
    (C_law_is_refused : FnC P w K mg base 9 "_law_is_refused" ["_law_works", "_law_due"] (spRef P w K mg base ks W))
    (C_costE : FnE P w K mg base 5 "cost" ["weights", "falls", "price", "marks"] (spCostE cW cF cP cM)) (C_bestE : FnE P w K mg base 5 "best" ["weights", "falls", "price"] (spBestE cW cF cP))
    (C_best : FnC P w K mg base 3 "best" ["weights", "falls", "price"] spBest) (C_cost : FnC P w K mg base 3 "cost" ["weights", "falls", "price", "marks"] spPCost) : FnOk P w K mg base CX0 10 f fd ["_law_script"] (spLaw K Tb) := by
  refine F.ok scs_law (fun vs H Q E h => ?_) (fun A outer s H vs Q E hr h => ?_)
  · obtain ⟨a, ns, rfl, _⟩ := h
    rfl
  obtain ⟨a, ns, rfl, hS, hl, hT, k⟩ := h
  have nd := scs_law.nd
  have hu := hu_of hr
  have capL : ∀ q ∈ cellsFrom (s.heap.objs.size + 1) (defScope s_law).names [], (cellsFrom (s.heap.objs.size + 1) (defScope s_law).names []).lookup q.1 = some q.2 := cap_cells (by decide +kernel) _
  have x4 : (defScope s_law).names.lookup ("_law_lost" : Str) = some NameKind.cell := by decide +kernel
  have x6 : (defScope s_law).names.lookup ("_law_weights" : Str) = some NameKind.cell := by decide +kernel
  have x7 : (defScope s_law).names.lookup ("_law_falls" : Str) = some NameKind.cell := by decide +kernel
  have x8 : (defScope s_law).names.lookup ("_law_price" : Str) = some NameKind.cell := by decide +kernel
  have x9 : (defScope s_law).names.lookup ("_law_bad" : Str) = some NameKind.cell := by decide +kernel
  have x11 : (defScope s_law).names.lookup ("_law_odd" : Str) = some NameKind.cell := by decide +kernel
  have x12 : (defScope s_law).names.lookup ("_law_marks" : Str) = some NameKind.cell := by decide +kernel
  refine ⟨_, (pss_cons (ps_set (i := 1) nd rfl (Or.inl rfl) (pe_callC C_law_dice (hr.mono (by omega)) (by rfl) (pa_cons (pv 0) pa_nil)))
      (pss_cons (ps_for PassesOwn.never rfl (pi_range1 (by rfl) T.n_range (pa_cons pe_int pa_nil)) (pg_name (i := 2) nd rfl (Or.inl rfl)) (pss_cons (ps_asg (pe_callC C_law_plan (hr.mono (by omega)) (by rfl) (pa_cons (pv 1) (pa_cons pe_int pa_nil))) (kPgT K (by rfl) (pgs_cons (pg_name (i := 6) nd rfl (Or.inr rfl)) (pgs_cons (pg_name (i := 7) nd rfl (Or.inr rfl)) (pgs_cons (pg_name (i := 8) nd rfl (Or.inr rfl)) pgs_nil)))))
      (pss_cons (ps_set (i := 3) nd rfl (Or.inl rfl) (pe_ix (kIxL K) (pe_lst (pa_cons pe_int (pa_cons (pe_callC C_law_next (hr.mono (by omega)) (by rfl) (pa_cons (pv 1) (pa_cons (pe_op op_pow pe_int pe_int) pa_nil))) pa_nil))) (pe_callC C_law_next (hr.mono (by omega)) (by rfl) (pa_cons (pv 1) (pa_cons pe_int pa_nil))) (fun _ _ => rfl)))
      (pss_cons (ps_set (i := 4) nd rfl (Or.inr rfl) (pe_ix (kIxL K) (pe_lst (pa_cons (pe_op op_sub (pe_un un_neg pe_int) (pv 3)) (pa_cons (pe_op op_add pe_int (pv 3)) (pa_cons pe_bl (pa_cons pe_non pa_nil))))) (pe_callC C_law_next (hr.mono (by omega)) (by rfl) (pa_cons (pv 1) (pa_cons pe_int pa_nil))) (fun _ _ => rfl)))
      (pss_cons (ps_asg (pe_callC C_law_bad_weights (hr.mono (by omega)) (by rfl) (pa_cons (pv 1) (pa_cons (pv 6) (pa_cons (pv 3) pa_nil)))) (kPgT K (by rfl) (pgs_cons (pg_name (i := 9) nd rfl (Or.inr rfl)) (pgs_cons (pg_name (i := 10) nd rfl (Or.inl rfl)) pgs_nil))))
      (pss_cons (ps_set (i := 5) nd rfl (Or.inl rfl) (pe_lst (pa_cons (pe_lam0 (qual := qL) rfl hcd BM rfl rfl (has_of (names := (defScope s_law).names) rfl (by decide +kernel))) (pa_cons (pe_lam1 (qual := qL) rfl hcd BM rfl rfl (has_of (names := (defScope s_law).names) rfl (by decide +kernel))) pa_nil))))
      (pss_cons (ps_if (pt_not (pt_val (pe_callF C_law_is_refused (hr.mono (by omega)) (by rfl) (pa_cons (pv 5) (pa_cons (pe_tup (pa_cons pe_str (pa_cons (pv 10) pa_nil))) pa_nil)) (fun _ => rfl) rfl rfl rfl rfl rfl rfl capL))) (pss_one (ps_ret pe_bl)) pss_nil)
      (pss_cons (ps_asg (pe_callC C_law_bad_falls (hr.mono (by omega)) (by rfl) (pa_cons (pv 1) (pa_cons (pv 7) (pa_cons (pe_callB (kLen K) (by rfl) T.n_len (by decide +kernel) (pa_cons (pv 6) pa_nil)) (pa_cons (pv 3) pa_nil))))) (kPgT K (by rfl) (pgs_cons (pg_name (i := 11) nd rfl (Or.inr rfl)) (pgs_cons (pg_name (i := 10) nd rfl (Or.inl rfl)) pgs_nil))))
      (pss_cons (ps_set (i := 5) nd rfl (Or.inl rfl) (pe_lst (pa_cons (pe_lam0 (qual := qL) rfl hcd BM rfl rfl (has_of (names := (defScope s_law).names) rfl (by decide +kernel))) (pa_cons (pe_lam1 (qual := qL) rfl hcd BM rfl rfl (has_of (names := (defScope s_law).names) rfl (by decide +kernel))) pa_nil))))
      (pss_cons (ps_if (pt_not (pt_val (pe_callF C_law_is_refused (hr.mono (by omega)) (by rfl) (pa_cons (pv 5) (pa_cons (pe_tup (pa_cons pe_str (pa_cons (pv 10) pa_nil))) pa_nil)) (fun _ => rfl) rfl rfl rfl rfl rfl rfl capL))) (pss_one (ps_ret pe_bl)) pss_nil)
      (pss_cons (ps_set (i := 5) nd rfl (Or.inl rfl) (pe_lst (pa_cons (pe_lam0 (qual := qL) rfl hcd BM rfl rfl (has_of (names := (defScope s_law).names) rfl (by decide +kernel))) (pa_cons (pe_lam1 (qual := qL) rfl hcd BM rfl rfl (has_of (names := (defScope s_law).names) rfl (by decide +kernel))) pa_nil))))
      (pss_cons (ps_if (pt_not (pt_val (pe_callF C_law_is_refused (hr.mono (by omega)) (by rfl) (pa_cons (pv 5) (pa_cons (pe_tup (pa_cons pe_str pa_nil)) pa_nil)) (fun _ => rfl) rfl rfl rfl rfl rfl rfl capL))) (pss_one (ps_ret pe_bl)) pss_nil)
      (pss_cons (ps_asg (pe_callC C_law_bad_marks (hr.mono (by omega)) (by rfl) (pa_cons (pv 1) (pa_cons (pe_callB (kLen K) (by rfl) T.n_len (by decide +kernel) (pa_cons (pv 6) pa_nil)) (pa_cons (pv 3) pa_nil)))) (kPgT K (by rfl) (pgs_cons (pg_name (i := 12) nd rfl (Or.inr rfl)) (pgs_cons (pg_name (i := 10) nd rfl (Or.inl rfl)) pgs_nil))))
      (pss_cons (ps_if (pt_not (pt_val (pe_callF C_law_is_refused (hr.mono (by omega)) (by rfl) (pa_cons (pe_lst (pa_cons (pe_lam0 (qual := qL) rfl hcd BM rfl rfl (has_of (names := (defScope s_law).names) rfl (by decide +kernel))) pa_nil)) (pa_cons (pe_tup (pa_cons pe_str (pa_cons (pv 10) pa_nil))) pa_nil)) (fun _ => rfl) rfl rfl rfl rfl rfl rfl capL))) (pss_one (ps_ret pe_bl)) pss_nil)
      (pss_one (ps_if (PW.pt (pw_or (pt_cmpR op_lt (pe_ix (kIxT K) (pe_callC C_best (hr.mono (by omega)) (by rfl) (pa_cons (pe_op op_rep (pe_lst (pa_cons pe_int pa_nil)) pe_int) (pa_cons (pe_op op_rep (pe_lst (pa_cons pe_int pa_nil)) pe_int) (pa_cons pe_int pa_nil)))) pe_int (fun _ _ => rfl)) pe_int (nomark _)) (pw_or1 (pt_cmpR op_lt (pe_callC C_cost (hr.mono (by omega)) (by rfl) (pa_cons (pv 6) (pa_cons (pv 7) (pa_cons pe_int (pa_cons (pe_lst pa_nil) pa_nil))))) pe_int (nomark _))))) (pss_one (ps_ret pe_bl)) pss_nil))))))))))))))))
      (pss_one (ps_ret pe_bl)))), ?_⟩
  with_reducible refine go_seq (go_asg (go_callC (go_cons (go_var rfl ?_))))
  with_reducible refine go_nil ?_
  refine ⟨a, ns, rfl, hS, hl, fun d H1 s1 D1 => ?_⟩
  have T1 := tbl_same hT s1
  with_reducible refine go_gname (go_seq (go_for (go_rng1 (go_cons ?_))))
  with_reducible refine go_c (go_nil (go_qrng1 (by omega) (by omega) ?_))
  refine fq_range (fun i σ H' => ∃ v2 v3 v4 v5 v6 v7 v8 v9 v10 v11 v12, σ = [some (.ref a), some (.ref d), v2, v3, v4, v5, v6, v7, v8, v9, v10, v11, v12] ∧ Dice K H' d ∧ TblOk H' Tb qL) ⟨none, none, none, none, none, none, none, none, none, none, none, rfl, D1, T1⟩ ?_ ?_
  · clear s1 hS hl D1 T1 hT
    rintro i σ H' hi ⟨v2, v3, v4, v5, v6, v7, v8, v9, v10, v11, v12, rfl, D, T⟩
    with_reducible refine go_gname (go_seq (go_asg (go_callC (go_cons ?_))))
    with_reducible refine go_var rfl (go_cons (go_c (go_nil ?_)))
    refine ⟨d, 12, rfl, D, by omega, by omega, fun r wa fa H2 W' F' p o2 D2 hr2 hw2 hf2 fw ff nwf hlW pl => ?_⟩
    have B2 : BS K d Tb wa fa W' F' H2 := ⟨D2, tbl_off T D o2, hw2, hf2, D.nef fw, D.nef ff⟩
    clear D T o2 fw ff nwf D2 hw2 hf2
    have p6 : (10 : Int) ^ (6 : Int).toNat = 1000000 := by decide
    (with_reducible refine' go_gtup ?hp ?ha ?_); (case hp => walk_at "lw_hp"); (case ha => first | rfl | assumption)
    with_reducible refine go_gcons (go_gname (go_gcons (go_gname (go_gcons ?_))))
    with_reducible refine go_gname (go_gnil (go_seq (go_asg (go_op ?_))))
    with_reducible refine go_lst (go_cons (go_c (go_cons (go_callC ?_))))
    with_reducible refine go_cons (go_var rfl (go_cons (go_op (go_c ?_))))
    with_reducible refine go_c ?_
    (with_reducible refine' go_i ?cc ?_); (case cc => first | omega | (simp only [CDiv, CMul, CPow]; omega) | (simp only [CDiv, CMul, CPow]; decide))
    with_reducible refine go_nil ?_
    refine nx_go B2.D (by omega) (by omega) (fun r1 H3 a1 b1 D3 o3 => ?_)
    have B3 := B2.off o3 D3
    clear B2 D3 hr2 o3
    with_reducible refine go_nil ?_
    refine go_qlst (Nat.le_of_ble_eq_true rfl) (fun p1 hp1 => ?_)
    with_reducible refine go_callC (go_cons (go_var rfl (go_cons (go_c ?_))))
    with_reducible refine go_nil ?_
    have B3' := B3.same (same_new hp1 (.lst [.int 0, .int r1]))
    refine nx_go B3'.D (by omega) (by omega) (fun r2 H4 a2 b2 D4 o4 => ?_)
    have e4 := o4 _ _ (upd_same (H := H3)) (B3.D.nef hp1)
    have B4 := B3'.off o4 D4
    clear B3 B3' D4 o4 hp1
    obtain ⟨far, hfar, far0, far1⟩ : ∃ z : Int, atI [V.int 0, V.int r1] r2 = some (.int z) ∧ 0 ≤ z ∧ z ≤ 1000000 := by
      obtain ⟨z, hz, hz'⟩ := at_two (x := V.int 0) (y := V.int r1) a2 b2
      rcases hz' with rfl | rfl
      · exact ⟨_, hz, by omega, by omega⟩
      · exact ⟨_, hz, by omega, by omega⟩
    refine go_ixL e4 hfar ?_
    clear e4 hfar a1 b1 a2 b2
    with_reducible refine go_gname (go_seq (go_asg (go_op (go_lst ?_))))
    with_reducible refine go_cons (go_op (go_un (go_c (go_u ?_))))
    with_reducible refine go_var rfl (go_i0 (go_cons (go_op (go_c ?_))))
    with_reducible refine go_var rfl (go_i0 (go_cons (go_c (go_cons ?_))))
    with_reducible refine go_c (go_nil ?_)
    refine go_qlst (Nat.le_of_ble_eq_true rfl) (fun p2 hp2 => ?_)
    with_reducible refine go_callC (go_cons (go_var rfl (go_cons (go_c ?_))))
    with_reducible refine go_nil ?_
    have B4' := B4.same (same_new hp2 (.lst [.int (-1 - far), .int (1000 + far), .bl true, .non]))
    refine nx_go B4'.D (by omega) (by omega) (fun r3 H5 a3 b3 D5 o5 => ?_)
    have e5 := o5 _ _ (upd_same (H := H4)) (B4.D.nef hp2)
    have B5 := B4'.off o5 D5
    clear B4 B4' D5 o5 hp2
    obtain ⟨lost, hlost, elost⟩ := at_mem (xs := [V.int (-1 - far), V.int (1000 + far), V.bl true, V.non]) a3 b3
    have lo : numV lost 0 999 = false ∧ PlA lost := by
      simp only [List.mem_cons, List.not_mem_nil, or_false] at hlost
      rcases hlost with rfl | rfl | rfl | rfl
      · exact ⟨decide_eq_false (by omega), pla_int _⟩
      · exact ⟨decide_eq_false (by omega), pla_int _⟩
      · exact ⟨rfl, pla_bl _⟩
      · exact ⟨rfl, pla_non⟩
    refine go_ixL e5 elost ?_
    clear e5 elost hlost a3 b3
    with_reducible refine go_gname (go_seq (go_asg (go_callC (go_cons ?_))))
    with_reducible refine go_var rfl (go_cons (go_var rfl (go_cons (go_var rfl ?_))))
    with_reducible refine go_nil ?_
    refine ⟨d, wa, W', far, rfl, B5.D, B5.w, B5.nw, by omega, pl.w, far0, far1, fun r6 b6 n6 xs6 H6 o6 D6 er6 eb6 fb6 wb => ?_⟩
    have nb : b6 ≠ d := B5.D.nef fb6
    have B6 := B5.off o6 D6
    clear B5 D6 o6 fb6
    (with_reducible refine' go_gtup ?hp ?ha ?_); (case hp => walk_at "lw_hp"); (case ha => first | rfl | assumption)
    with_reducible refine go_gcons (go_gname (go_gcons (go_gname (go_gnil ?_))))
    with_reducible refine go_seq (go_asg (go_lst (go_cons ?_)))
    clear er6
    refine ⟨B6.T, fun f1 H7 c1 cl1 dV1 ct1 pm1 M1 d1 => ?_⟩
    obtain rfl : dV1 = .none := d1
    have B7 := B6.made M1
    have eb7 := made_at B6.T M1 eb6 nt_lst
    clear eb6
    with_reducible refine go_cons ?_
    refine ⟨B7.T, fun f2 H8 c2 cl2 dV2 ct2 pm2 M2 d2 => ?_⟩
    obtain ⟨t2, tk2, rfl, et2⟩ := d2
    have B8 := B7.made M2
    have eb8 := made_at B7.T M2 eb7 nt_lst
    have l1 := made_at B7.T M2 M1.hf nt_lam
    have k1 := made_at B7.T M2 M1.hc nt_cod
    have l2 := M2.hf
    have k2 := M2.hc
    have C1 := M1.cl
    have C2 := M2.cl
    clear M1 M2 B6 B7 eb7
    with_reducible refine go_nil ?_
    refine go_qlst (Nat.le_of_ble_eq_true rfl) (fun p3 hp3 => ?_)
    with_reducible refine go_gname (go_seq (go_ifS (go_not (go_testB ?_))))
    refine go_callF ?_
    with_reducible refine go_cons (go_var rfl (go_cons (go_tup (go_cons ?_))))
    with_reducible refine go_c (go_cons (go_var rfl (go_nil ?_)))
    refine go_qtup (Nat.le_of_ble_eq_true rfl) (fun p4 hp4 => ?_)
    have S8 := (same_new hp3 (.lst [.ref f1, .ref f2])).trans (same_new hp4 (.tup [.str "weights", .int n6]))
    have B9 := B8.same S8
    have eb9 := S8 _ _ eb8
    have l1 := S8 _ _ l1
    have k1 := S8 _ _ k1
    have l2 := S8 _ _ l2
    have k2 := S8 _ _ k2
    have et2 := S8 _ _ et2
    have ew : upd (upd H8 p3 (.lst [.ref f1, .ref f2])) p4 (.tup [.str "weights", .int n6]) p3 = some (.lst ([f1, f2].map V.ref)) := upd_new hp4 upd_same
    have ed : upd (upd H8 p3 (.lst [.ref f1, .ref f2])) p4 (.tup [.str "weights", .int n6]) p4 = some (.tup [.str "weights", .int n6]) := upd_same
    clear B8 S8 hp3 hp4 eb8
    generalize upd (upd H8 p3 (.lst [.ref f1, .ref f2])) p4 (.tup [.str "weights", .int n6]) = H9 at *
    with_reducible refine go_nil ?_
    intro Hf Fz
    have R1 : Raises P w K mg base ks W Hf (.str "refused" :: [.str "weights", .int n6]) f1 := by
      refine raises_of Fz (N := ["_law_bad", "_law_lost"]) (σ0 := [some (.ref b6), some lost]) (ps := []) (us := []) ⟨rfl, rfl, rfl, by decide +kernel, by decide +kernel, by decide +kernel⟩ C1 l1 k1 (fun _ _ _ _ => BindsTo.of_eq rfl) rfl (fun i x v h1 h2 => ?_) (fun E H1 A outer s sm hr hE => ?_)
      · rcases i with _ | _ | i
        · cases h1; cases h2; exact ⟨9, rfl, rfl, x9, by decide +kernel⟩
        · cases h1; cases h2; exact ⟨4, rfl, rfl, x4, by decide +kernel⟩
        · cases h1
      · refine ⟨_, pe_callE C_costE (hr.mono (by omega)) (by rfl) (pa_cons (pv 0) (pa_cons (pe_lst (pa_cons pe_non pa_nil)) (pa_cons (pv 1) (pa_cons (pe_lst (pa_cons pe_int pa_nil)) pa_nil)))) (pass_al rfl rfl rfl rfl rfl), fun Q => ?_⟩
        generalize delL H1 (cl1.map (·.2)) = Hd at *
        refine go_callE ?_
        with_reducible refine go_cons (go_var rfl (go_cons (go_lst (go_cons ?_))))
        with_reducible refine go_c (go_nil ?_)
        refine go_qlst (Nat.le_of_ble_eq_true rfl) (fun q1 hq1 => ?_)
        with_reducible refine go_cons (go_var rfl (go_cons (go_lst (go_cons ?_))))
        with_reducible refine go_c (go_nil ?_)
        refine go_qlst (Nat.le_of_ble_eq_true rfl) (fun q2 hq2 => ?_)
        with_reducible refine go_nil ?_
        exact .inl ⟨b6, xs6, n6, _, _, _, rfl, (upd_new hq2 (upd_new hq1 (sm _ _ eb9))), wb, fun d H' s' e => hE cW 5 (some d) H' (((same_new hq1 _).trans (same_new hq2 _)).trans s') XkW (.inr (.inl ⟨by decide, d, _, _, rfl, e, rfl, nW, rfl⟩))⟩
    have R2 : Raises P w K mg base ks W Hf (.str "refused" :: [.str "weights", .int n6]) f2 := by
      refine raises_of Fz (N := ["_law_bad", "_law_lost"]) (σ0 := [some (.ref b6), some lost]) (ps := ["_law_a"]) (us := [.int 0 tk2]) ⟨rfl, rfl, rfl, by decide +kernel, by decide +kernel, by decide +kernel⟩ C2 l2 k2 (fun H1 s1 s hok => binds_dflt hok (s1 _ _ (Fz.sub _ _ et2)) rfl rfl rfl) rfl (fun i x v h1 h2 => ?_) (fun E H1 A outer s sm hr hE => ?_)
      · rcases i with _ | _ | i
        · cases h1; cases h2; exact ⟨9, rfl, rfl, x9, by decide +kernel⟩
        · cases h1; cases h2; exact ⟨4, rfl, rfl, x4, by decide +kernel⟩
        · cases h1
      · refine ⟨_, pe_callE C_bestE (hr.mono (by omega)) (by rfl) (pa_cons (pv 0) (pa_cons (pe_lst (pa_cons pe_non pa_nil)) (pa_cons (pv 1) pa_nil))) (pass_al rfl rfl rfl rfl rfl), fun Q => ?_⟩
        generalize delL H1 (cl2.map (·.2)) = Hd at *
        refine go_callE ?_
        with_reducible refine go_cons (go_var rfl (go_cons (go_lst (go_cons ?_))))
        with_reducible refine go_c (go_nil ?_)
        refine go_qlst (Nat.le_of_ble_eq_true rfl) (fun q1 hq1 => ?_)
        with_reducible refine go_cons (go_var rfl (go_nil ?_))
        exact .inl ⟨b6, xs6, n6, _, _, rfl, (upd_new hq1 (sm _ _ eb9)), wb, fun d H' s' e => hE cW 5 (some d) H' ((same_new hq1 _).trans s') XkW (.inr (.inl ⟨by decide, d, _, _, rfl, e, rfl, nW, rfl⟩))⟩
    refine go_refF (fs := [f1, f2]) (due := [.str "weights", .int n6]) Fz ew (Nat.le_of_ble_eq_true rfl) ed (by simp) (Nat.le_of_ble_eq_true rfl) (fun x hx => ?_) (fun g hg => ?_) (fun H10 s11 => ?_)
    · simp at hx
      rcases hx with rfl | rfl
      · exact .inr (.inl ⟨_, rfl⟩)
      · exact .inl ⟨_, rfl⟩
    · simp at hg
      rcases hg with rfl | rfl
      · exact R1
      · exact R2
    have B11 := B9.same s11
    clear R1 R2 l1 k1 C1 l2 k2 C2 et2 ew ed B9 eb9 s11 Fz
    generalize delL H10 _ = H11 at *
    have hwx := B11.w
    with_reducible refine go_qb (go_iteNt (go_next (go_seq (go_asg ?_))))
    with_reducible refine go_callC (go_cons (go_var rfl (go_cons (go_var rfl ?_))))
    with_reducible refine go_cons (go_cb (go_cons (go_var rfl (go_nil ?_))))
    (with_reducible refine' go_lenL ?hp ?_); (case hp => walk_at "lw_hp")
    with_reducible refine go_cons (go_var rfl (go_nil ?_))
    clear nb
    clear wb hwx
    refine ⟨d, fa, F', W'.length, far, by simp, B11.D, B11.f, B11.nf, pl.l, pl.f, pl.s, by omega, by omega, far0, far1, fun r6 b6 n6 xs6 H6 o6 D6 er6 eb6 fb6 wb => ?_⟩
    have B6 := B11.off o6 D6
    clear B11 D6 o6 fb6
    (with_reducible refine' go_gtup ?hp ?ha ?_); (case hp => walk_at "lw_hp"); (case ha => first | rfl | assumption)
    with_reducible refine go_gcons (go_gname (go_gcons (go_gname (go_gnil ?_))))
    with_reducible refine go_seq (go_asg (go_lst (go_cons ?_)))
    clear er6
    refine ⟨B6.T, fun f1 H7 c1 cl1 dV1 ct1 pm1 M1 d1 => ?_⟩
    obtain rfl : dV1 = .none := d1
    have B7 := B6.made M1
    have eb7 := made_at B6.T M1 eb6 nt_lst
    clear eb6
    with_reducible refine go_cons ?_
    refine ⟨B7.T, fun f2 H8 c2 cl2 dV2 ct2 pm2 M2 d2 => ?_⟩
    obtain ⟨t2, tk2, rfl, et2⟩ := d2
    have B8 := B7.made M2
    have eb8 := made_at B7.T M2 eb7 nt_lst
    have l1 := made_at B7.T M2 M1.hf nt_lam
    have k1 := made_at B7.T M2 M1.hc nt_cod
    have l2 := M2.hf
    have k2 := M2.hc
    have C1 := M1.cl
    have C2 := M2.cl
    clear M1 M2 B6 B7 eb7
    with_reducible refine go_nil ?_
    refine go_qlst (Nat.le_of_ble_eq_true rfl) (fun p3 hp3 => ?_)
    with_reducible refine go_gname (go_seq (go_ifS (go_not (go_testB ?_))))
    refine go_callF ?_
    with_reducible refine go_cons (go_var rfl (go_cons (go_tup (go_cons ?_))))
    with_reducible refine go_c (go_cons (go_var rfl (go_nil ?_)))
    refine go_qtup (Nat.le_of_ble_eq_true rfl) (fun p4 hp4 => ?_)
    have S8 := (same_new hp3 (.lst [.ref f1, .ref f2])).trans (same_new hp4 (.tup [.str "falls", .int n6]))
    have B9 := B8.same S8
    have eb9 := S8 _ _ eb8
    have l1 := S8 _ _ l1
    have k1 := S8 _ _ k1
    have l2 := S8 _ _ l2
    have k2 := S8 _ _ k2
    have et2 := S8 _ _ et2
    have ew : upd (upd H8 p3 (.lst [.ref f1, .ref f2])) p4 (.tup [.str "falls", .int n6]) p3 = some (.lst ([f1, f2].map V.ref)) := upd_new hp4 upd_same
    have ed : upd (upd H8 p3 (.lst [.ref f1, .ref f2])) p4 (.tup [.str "falls", .int n6]) p4 = some (.tup [.str "falls", .int n6]) := upd_same
    clear B8 S8 hp3 hp4 eb8
    generalize upd (upd H8 p3 (.lst [.ref f1, .ref f2])) p4 (.tup [.str "falls", .int n6]) = H9 at *
    with_reducible refine go_nil ?_
    intro Hf Fz
    have R1 : Raises P w K mg base ks W Hf (.str "refused" :: [.str "falls", .int n6]) f1 := by
      refine raises_of Fz (N := ["_law_weights", "_law_odd", "_law_lost"]) (σ0 := [some (.ref wa), some (.ref b6), some lost]) (ps := []) (us := []) ⟨rfl, rfl, rfl, by decide +kernel, by decide +kernel, by decide +kernel⟩ C1 l1 k1 (fun _ _ _ _ => BindsTo.of_eq rfl) rfl (fun i x v h1 h2 => ?_) (fun E H1 A outer s sm hr hE => ?_)
      · rcases i with _ | _ | _ | i
        · cases h1; cases h2; exact ⟨6, rfl, rfl, x6, by decide +kernel⟩
        · cases h1; cases h2; exact ⟨11, rfl, rfl, x11, by decide +kernel⟩
        · cases h1; cases h2; exact ⟨4, rfl, rfl, x4, by decide +kernel⟩
        · cases h1
      · refine ⟨_, pe_callE C_costE (hr.mono (by omega)) (by rfl) (pa_cons (pv 0) (pa_cons (pv 1) (pa_cons (pv 2) (pa_cons (pe_lst (pa_cons pe_int pa_nil)) pa_nil)))) (pass_al rfl rfl rfl rfl rfl), fun Q => ?_⟩
        generalize delL H1 (cl1.map (·.2)) = Hd at *
        refine go_callE ?_
        with_reducible refine go_cons (go_var rfl (go_cons (go_var rfl (go_cons ?_))))
        with_reducible refine go_var rfl (go_cons (go_lst (go_cons (go_c ?_))))
        with_reducible refine go_nil ?_
        refine go_qlst (Nat.le_of_ble_eq_true rfl) (fun q1 hq1 => ?_)
        with_reducible refine go_nil ?_
        exact .inr (.inl ⟨wa, b6, W', xs6, n6, _, _, rfl, ⟨(upd_new hq1 (sm _ _ B9.w)), by omega, pl.w⟩, (upd_new hq1 (sm _ _ eb9)), wb, fun d H' s' e => hE cF 6 (some d) H' ((same_new hq1 _).trans s') XkF (.inr (.inl ⟨by decide, d, _, _, rfl, e, rfl, nF, rfl⟩))⟩)
    have R2 : Raises P w K mg base ks W Hf (.str "refused" :: [.str "falls", .int n6]) f2 := by
      refine raises_of Fz (N := ["_law_weights", "_law_odd", "_law_lost"]) (σ0 := [some (.ref wa), some (.ref b6), some lost]) (ps := ["_law_a"]) (us := [.int 0 tk2]) ⟨rfl, rfl, rfl, by decide +kernel, by decide +kernel, by decide +kernel⟩ C2 l2 k2 (fun H1 s1 s hok => binds_dflt hok (s1 _ _ (Fz.sub _ _ et2)) rfl rfl rfl) rfl (fun i x v h1 h2 => ?_) (fun E H1 A outer s sm hr hE => ?_)
      · rcases i with _ | _ | _ | i
        · cases h1; cases h2; exact ⟨6, rfl, rfl, x6, by decide +kernel⟩
        · cases h1; cases h2; exact ⟨11, rfl, rfl, x11, by decide +kernel⟩
        · cases h1; cases h2; exact ⟨4, rfl, rfl, x4, by decide +kernel⟩
        · cases h1
      · refine ⟨_, pe_callE C_bestE (hr.mono (by omega)) (by rfl) (pa_cons (pv 0) (pa_cons (pv 1) (pa_cons (pv 2) pa_nil))) (pass_al rfl rfl rfl rfl rfl), fun Q => ?_⟩
        generalize delL H1 (cl2.map (·.2)) = Hd at *
        refine go_callE ?_
        with_reducible refine go_cons (go_var rfl (go_cons (go_var rfl (go_cons ?_))))
        with_reducible refine go_var rfl (go_nil ?_)
        exact .inr (.inl ⟨wa, b6, W', xs6, n6, _, rfl, ⟨(sm _ _ B9.w), by omega, pl.w⟩, (sm _ _ eb9), wb, fun d H' s' e => hE cF 6 (some d) H' s' XkF (.inr (.inl ⟨by decide, d, _, _, rfl, e, rfl, nF, rfl⟩))⟩)
    refine go_refF (fs := [f1, f2]) (due := [.str "falls", .int n6]) Fz ew (Nat.le_of_ble_eq_true rfl) ed (by simp) (Nat.le_of_ble_eq_true rfl) (fun x hx => ?_) (fun g hg => ?_) (fun H10 s11 => ?_)
    · simp at hx
      rcases hx with rfl | rfl
      · exact .inr (.inl ⟨_, rfl⟩)
      · exact .inl ⟨_, rfl⟩
    · simp at hg
      rcases hg with rfl | rfl
      · exact R1
      · exact R2
    have B11 := B9.same s11
    clear R1 R2 l1 k1 C1 l2 k2 C2 et2 ew ed B9 eb9 s11 Fz
    generalize delL H10 _ = H11 at *
    have hwx := B11.w
    with_reducible refine go_qb (go_iteNt (go_next (go_seq (go_asg ?_))))
    with_reducible refine go_lst (go_cons ?_)
    clear wb hwx
    have B6 := B11
    clear B11
    refine ⟨B6.T, fun f1 H7 c1 cl1 dV1 ct1 pm1 M1 d1 => ?_⟩
    obtain rfl : dV1 = .none := d1
    have B7 := B6.made M1
    with_reducible refine go_cons ?_
    refine ⟨B7.T, fun f2 H8 c2 cl2 dV2 ct2 pm2 M2 d2 => ?_⟩
    obtain ⟨t2, tk2, rfl, et2⟩ := d2
    have B8 := B7.made M2
    have l1 := made_at B7.T M2 M1.hf nt_lam
    have k1 := made_at B7.T M2 M1.hc nt_cod
    have l2 := M2.hf
    have k2 := M2.hc
    have C1 := M1.cl
    have C2 := M2.cl
    clear M1 M2 B6 B7
    with_reducible refine go_nil ?_
    refine go_qlst (Nat.le_of_ble_eq_true rfl) (fun p3 hp3 => ?_)
    with_reducible refine go_gname (go_seq (go_ifS (go_not (go_testB ?_))))
    refine go_callF ?_
    with_reducible refine go_cons (go_var rfl (go_cons (go_tup (go_cons ?_))))
    with_reducible refine go_c (go_nil ?_)
    refine go_qtup (Nat.le_of_ble_eq_true rfl) (fun p4 hp4 => ?_)
    have S8 := (same_new hp3 (.lst [.ref f1, .ref f2])).trans (same_new hp4 (.tup [.str "price"]))
    have B9 := B8.same S8
    have l1 := S8 _ _ l1
    have k1 := S8 _ _ k1
    have l2 := S8 _ _ l2
    have k2 := S8 _ _ k2
    have et2 := S8 _ _ et2
    have ew : upd (upd H8 p3 (.lst [.ref f1, .ref f2])) p4 (.tup [.str "price"]) p3 = some (.lst ([f1, f2].map V.ref)) := upd_new hp4 upd_same
    have ed : upd (upd H8 p3 (.lst [.ref f1, .ref f2])) p4 (.tup [.str "price"]) p4 = some (.tup [.str "price"]) := upd_same
    clear B8 S8 hp3 hp4
    generalize upd (upd H8 p3 (.lst [.ref f1, .ref f2])) p4 (.tup [.str "price"]) = H9 at *
    with_reducible refine go_nil ?_
    intro Hf Fz
    have R1 : Raises P w K mg base ks W Hf (.str "refused" :: [.str "price"]) f1 := by
      refine raises_of Fz (N := ["_law_weights", "_law_falls", "_law_lost"]) (σ0 := [some (.ref wa), some (.ref fa), some lost]) (ps := []) (us := []) ⟨rfl, rfl, rfl, by decide +kernel, by decide +kernel, by decide +kernel⟩ C1 l1 k1 (fun _ _ _ _ => BindsTo.of_eq rfl) rfl (fun i x v h1 h2 => ?_) (fun E H1 A outer s sm hr hE => ?_)
      · rcases i with _ | _ | _ | i
        · cases h1; cases h2; exact ⟨6, rfl, rfl, x6, by decide +kernel⟩
        · cases h1; cases h2; exact ⟨7, rfl, rfl, x7, by decide +kernel⟩
        · cases h1; cases h2; exact ⟨4, rfl, rfl, x4, by decide +kernel⟩
        · cases h1
      · refine ⟨_, pe_callE C_costE (hr.mono (by omega)) (by rfl) (pa_cons (pv 0) (pa_cons (pv 1) (pa_cons (pv 2) (pa_cons (pe_lst (pa_cons pe_int pa_nil)) pa_nil)))) (pass_al rfl rfl rfl rfl rfl), fun Q => ?_⟩
        generalize delL H1 (cl1.map (·.2)) = Hd at *
        refine go_callE ?_
        with_reducible refine go_cons (go_var rfl (go_cons (go_var rfl (go_cons ?_))))
        with_reducible refine go_var rfl (go_cons (go_lst (go_cons (go_c ?_))))
        with_reducible refine go_nil ?_
        refine go_qlst (Nat.le_of_ble_eq_true rfl) (fun q1 hq1 => ?_)
        with_reducible refine go_nil ?_
        exact .inr (.inr (.inl ⟨wa, fa, W', F', lost, _, rfl, ⟨(upd_new hq1 (sm _ _ B9.w)), by omega, pl.w⟩, ⟨(upd_new hq1 (sm _ _ B9.f)), pl.l, pl.f, pl.s⟩, lo.2, lo.1, fun H' s' => hE cP 7 none H' ((same_new hq1 _).trans s') XkP (.inr (.inr (.inr ⟨by decide, rfl⟩)))⟩))
    have R2 : Raises P w K mg base ks W Hf (.str "refused" :: [.str "price"]) f2 := by
      refine raises_of Fz (N := ["_law_weights", "_law_falls", "_law_lost"]) (σ0 := [some (.ref wa), some (.ref fa), some lost]) (ps := ["_law_a"]) (us := [.int 0 tk2]) ⟨rfl, rfl, rfl, by decide +kernel, by decide +kernel, by decide +kernel⟩ C2 l2 k2 (fun H1 s1 s hok => binds_dflt hok (s1 _ _ (Fz.sub _ _ et2)) rfl rfl rfl) rfl (fun i x v h1 h2 => ?_) (fun E H1 A outer s sm hr hE => ?_)
      · rcases i with _ | _ | _ | i
        · cases h1; cases h2; exact ⟨6, rfl, rfl, x6, by decide +kernel⟩
        · cases h1; cases h2; exact ⟨7, rfl, rfl, x7, by decide +kernel⟩
        · cases h1; cases h2; exact ⟨4, rfl, rfl, x4, by decide +kernel⟩
        · cases h1
      · refine ⟨_, pe_callE C_bestE (hr.mono (by omega)) (by rfl) (pa_cons (pv 0) (pa_cons (pv 1) (pa_cons (pv 2) pa_nil))) (pass_al rfl rfl rfl rfl rfl), fun Q => ?_⟩
        generalize delL H1 (cl2.map (·.2)) = Hd at *
        refine go_callE ?_
        with_reducible refine go_cons (go_var rfl (go_cons (go_var rfl (go_cons ?_))))
        with_reducible refine go_var rfl (go_nil ?_)
        exact .inr (.inr ⟨wa, fa, W', F', lost, rfl, ⟨(sm _ _ B9.w), by omega, pl.w⟩, ⟨(sm _ _ B9.f), pl.l, pl.f, pl.s⟩, lo.2, lo.1, fun H' s' => hE cP 7 none H' s' XkP (.inr (.inr (.inr ⟨by decide, rfl⟩)))⟩)
    refine go_refF (fs := [f1, f2]) (due := [.str "price"]) Fz ew (Nat.le_of_ble_eq_true rfl) ed (by simp) (Nat.le_of_ble_eq_true rfl) (fun x hx => ?_) (fun g hg => ?_) (fun H10 s11 => ?_)
    · simp at hx
      rw [hx]
      exact .inr (.inl ⟨_, rfl⟩)
    · simp at hg
      rcases hg with rfl | rfl
      · exact R1
      · exact R2
    have B11 := B9.same s11
    clear R1 R2 l1 k1 C1 l2 k2 C2 et2 ew ed B9 s11 Fz
    generalize delL H10 _ = H11 at *
    have hwx := B11.w
    with_reducible refine go_qb (go_iteNt (go_next (go_seq (go_asg ?_))))
    with_reducible refine go_callC (go_cons (go_var rfl (go_cons (go_cb ?_))))
    with_reducible refine go_cons (go_var rfl (go_nil ?_))
    (with_reducible refine' go_lenL ?hp ?_); (case hp => walk_at "lw_hp")
    with_reducible refine go_cons (go_var rfl (go_nil ?_))
    clear hwx
    refine ⟨d, W'.length, far, by simp, B11.D, by omega, by omega, far0, far1, fun r6 b6 n6 xs6 H6 o6 D6 er6 eb6 fb6 wb => ?_⟩
    have B6 := B11.off o6 D6
    clear B11 D6 o6 fb6
    (with_reducible refine' go_gtup ?hp ?ha ?_); (case hp => walk_at "lw_hp"); (case ha => first | rfl | assumption)
    with_reducible refine go_gcons (go_gname (go_gcons (go_gname (go_gnil ?_))))
    with_reducible refine go_seq (go_ifS (go_not (go_testB ?_)))
    clear er6
    refine go_callF ?_
    with_reducible refine go_cons (go_lst (go_cons ?_))
    refine ⟨B6.T, fun f1 H7 c1 cl1 dV1 ct1 pm1 M1 d1 => ?_⟩
    obtain rfl : dV1 = .none := d1
    have B7 := B6.made M1
    have eb7 := made_at B6.T M1 eb6 nt_lst
    clear eb6
    with_reducible refine go_nil ?_
    have l1 := M1.hf
    have k1 := M1.hc
    have C1 := M1.cl
    clear M1 B6
    refine go_qlst (Nat.le_of_ble_eq_true rfl) (fun p3 hp3 => ?_)
    with_reducible refine go_cons (go_tup (go_cons (go_c (go_cons ?_))))
    with_reducible refine go_var rfl (go_nil ?_)
    refine go_qtup (Nat.le_of_ble_eq_true rfl) (fun p4 hp4 => ?_)
    have S8 := (same_new hp3 (.lst [.ref f1])).trans (same_new hp4 (.tup [.str "marks", .int n6]))
    have B9 := B7.same S8
    have eb9 := S8 _ _ eb7
    have l1 := S8 _ _ l1
    have k1 := S8 _ _ k1
    have ew : upd (upd H7 p3 (.lst [.ref f1])) p4 (.tup [.str "marks", .int n6]) p3 = some (.lst ([f1].map V.ref)) := upd_new hp4 upd_same
    have ed : upd (upd H7 p3 (.lst [.ref f1])) p4 (.tup [.str "marks", .int n6]) p4 = some (.tup [.str "marks", .int n6]) := upd_same
    clear B7 S8 hp3 hp4 eb7
    generalize upd (upd H7 p3 (.lst [.ref f1])) p4 (.tup [.str "marks", .int n6]) = H9 at *
    with_reducible refine go_nil ?_
    intro Hf Fz
    have R1 : Raises P w K mg base ks W Hf (.str "refused" :: [.str "marks", .int n6]) f1 := by
      refine raises_of Fz (N := ["_law_weights", "_law_falls", "_law_price", "_law_marks"]) (σ0 := [some (.ref wa), some (.ref fa), some (.int p), some (.ref b6)]) (ps := []) (us := []) ⟨rfl, rfl, rfl, by decide +kernel, by decide +kernel, by decide +kernel⟩ C1 l1 k1 (fun _ _ _ _ => BindsTo.of_eq rfl) rfl (fun i x v h1 h2 => ?_) (fun E H1 A outer s sm hr hE => ?_)
      · rcases i with _ | _ | _ | _ | i
        · cases h1; cases h2; exact ⟨6, rfl, rfl, x6, by decide +kernel⟩
        · cases h1; cases h2; exact ⟨7, rfl, rfl, x7, by decide +kernel⟩
        · cases h1; cases h2; exact ⟨8, rfl, rfl, x8, by decide +kernel⟩
        · cases h1; cases h2; exact ⟨12, rfl, rfl, x12, by decide +kernel⟩
        · cases h1
      · refine ⟨_, pe_callE C_costE (hr.mono (by omega)) (by rfl) (pa_cons (pv 0) (pa_cons (pv 1) (pa_cons (pv 2) (pa_cons (pv 3) pa_nil)))) (pass_al rfl rfl rfl rfl rfl), fun Q => ?_⟩
        generalize delL H1 (cl1.map (·.2)) = Hd at *
        refine go_callE ?_
        with_reducible refine go_cons (go_var rfl (go_cons (go_var rfl (go_cons ?_))))
        with_reducible refine go_var rfl (go_cons (go_var rfl (go_nil ?_)))
        exact .inr (.inr (.inr ⟨wa, fa, b6, W', F', p, xs6, n6, rfl, ⟨(sm _ _ B9.w), by omega, pl.w⟩, ⟨(sm _ _ B9.f), pl.l, pl.f, pl.s⟩, pl.p0, pl.p1, sm _ _ eb9, wb, fun d H' s' e => hE cM 8 (some d) H' s' XkM (.inr (.inl ⟨by decide, d, _, _, rfl, e, rfl, nM, rfl⟩))⟩))
    refine go_refF (fs := [f1]) (due := [.str "marks", .int n6]) Fz ew (Nat.le_of_ble_eq_true rfl) ed (by simp) (Nat.le_of_ble_eq_true rfl) (fun x hx => ?_) (fun g hg => ?_) (fun H10 s11 => ?_)
    · simp at hx
      rcases hx with rfl | rfl
      · exact .inr (.inl ⟨_, rfl⟩)
      · exact .inl ⟨_, rfl⟩
    · simp at hg
      rw [hg]
      exact R1
    have B11 := B9.same s11
    clear R1  l1 k1 C1  ew ed B9 eb9 s11 Fz
    generalize delL H10 _ = H11 at *
    have hwx := B11.w
    with_reducible refine go_qb (go_iteNt (go_next (go_ifS (go_or ?_))))
    with_reducible refine go_test (go_op (go_op (go_callC (go_cons ?_))))
    with_reducible refine go_op (go_lst (go_cons (go_c (go_nil ?_))))
    clear wb hwx
    refine go_qlst (Nat.le_of_ble_eq_true rfl) (fun z1 hz1 => ?_)
    with_reducible refine go_c ?_
    refine go_rep1 upd_same (by decide) (by decide) (fun z2 hz2 => ?_)
    with_reducible refine go_cons (go_op (go_lst (go_cons (go_c ?_))))
    with_reducible refine go_nil ?_
    refine go_qlst (Nat.le_of_ble_eq_true rfl) (fun z3 hz3 => ?_)
    with_reducible refine go_c ?_
    refine go_rep1 upd_same (by decide) (by decide) (fun z4 hz4 => ?_)
    with_reducible refine go_cons (go_c (go_nil ?_))
    have S4 := (((same_new hz1 (.lst [V.int 99])).trans (same_new hz2 (.lst (List.replicate (60 : Int).toNat (V.int 99))))).trans (same_new hz3 (.lst [V.int 60]))).trans (same_new hz4 (.lst (List.replicate (20 : Int).toNat (V.int 60))))
    have B12 := B11.same S4
    refine ⟨z2, z4, List.replicate 60 99, List.replicate 20 60, 999, rfl, (upd_new hz4 (upd_new hz3 upd_same)).trans (by simp [List.map_replicate]), upd_same.trans (by simp [List.map_replicate]), by simp, fun x hx => ?_, by simp, fun x hx => ?_, by simp [List.pairwise_replicate], by decide, by decide, fun r12 H13 x12 S13 hx12 ox => ?_⟩
    · rw [List.eq_of_mem_replicate hx]; decide
    · rw [List.eq_of_mem_replicate hx, List.length_replicate]; decide
    obtain ⟨ml, y1, _, _⟩ := hx12
    have B13 := B12.same S13
    have nn : ¬ x12.1 < 0 := by
      rw [ox.val]
      have := Cm_nn (F := List.replicate 20 60) (W := List.replicate 60 99) (fun x hx => by rw [List.eq_of_mem_replicate hx]; decide) (by decide : (0 : Int) ≤ 999) x12.2 0
      omega
    clear B11 B12 S4 S13 hz1 hz2 hz3 hz4 ox
    with_reducible refine go_c ?_
    (with_reducible refine' go_ixT ?hp ?ha ?_); (case hp => walk_at "lw_hp"); (case ha => first | rfl | assumption)
    with_reducible refine go_c (go_i0 (go_qb (go_iteDF (by first | assumption | omega | decide | decide +kernel | (simp only [List.length_cons, List.length_nil, List.length_map]; omega)) (go_test ?_))))
    with_reducible refine go_op (go_callC (go_cons (go_var rfl (go_cons ?_))))
    with_reducible refine go_var rfl (go_cons (go_c (go_cons (go_lst ?_))))
    with_reducible refine go_nil ?_
    refine go_qlst (Nat.le_of_ble_eq_true rfl) (fun z5 hz5 => ?_)
    have B14 := B13.same (same_new hz5 (.lst []))
    have e14 : upd H13 z5 (.lst []) z5 = some (.lst (([] : List Int).map V.int)) := upd_same
    clear B13 y1 hz5
    generalize upd H13 z5 (.lst []) = H14 at *
    with_reducible refine go_nil ?_
    refine ⟨wa, fa, z5, W', F', [], 999, rfl, B14.w, B14.f, e14, by omega, pl.w, pl.l, pl.f, pl.s, ⟨.nil, fun m h => by cases h⟩, by decide, by decide, fun H15 S15 => ?_⟩
    have n2 : ¬ Cm W' F' 999 0 [] < 0 := by
      have := Cm_nn (F := F') pl.w (by decide : (0 : Int) ≤ 999) [] 0
      omega
    have B15 := B14.same S15
    clear B14 e14 S15
    with_reducible refine go_c (go_i0 (go_qb (go_iteDF (by first | assumption | omega | decide | decide +kernel | (simp only [List.length_cons, List.length_nil, List.length_map]; omega)) (go_next ?_))))
    exact ⟨_, _, _, _, _, _, _, _, _, _, _, rfl, B15.D, B15.T⟩
  · rintro σ H' ⟨v2, v3, v4, v5, v6, v7, v8, v9, v10, v11, v12, rfl, D, T⟩
    with_reducible refine go_ret (go_c ?_)
    exact k _
end
end Lw
namespace Lw
open PySem L2
section
set_option maxHeartbeats 4000000
theorem all_mk {l : PySem.W.OpenLaw} {w : World} {K : PySem.W.Frag} {h : Heap} {mg : Str → Option Value} {fa : Addr} (X : K.In h) (G : h.Ns mainGlobals mg) (hfa : mg "law" = some (.ref fa))
    {f_is_number : Addr} {od_is_number an_is_number : Option Addr} {sl_is_number : Array (Option Value)} {oc_is_number kV_is_number dc_is_number pm_is_number cd_is_number ct_is_number : Value}
    {f_check_weights : Addr} {od_check_weights an_check_weights : Option Addr} {sl_check_weights : Array (Option Value)} {oc_check_weights kV_check_weights dc_check_weights pm_check_weights cd_check_weights ct_check_weights : Value}
    {f_check_falls : Addr} {od_check_falls an_check_falls : Option Addr} {sl_check_falls : Array (Option Value)} {oc_check_falls kV_check_falls dc_check_falls pm_check_falls cd_check_falls ct_check_falls : Value}
    {f_check_price : Addr} {od_check_price an_check_price : Option Addr} {sl_check_price : Array (Option Value)} {oc_check_price kV_check_price dc_check_price pm_check_price cd_check_price ct_check_price : Value}
    {f_check_marks : Addr} {od_check_marks an_check_marks : Option Addr} {sl_check_marks : Array (Option Value)} {oc_check_marks kV_check_marks dc_check_marks pm_check_marks cd_check_marks ct_check_marks : Value}
    {f_done_again : Addr} {od_done_again an_done_again : Option Addr} {sl_done_again : Array (Option Value)} {oc_done_again kV_done_again dc_done_again pm_done_again cd_done_again ct_done_again : Value}
    {f_cost : Addr} {od_cost an_cost : Option Addr} {sl_cost : Array (Option Value)} {oc_cost kV_cost dc_cost pm_cost cd_cost ct_cost : Value}
    {f_best_behind : Addr} {od_best_behind an_best_behind : Option Addr} {sl_best_behind : Array (Option Value)} {oc_best_behind kV_best_behind dc_best_behind pm_best_behind cd_best_behind ct_best_behind : Value}
    {f_best : Addr} {od_best an_best : Option Addr} {sl_best : Array (Option Value)} {oc_best kV_best dc_best pm_best cd_best ct_best : Value}
    {f_law_dice : Addr} {od_law_dice an_law_dice : Option Addr} {sl_law_dice : Array (Option Value)} {oc_law_dice kV_law_dice dc_law_dice pm_law_dice cd_law_dice ct_law_dice : Value}
    {f_law_next : Addr} {od_law_next an_law_next : Option Addr} {sl_law_next : Array (Option Value)} {oc_law_next kV_law_next dc_law_next pm_law_next cd_law_next ct_law_next : Value}
    {f_law_like : Addr} {od_law_like an_law_like : Option Addr} {sl_law_like : Array (Option Value)} {oc_law_like kV_law_like dc_law_like pm_law_like cd_law_like ct_law_like : Value}
    {f_law_plan : Addr} {od_law_plan an_law_plan : Option Addr} {sl_law_plan : Array (Option Value)} {oc_law_plan kV_law_plan dc_law_plan pm_law_plan cd_law_plan ct_law_plan : Value}
    {f_law_told_by : Addr} {od_law_told_by an_law_told_by : Option Addr} {sl_law_told_by : Array (Option Value)} {oc_law_told_by kV_law_told_by dc_law_told_by pm_law_told_by cd_law_told_by ct_law_told_by : Value}
    {f_law_is_refused : Addr} {od_law_is_refused an_law_is_refused : Option Addr} {sl_law_is_refused : Array (Option Value)} {oc_law_is_refused kV_law_is_refused dc_law_is_refused pm_law_is_refused cd_law_is_refused ct_law_is_refused : Value}
    {f_law_bad_weights : Addr} {od_law_bad_weights an_law_bad_weights : Option Addr} {sl_law_bad_weights : Array (Option Value)} {oc_law_bad_weights kV_law_bad_weights dc_law_bad_weights pm_law_bad_weights cd_law_bad_weights ct_law_bad_weights : Value}
    {f_law_bad_falls : Addr} {od_law_bad_falls an_law_bad_falls : Option Addr} {sl_law_bad_falls : Array (Option Value)} {oc_law_bad_falls kV_law_bad_falls dc_law_bad_falls pm_law_bad_falls cd_law_bad_falls ct_law_bad_falls : Value}
    {f_law_bad_marks : Addr} {od_law_bad_marks an_law_bad_marks : Option Addr} {sl_law_bad_marks : Array (Option Value)} {oc_law_bad_marks kV_law_bad_marks dc_law_bad_marks pm_law_bad_marks cd_law_bad_marks ct_law_bad_marks : Value}
    {f_law cc Tb : Addr} {od_law an_law dC_law : Option Addr} {sl_law sC_law : Array (Option Value)} {oc_law oC_law kV_law dc_law pm_law ct_law : Value} {vs_law : Array Value}
    {f_BadWeights___init__ : Addr} {od_BadWeights___init__ an_BadWeights___init__ : Option Addr} {sl_BadWeights___init__ : Array (Option Value)} {oc_BadWeights___init__ kV_BadWeights___init__ dc_BadWeights___init__ pm_BadWeights___init__ cd_BadWeights___init__ ct_BadWeights___init__ : Value}
    {f_BadFalls___init__ : Addr} {od_BadFalls___init__ an_BadFalls___init__ : Option Addr} {sl_BadFalls___init__ : Array (Option Value)} {oc_BadFalls___init__ kV_BadFalls___init__ dc_BadFalls___init__ pm_BadFalls___init__ cd_BadFalls___init__ ct_BadFalls___init__ : Value}
    {f_BadMarks___init__ : Addr} {od_BadMarks___init__ an_BadMarks___init__ : Option Addr} {sl_BadMarks___init__ : Array (Option Value)} {oc_BadMarks___init__ kV_BadMarks___init__ dc_BadMarks___init__ pm_BadMarks___init__ cd_BadMarks___init__ ct_BadMarks___init__ : Value}
    {t_MOST_STEPS : Tok}
    {t_MOST_WEIGHT : Tok}
    {t_MOST_FALLS : Tok}
    {t_MOST_PRICE : Tok}
    {W cP cH cW cO cL cG cF cR cM cT : Addr}
    (a_is_number : PySem.W.nsIn K mainGlobals "is_number" = some (some (.ref f_is_number)))
    (l_is_number : K.lookup f_is_number = some ⟨oc_is_number, od_is_number, .func (PySem.W.fnOf "is_number" "is_number" (defArgs s_is_number) (defBody s_is_number) (defScope s_is_number) .none kV_is_number dc_is_number pm_is_number an_is_number cd_is_number ct_is_number), sl_is_number⟩)
    (c_is_number : PySem.W.codeIn K cd_is_number "is_number" = true)
    (k_is_number : PySem.W.keepIn K (.ref f_is_number) = true)
    (a_check_weights : PySem.W.nsIn K mainGlobals "check_weights" = some (some (.ref f_check_weights)))
    (l_check_weights : K.lookup f_check_weights = some ⟨oc_check_weights, od_check_weights, .func (PySem.W.fnOf "check_weights" "check_weights" (defArgs s_check_weights) (defBody s_check_weights) (defScope s_check_weights) .none kV_check_weights dc_check_weights pm_check_weights an_check_weights cd_check_weights ct_check_weights), sl_check_weights⟩)
    (c_check_weights : PySem.W.codeIn K cd_check_weights "check_weights" = true)
    (k_check_weights : PySem.W.keepIn K (.ref f_check_weights) = true)
    (a_check_falls : PySem.W.nsIn K mainGlobals "check_falls" = some (some (.ref f_check_falls)))
    (l_check_falls : K.lookup f_check_falls = some ⟨oc_check_falls, od_check_falls, .func (PySem.W.fnOf "check_falls" "check_falls" (defArgs s_check_falls) (defBody s_check_falls) (defScope s_check_falls) .none kV_check_falls dc_check_falls pm_check_falls an_check_falls cd_check_falls ct_check_falls), sl_check_falls⟩)
    (c_check_falls : PySem.W.codeIn K cd_check_falls "check_falls" = true)
    (k_check_falls : PySem.W.keepIn K (.ref f_check_falls) = true)
    (a_check_price : PySem.W.nsIn K mainGlobals "check_price" = some (some (.ref f_check_price)))
    (l_check_price : K.lookup f_check_price = some ⟨oc_check_price, od_check_price, .func (PySem.W.fnOf "check_price" "check_price" (defArgs s_check_price) (defBody s_check_price) (defScope s_check_price) .none kV_check_price dc_check_price pm_check_price an_check_price cd_check_price ct_check_price), sl_check_price⟩)
    (c_check_price : PySem.W.codeIn K cd_check_price "check_price" = true)
    (k_check_price : PySem.W.keepIn K (.ref f_check_price) = true)
    (a_check_marks : PySem.W.nsIn K mainGlobals "check_marks" = some (some (.ref f_check_marks)))
    (l_check_marks : K.lookup f_check_marks = some ⟨oc_check_marks, od_check_marks, .func (PySem.W.fnOf "check_marks" "check_marks" (defArgs s_check_marks) (defBody s_check_marks) (defScope s_check_marks) .none kV_check_marks dc_check_marks pm_check_marks an_check_marks cd_check_marks ct_check_marks), sl_check_marks⟩)
    (c_check_marks : PySem.W.codeIn K cd_check_marks "check_marks" = true)
    (k_check_marks : PySem.W.keepIn K (.ref f_check_marks) = true)
    (a_done_again : PySem.W.nsIn K mainGlobals "done_again" = some (some (.ref f_done_again)))
    (l_done_again : K.lookup f_done_again = some ⟨oc_done_again, od_done_again, .func (PySem.W.fnOf "done_again" "done_again" (defArgs s_done_again) (defBody s_done_again) (defScope s_done_again) .none kV_done_again dc_done_again pm_done_again an_done_again cd_done_again ct_done_again), sl_done_again⟩)
    (c_done_again : PySem.W.codeIn K cd_done_again "done_again" = true)
    (k_done_again : PySem.W.keepIn K (.ref f_done_again) = true)
    (a_cost : PySem.W.nsIn K mainGlobals "cost" = some (some (.ref f_cost)))
    (l_cost : K.lookup f_cost = some ⟨oc_cost, od_cost, .func (PySem.W.fnOf "cost" "cost" (defArgs s_cost) (defBody s_cost) (defScope s_cost) .none kV_cost dc_cost pm_cost an_cost cd_cost ct_cost), sl_cost⟩)
    (c_cost : PySem.W.codeIn K cd_cost "cost" = true)
    (k_cost : PySem.W.keepIn K (.ref f_cost) = true)
    (a_best_behind : PySem.W.nsIn K mainGlobals "best_behind" = some (some (.ref f_best_behind)))
    (l_best_behind : K.lookup f_best_behind = some ⟨oc_best_behind, od_best_behind, .func (PySem.W.fnOf "best_behind" "best_behind" (defArgs s_best_behind) (defBody s_best_behind) (defScope s_best_behind) .none kV_best_behind dc_best_behind pm_best_behind an_best_behind cd_best_behind ct_best_behind), sl_best_behind⟩)
    (c_best_behind : PySem.W.codeIn K cd_best_behind "best_behind" = true)
    (k_best_behind : PySem.W.keepIn K (.ref f_best_behind) = true)
    (a_best : PySem.W.nsIn K mainGlobals "best" = some (some (.ref f_best)))
    (l_best : K.lookup f_best = some ⟨oc_best, od_best, .func (PySem.W.fnOf "best" "best" (defArgs s_best) (defBody s_best) (defScope s_best) .none kV_best dc_best pm_best an_best cd_best ct_best), sl_best⟩)
    (c_best : PySem.W.codeIn K cd_best "best" = true)
    (k_best : PySem.W.keepIn K (.ref f_best) = true)
    (a_law_dice : PySem.W.nsIn K mainGlobals "_law_dice" = some (some (.ref f_law_dice)))
    (l_law_dice : K.lookup f_law_dice = some ⟨oc_law_dice, od_law_dice, .func (PySem.W.fnOf "_law_dice" "_law_dice" (defArgs s__law_dice) (defBody s__law_dice) (defScope s__law_dice) .none kV_law_dice dc_law_dice pm_law_dice an_law_dice cd_law_dice ct_law_dice), sl_law_dice⟩)
    (c_law_dice : PySem.W.codeIn K cd_law_dice "_law_dice" = true)
    (k_law_dice : PySem.W.keepIn K (.ref f_law_dice) = true)
    (a_law_next : PySem.W.nsIn K mainGlobals "_law_next" = some (some (.ref f_law_next)))
    (l_law_next : K.lookup f_law_next = some ⟨oc_law_next, od_law_next, .func (PySem.W.fnOf "_law_next" "_law_next" (defArgs s__law_next) (defBody s__law_next) (defScope s__law_next) .none kV_law_next dc_law_next pm_law_next an_law_next cd_law_next ct_law_next), sl_law_next⟩)
    (c_law_next : PySem.W.codeIn K cd_law_next "_law_next" = true)
    (k_law_next : PySem.W.keepIn K (.ref f_law_next) = true)
    (a_law_like : PySem.W.nsIn K mainGlobals "_law_like" = some (some (.ref f_law_like)))
    (l_law_like : K.lookup f_law_like = some ⟨oc_law_like, od_law_like, .func (PySem.W.fnOf "_law_like" "_law_like" (defArgs s__law_like) (defBody s__law_like) (defScope s__law_like) .none kV_law_like dc_law_like pm_law_like an_law_like cd_law_like ct_law_like), sl_law_like⟩)
    (c_law_like : PySem.W.codeIn K cd_law_like "_law_like" = true)
    (k_law_like : PySem.W.keepIn K (.ref f_law_like) = true)
    (a_law_plan : PySem.W.nsIn K mainGlobals "_law_plan" = some (some (.ref f_law_plan)))
    (l_law_plan : K.lookup f_law_plan = some ⟨oc_law_plan, od_law_plan, .func (PySem.W.fnOf "_law_plan" "_law_plan" (defArgs s__law_plan) (defBody s__law_plan) (defScope s__law_plan) .none kV_law_plan dc_law_plan pm_law_plan an_law_plan cd_law_plan ct_law_plan), sl_law_plan⟩)
    (c_law_plan : PySem.W.codeIn K cd_law_plan "_law_plan" = true)
    (k_law_plan : PySem.W.keepIn K (.ref f_law_plan) = true)
    (a_law_told_by : PySem.W.nsIn K mainGlobals "_law_told_by" = some (some (.ref f_law_told_by)))
    (l_law_told_by : K.lookup f_law_told_by = some ⟨oc_law_told_by, od_law_told_by, .func (PySem.W.fnOf "_law_told_by" "_law_told_by" (defArgs s__law_told_by) (defBody s__law_told_by) (defScope s__law_told_by) .none kV_law_told_by dc_law_told_by pm_law_told_by an_law_told_by cd_law_told_by ct_law_told_by), sl_law_told_by⟩)
    (c_law_told_by : PySem.W.codeIn K cd_law_told_by "_law_told_by" = true)
    (k_law_told_by : PySem.W.keepIn K (.ref f_law_told_by) = true)
    (a_law_is_refused : PySem.W.nsIn K mainGlobals "_law_is_refused" = some (some (.ref f_law_is_refused)))
    (l_law_is_refused : K.lookup f_law_is_refused = some ⟨oc_law_is_refused, od_law_is_refused, .func (PySem.W.fnOf "_law_is_refused" "_law_is_refused" (defArgs s__law_is_refused) (defBody s__law_is_refused) (defScope s__law_is_refused) .none kV_law_is_refused dc_law_is_refused pm_law_is_refused an_law_is_refused cd_law_is_refused ct_law_is_refused), sl_law_is_refused⟩)
    (c_law_is_refused : PySem.W.codeIn K cd_law_is_refused "_law_is_refused" = true)
    (k_law_is_refused : PySem.W.keepIn K (.ref f_law_is_refused) = true)
    (a_law_bad_weights : PySem.W.nsIn K mainGlobals "_law_bad_weights" = some (some (.ref f_law_bad_weights)))
    (l_law_bad_weights : K.lookup f_law_bad_weights = some ⟨oc_law_bad_weights, od_law_bad_weights, .func (PySem.W.fnOf "_law_bad_weights" "_law_bad_weights" (defArgs s__law_bad_weights) (defBody s__law_bad_weights) (defScope s__law_bad_weights) .none kV_law_bad_weights dc_law_bad_weights pm_law_bad_weights an_law_bad_weights cd_law_bad_weights ct_law_bad_weights), sl_law_bad_weights⟩)
    (c_law_bad_weights : PySem.W.codeIn K cd_law_bad_weights "_law_bad_weights" = true)
    (k_law_bad_weights : PySem.W.keepIn K (.ref f_law_bad_weights) = true)
    (a_law_bad_falls : PySem.W.nsIn K mainGlobals "_law_bad_falls" = some (some (.ref f_law_bad_falls)))
    (l_law_bad_falls : K.lookup f_law_bad_falls = some ⟨oc_law_bad_falls, od_law_bad_falls, .func (PySem.W.fnOf "_law_bad_falls" "_law_bad_falls" (defArgs s__law_bad_falls) (defBody s__law_bad_falls) (defScope s__law_bad_falls) .none kV_law_bad_falls dc_law_bad_falls pm_law_bad_falls an_law_bad_falls cd_law_bad_falls ct_law_bad_falls), sl_law_bad_falls⟩)
    (c_law_bad_falls : PySem.W.codeIn K cd_law_bad_falls "_law_bad_falls" = true)
    (k_law_bad_falls : PySem.W.keepIn K (.ref f_law_bad_falls) = true)
    (a_law_bad_marks : PySem.W.nsIn K mainGlobals "_law_bad_marks" = some (some (.ref f_law_bad_marks)))
    (l_law_bad_marks : K.lookup f_law_bad_marks = some ⟨oc_law_bad_marks, od_law_bad_marks, .func (PySem.W.fnOf "_law_bad_marks" "_law_bad_marks" (defArgs s__law_bad_marks) (defBody s__law_bad_marks) (defScope s__law_bad_marks) .none kV_law_bad_marks dc_law_bad_marks pm_law_bad_marks an_law_bad_marks cd_law_bad_marks ct_law_bad_marks), sl_law_bad_marks⟩)
    (c_law_bad_marks : PySem.W.codeIn K cd_law_bad_marks "_law_bad_marks" = true)
    (k_law_bad_marks : PySem.W.keepIn K (.ref f_law_bad_marks) = true)
    (a_law : PySem.W.nsIn K mainGlobals "law" = some (some (.ref f_law)))
    (l_law : K.lookup f_law = some ⟨oc_law, od_law, .func (PySem.W.fnOf "law" "law" (defArgs s_law) (defBody s_law) (defScope s_law) .none kV_law dc_law pm_law an_law (.ref cc) ct_law), sl_law⟩)
    (c_law : PySem.W.codeIn K (.ref cc) "law" = true)
    (k_law : PySem.W.keepIn K (.ref f_law) = true)
    (lc_law : K.lookup cc = some ⟨oC_law, dC_law, .fields vs_law, sC_law⟩)
    (tp_law : (vs_law[11]? : Option Value) = some (.ref Tb))
    (nt_law : PySem.W.noTabs K = true)
    (ns_WorkError : PySem.W.nsIn K mainGlobals "WorkError" = some (some (.ref W)))
    (ns_BadProgram : PySem.W.nsIn K mainGlobals "BadProgram" = some (some (.ref cP)))
    (ns_BadHanded : PySem.W.nsIn K mainGlobals "BadHanded" = some (some (.ref cH)))
    (ns_BadWay : PySem.W.nsIn K mainGlobals "BadWay" = some (some (.ref cW)))
    (ns_BadOften : PySem.W.nsIn K mainGlobals "BadOften" = some (some (.ref cO)))
    (ns_BadLog : PySem.W.nsIn K mainGlobals "BadLog" = some (some (.ref cL)))
    (ns_BadWeights : PySem.W.nsIn K mainGlobals "BadWeights" = some (some (.ref cG)))
    (ns_BadFalls : PySem.W.nsIn K mainGlobals "BadFalls" = some (some (.ref cF)))
    (ns_BadPrice : PySem.W.nsIn K mainGlobals "BadPrice" = some (some (.ref cR)))
    (ns_BadMarks : PySem.W.nsIn K mainGlobals "BadMarks" = some (some (.ref cM)))
    (ns_BadText : PySem.W.nsIn K mainGlobals "BadText" = some (some (.ref cT)))
    (a_BadWeights___init__ : PySem.W.findIn K (.ref cG) "__init__" = some (some (.ref f_BadWeights___init__)))
    (i_BadWeights___init__ : PySem.W.isFn K (.ref f_BadWeights___init__) = true)
    (l_BadWeights___init__ : K.lookup f_BadWeights___init__ = some ⟨oc_BadWeights___init__, od_BadWeights___init__, .func (PySem.W.fnOf "__init__" "BadWeights.__init__" (defArgs s_BadWeights___init__) (defBody s_BadWeights___init__) (defScope s_BadWeights___init__) .none kV_BadWeights___init__ dc_BadWeights___init__ pm_BadWeights___init__ an_BadWeights___init__ cd_BadWeights___init__ ct_BadWeights___init__), sl_BadWeights___init__⟩)
    (c_BadWeights___init__ : PySem.W.codeIn K cd_BadWeights___init__ "BadWeights.__init__" = true)
    (k_BadWeights___init__ : PySem.W.keepIn K (.ref f_BadWeights___init__) = true)
    (a_BadFalls___init__ : PySem.W.findIn K (.ref cF) "__init__" = some (some (.ref f_BadFalls___init__)))
    (i_BadFalls___init__ : PySem.W.isFn K (.ref f_BadFalls___init__) = true)
    (l_BadFalls___init__ : K.lookup f_BadFalls___init__ = some ⟨oc_BadFalls___init__, od_BadFalls___init__, .func (PySem.W.fnOf "__init__" "BadFalls.__init__" (defArgs s_BadFalls___init__) (defBody s_BadFalls___init__) (defScope s_BadFalls___init__) .none kV_BadFalls___init__ dc_BadFalls___init__ pm_BadFalls___init__ an_BadFalls___init__ cd_BadFalls___init__ ct_BadFalls___init__), sl_BadFalls___init__⟩)
    (c_BadFalls___init__ : PySem.W.codeIn K cd_BadFalls___init__ "BadFalls.__init__" = true)
    (k_BadFalls___init__ : PySem.W.keepIn K (.ref f_BadFalls___init__) = true)
    (a_BadMarks___init__ : PySem.W.findIn K (.ref cM) "__init__" = some (some (.ref f_BadMarks___init__)))
    (i_BadMarks___init__ : PySem.W.isFn K (.ref f_BadMarks___init__) = true)
    (l_BadMarks___init__ : K.lookup f_BadMarks___init__ = some ⟨oc_BadMarks___init__, od_BadMarks___init__, .func (PySem.W.fnOf "__init__" "BadMarks.__init__" (defArgs s_BadMarks___init__) (defBody s_BadMarks___init__) (defScope s_BadMarks___init__) .none kV_BadMarks___init__ dc_BadMarks___init__ pm_BadMarks___init__ an_BadMarks___init__ cd_BadMarks___init__ ct_BadMarks___init__), sl_BadMarks___init__⟩)
    (c_BadMarks___init__ : PySem.W.codeIn K cd_BadMarks___init__ "BadMarks.__init__" = true)
    (k_BadMarks___init__ : PySem.W.keepIn K (.ref f_BadMarks___init__) = true)
    (z_sum : PySem.W.nsIn K mainGlobals "sum" = some none)
    (z_sorted : PySem.W.nsIn K mainGlobals "sorted" = some none)
    (z_reversed : PySem.W.nsIn K mainGlobals "reversed" = some none)
    (z_ValueError : PySem.W.nsIn K mainGlobals "ValueError" = some none)
    (z_len : PySem.W.nsIn K mainGlobals "len" = some none)
    (z_range : PySem.W.nsIn K mainGlobals "range" = some none)
    (z_isinstance : PySem.W.nsIn K mainGlobals "isinstance" = some none)
    (z_int : PySem.W.nsIn K mainGlobals "int" = some none)
    (z_bool : PySem.W.nsIn K mainGlobals "bool" = some none)
    (z_str : PySem.W.nsIn K mainGlobals "str" = some none)
    (z_tuple : PySem.W.nsIn K mainGlobals "tuple" = some none)
    (z_list : PySem.W.nsIn K mainGlobals "list" = some none)
    (z_min : PySem.W.nsIn K mainGlobals "min" = some none)
    (z_max : PySem.W.nsIn K mainGlobals "max" = some none)
    (z_enumerate : PySem.W.nsIn K mainGlobals "enumerate" = some none)
    (z_zip : PySem.W.nsIn K mainGlobals "zip" = some none)
    (y_MOST_STEPS : PySem.W.nsIn K mainGlobals "MOST_STEPS" = some (some (.int 60 t_MOST_STEPS)))
    (y_MOST_WEIGHT : PySem.W.nsIn K mainGlobals "MOST_WEIGHT" = some (some (.int 99 t_MOST_WEIGHT)))
    (y_MOST_FALLS : PySem.W.nsIn K mainGlobals "MOST_FALLS" = some (some (.int 20 t_MOST_FALLS)))
    (y_MOST_PRICE : PySem.W.nsIn K mainGlobals "MOST_PRICE" = some (some (.int 999 t_MOST_PRICE)))
    (wx : xcIn K W vBm = true)
    (w_rd : PySem.W.readsIn K W (.type "type") = true)
    (w_fc : PySem.W.findCls K (.ref W) (.type "type") "__init__" = some (.val (.builtin "ValueError.__init__")))
    (w_sg : PySem.W.specialIn K (.ref W) "__getattribute__" = some (some (.builtin "type.__getattribute__")))
    (xx_BadWeights : xcIn K cG (.ref W :: vBm) = true)
    (ga_BadWeights : PySem.W.findIn K (.ref cG) "__getattribute__" = some (some (.builtin "BaseException.__getattribute__")))
    (gn_BadWeights : PySem.W.findIn K (.ref cG) "__getattr__" = some none)
    (cl_BadWeights : PySem.W.findIn K (.ref cG) "__class__" = some (some (.builtin "object.__class__")))
    (sa_BadWeights : PySem.W.findIn K (.ref cG) "__setattr__" = some (some (.builtin "object.__setattr__")))
    (kp_BadWeights : PySem.W.keepIn K (.ref cG) = true)
    (ks_BadWeights : ksIn K ⟨cP, cH, cW, cO, cL, cG, cF, cR, cM, cT⟩ cG 5 = true)
    (nn_BadWeights : PySem.W.findIn K (.ref cG) "number" = some none)
    (xx_BadFalls : xcIn K cF (.ref W :: vBm) = true)
    (ga_BadFalls : PySem.W.findIn K (.ref cF) "__getattribute__" = some (some (.builtin "BaseException.__getattribute__")))
    (gn_BadFalls : PySem.W.findIn K (.ref cF) "__getattr__" = some none)
    (cl_BadFalls : PySem.W.findIn K (.ref cF) "__class__" = some (some (.builtin "object.__class__")))
    (sa_BadFalls : PySem.W.findIn K (.ref cF) "__setattr__" = some (some (.builtin "object.__setattr__")))
    (kp_BadFalls : PySem.W.keepIn K (.ref cF) = true)
    (ks_BadFalls : ksIn K ⟨cP, cH, cW, cO, cL, cG, cF, cR, cM, cT⟩ cF 6 = true)
    (nn_BadFalls : PySem.W.findIn K (.ref cF) "number" = some none)
    (xx_BadPrice : xcIn K cR (.ref W :: vBm) = true)
    (ga_BadPrice : PySem.W.findIn K (.ref cR) "__getattribute__" = some (some (.builtin "BaseException.__getattribute__")))
    (gn_BadPrice : PySem.W.findIn K (.ref cR) "__getattr__" = some none)
    (cl_BadPrice : PySem.W.findIn K (.ref cR) "__class__" = some (some (.builtin "object.__class__")))
    (sa_BadPrice : PySem.W.findIn K (.ref cR) "__setattr__" = some (some (.builtin "object.__setattr__")))
    (kp_BadPrice : PySem.W.keepIn K (.ref cR) = true)
    (ks_BadPrice : ksIn K ⟨cP, cH, cW, cO, cL, cG, cF, cR, cM, cT⟩ cR 7 = true)
    (in_BadPrice : PySem.W.findIn K (.ref cR) "__init__" = some (some (.builtin "ValueError.__init__")))
    (xx_BadMarks : xcIn K cM (.ref W :: vBm) = true)
    (ga_BadMarks : PySem.W.findIn K (.ref cM) "__getattribute__" = some (some (.builtin "BaseException.__getattribute__")))
    (gn_BadMarks : PySem.W.findIn K (.ref cM) "__getattr__" = some none)
    (cl_BadMarks : PySem.W.findIn K (.ref cM) "__class__" = some (some (.builtin "object.__class__")))
    (sa_BadMarks : PySem.W.findIn K (.ref cM) "__setattr__" = some (some (.builtin "object.__setattr__")))
    (kp_BadMarks : PySem.W.keepIn K (.ref cM) = true)
    (ks_BadMarks : ksIn K ⟨cP, cH, cW, cO, cL, cG, cF, cR, cM, cT⟩ cM 8 = true)
    (nn_BadMarks : PySem.W.findIn K (.ref cM) "number" = some none)
    : PySem.W.noTabs K = true ∧ PySem.W.tabIn K "law" = some (cc, Tb) ∧ ∃ fd : FuncData, (∀ (s : Shared) (v : Value), BindsTo s fd ⟨[v], []⟩ [("_law_script", v)]) ∧ ∀ base : Heap, K.In base → base.Ns mainGlobals mg → PySem.W.CodeHd base cc Tb → BMod base mg → FnOk l.prog w K mg base CX0 10 fa fd ["_law_script"] (spLaw K Tb) := by
  have e := hfa.symm.trans (PySem.W.mg_of X G a_law)
  cases e
  have T : Txt mg := { n_sum := PySem.W.mg_none_of X G z_sum, n_sorted := PySem.W.mg_none_of X G z_sorted, n_reversed := PySem.W.mg_none_of X G z_reversed, n_ValueError := PySem.W.mg_none_of X G z_ValueError, n_len := PySem.W.mg_none_of X G z_len, n_range := PySem.W.mg_none_of X G z_range, n_isinstance := PySem.W.mg_none_of X G z_isinstance, n_int := PySem.W.mg_none_of X G z_int, n_bool := PySem.W.mg_none_of X G z_bool, n_str := PySem.W.mg_none_of X G z_str, n_tuple := PySem.W.mg_none_of X G z_tuple, n_list := PySem.W.mg_none_of X G z_list, n_min := PySem.W.mg_none_of X G z_min, n_max := PySem.W.mg_none_of X G z_max, n_enumerate := PySem.W.mg_none_of X G z_enumerate, n_zip := PySem.W.mg_none_of X G z_zip, g_MOST_STEPS := ⟨t_MOST_STEPS, PySem.W.mg_of X G y_MOST_STEPS⟩, g_MOST_WEIGHT := ⟨t_MOST_WEIGHT, PySem.W.mg_of X G y_MOST_WEIGHT⟩, g_MOST_FALLS := ⟨t_MOST_FALLS, PySem.W.mg_of X G y_MOST_FALLS⟩, g_MOST_PRICE := ⟨t_MOST_PRICE, PySem.W.mg_of X G y_MOST_PRICE⟩ }
  have F_is_number := fun_mk (st := s_is_number) l_is_number c_is_number k_is_number
  have b_is_number := F_is_number.binds (ps := ["thing", "low", "high"]) fun _ _ _ _ _ _ us hl => match us, hl with | [_, _, _], _ => rfl
  have m_is_number := PySem.W.mg_of X G a_is_number
  have F_check_weights := fun_mk (st := s_check_weights) l_check_weights c_check_weights k_check_weights
  have b_check_weights := F_check_weights.binds (ps := ["weights"]) fun _ _ _ _ _ _ us hl => match us, hl with | [_], _ => rfl
  have m_check_weights := PySem.W.mg_of X G a_check_weights
  have F_check_falls := fun_mk (st := s_check_falls) l_check_falls c_check_falls k_check_falls
  have b_check_falls := F_check_falls.binds (ps := ["falls", "steps"]) fun _ _ _ _ _ _ us hl => match us, hl with | [_, _], _ => rfl
  have m_check_falls := PySem.W.mg_of X G a_check_falls
  have F_check_price := fun_mk (st := s_check_price) l_check_price c_check_price k_check_price
  have b_check_price := F_check_price.binds (ps := ["price"]) fun _ _ _ _ _ _ us hl => match us, hl with | [_], _ => rfl
  have m_check_price := PySem.W.mg_of X G a_check_price
  have F_check_marks := fun_mk (st := s_check_marks) l_check_marks c_check_marks k_check_marks
  have b_check_marks := F_check_marks.binds (ps := ["marks", "steps"]) fun _ _ _ _ _ _ us hl => match us, hl with | [_, _], _ => rfl
  have m_check_marks := PySem.W.mg_of X G a_check_marks
  have F_done_again := fun_mk (st := s_done_again) l_done_again c_done_again k_done_again
  have b_done_again := F_done_again.binds (ps := ["weights", "falls", "start", "stop"]) fun _ _ _ _ _ _ us hl => match us, hl with | [_, _, _, _], _ => rfl
  have m_done_again := PySem.W.mg_of X G a_done_again
  have F_cost := fun_mk (st := s_cost) l_cost c_cost k_cost
  have b_cost := F_cost.binds (ps := ["weights", "falls", "price", "marks"]) fun _ _ _ _ _ _ us hl => match us, hl with | [_, _, _, _], _ => rfl
  have m_cost := PySem.W.mg_of X G a_cost
  have F_best_behind := fun_mk (st := s_best_behind) l_best_behind c_best_behind k_best_behind
  have b_best_behind := F_best_behind.binds (ps := ["start", "weights", "falls", "price", "behind"]) fun _ _ _ _ _ _ us hl => match us, hl with | [_, _, _, _, _], _ => rfl
  have m_best_behind := PySem.W.mg_of X G a_best_behind
  have F_best := fun_mk (st := s_best) l_best c_best k_best
  have b_best := F_best.binds (ps := ["weights", "falls", "price"]) fun _ _ _ _ _ _ us hl => match us, hl with | [_, _, _], _ => rfl
  have m_best := PySem.W.mg_of X G a_best
  have F_law_dice := fun_mk (st := s__law_dice) l_law_dice c_law_dice k_law_dice
  have b_law_dice := F_law_dice.binds (ps := ["_law_script"]) fun _ _ _ _ _ _ us hl => match us, hl with | [_], _ => rfl
  have m_law_dice := PySem.W.mg_of X G a_law_dice
  have F_law_next := fun_mk (st := s__law_next) l_law_next c_law_next k_law_next
  have b_law_next := F_law_next.binds (ps := ["_law_dice_here", "_law_many"]) fun _ _ _ _ _ _ us hl => match us, hl with | [_, _], _ => rfl
  have m_law_next := PySem.W.mg_of X G a_law_next
  have F_law_like := fun_mk (st := s__law_like) l_law_like c_law_like k_law_like
  have b_law_like := F_law_like.binds (ps := ["_law_found", "_law_due"]) fun _ _ _ _ _ _ us hl => match us, hl with | [_, _], _ => rfl
  have m_law_like := PySem.W.mg_of X G a_law_like
  have F_law_plan := fun_mk (st := s__law_plan) l_law_plan c_law_plan k_law_plan
  have b_law_plan := F_law_plan.binds (ps := ["_law_d", "_law_most"]) fun _ _ _ _ _ _ us hl => match us, hl with | [_, _], _ => rfl
  have m_law_plan := PySem.W.mg_of X G a_law_plan
  have F_law_told_by := fun_mk (st := s__law_told_by) l_law_told_by c_law_told_by k_law_told_by
  have b_law_told_by := F_law_told_by.binds (ps := ["_law_work"]) fun _ _ _ _ _ _ us hl => match us, hl with | [_], _ => rfl
  have m_law_told_by := PySem.W.mg_of X G a_law_told_by
  have F_law_is_refused := fun_mk (st := s__law_is_refused) l_law_is_refused c_law_is_refused k_law_is_refused
  have b_law_is_refused := F_law_is_refused.binds (ps := ["_law_works", "_law_due"]) fun _ _ _ _ _ _ us hl => match us, hl with | [_, _], _ => rfl
  have m_law_is_refused := PySem.W.mg_of X G a_law_is_refused
  have F_law_bad_weights := fun_mk (st := s__law_bad_weights) l_law_bad_weights c_law_bad_weights k_law_bad_weights
  have b_law_bad_weights := F_law_bad_weights.binds (ps := ["_law_d", "_law_weights", "_law_far"]) fun _ _ _ _ _ _ us hl => match us, hl with | [_, _, _], _ => rfl
  have m_law_bad_weights := PySem.W.mg_of X G a_law_bad_weights
  have F_law_bad_falls := fun_mk (st := s__law_bad_falls) l_law_bad_falls c_law_bad_falls k_law_bad_falls
  have b_law_bad_falls := F_law_bad_falls.binds (ps := ["_law_d", "_law_falls", "_law_many", "_law_far"]) fun _ _ _ _ _ _ us hl => match us, hl with | [_, _, _, _], _ => rfl
  have m_law_bad_falls := PySem.W.mg_of X G a_law_bad_falls
  have F_law_bad_marks := fun_mk (st := s__law_bad_marks) l_law_bad_marks c_law_bad_marks k_law_bad_marks
  have b_law_bad_marks := F_law_bad_marks.binds (ps := ["_law_d", "_law_many", "_law_far"]) fun _ _ _ _ _ _ us hl => match us, hl with | [_, _, _], _ => rfl
  have m_law_bad_marks := PySem.W.mg_of X G a_law_bad_marks
  have F_law : FunC K "law" "law" s_law fa _ cc := ⟨_, _, _, _, _, _, _, _, rfl, l_law, c_law⟩
  have tab : PySem.W.tabIn K "law" = some (cc, Tb) := by
    simp only [PySem.W.tabIn, a_law, l_law, PySem.W.fnOf, lc_law, tp_law]
  have F_BadWeights___init__ := fun_mk (st := s_BadWeights___init__) l_BadWeights___init__ c_BadWeights___init__ k_BadWeights___init__
  have b_BadWeights___init__ := F_BadWeights___init__.binds (ps := ["self", "number"]) fun _ _ _ _ _ _ us hl => match us, hl with | [_, _], _ => rfl
  have F_BadFalls___init__ := fun_mk (st := s_BadFalls___init__) l_BadFalls___init__ c_BadFalls___init__ k_BadFalls___init__
  have b_BadFalls___init__ := F_BadFalls___init__.binds (ps := ["self", "number"]) fun _ _ _ _ _ _ us hl => match us, hl with | [_, _], _ => rfl
  have F_BadMarks___init__ := fun_mk (st := s_BadMarks___init__) l_BadMarks___init__ c_BadMarks___init__ k_BadMarks___init__
  have b_BadMarks___init__ := F_BadMarks___init__.binds (ps := ["self", "number"]) fun _ _ _ _ _ _ us hl => match us, hl with | [_, _], _ => rfl
  refine ⟨nt_law, tab, PySem.W.fnOf "law" "law" (defArgs s_law) (defBody s_law) (defScope s_law) .none kV_law dc_law pm_law an_law (.ref cc) ct_law, fun s v => .of_eq rfl, fun base _ _ hcd BM => ?_⟩
  have C_is_number : FnC l.prog w K mg base 1 "is_number" ["thing", "low", "high"] spIsNum := ⟨f_is_number, _, ok_isnum F_is_number T, m_is_number, k_is_number, b_is_number⟩
  have C_check_weights : FnC l.prog w K mg base 2 "check_weights" ["weights"] spCkW := ⟨f_check_weights, _, ok_ckw F_check_weights T C_is_number, m_check_weights, k_check_weights, b_check_weights⟩
  have C_check_falls : FnC l.prog w K mg base 2 "check_falls" ["falls", "steps"] spCkF := ⟨f_check_falls, _, ok_ckf F_check_falls T C_is_number, m_check_falls, k_check_falls, b_check_falls⟩
  have C_check_price : FnC l.prog w K mg base 2 "check_price" ["price"] spCkP := ⟨f_check_price, _, ok_ckp F_check_price T C_is_number, m_check_price, k_check_price, b_check_price⟩
  have C_check_marks : FnC l.prog w K mg base 2 "check_marks" ["marks", "steps"] spCkM := ⟨f_check_marks, _, ok_ckm F_check_marks T C_is_number, m_check_marks, k_check_marks, b_check_marks⟩
  have C_done_again : FnC l.prog w K mg base 1 "done_again" ["weights", "falls", "start", "stop"] spAgain := ⟨f_done_again, _, ok_again F_done_again T, m_done_again, k_done_again, b_done_again⟩
  have C_cost : FnC l.prog w K mg base 3 "cost" ["weights", "falls", "price", "marks"] spPCost := ⟨f_cost, _, ok_pcost F_cost T C_check_weights C_check_falls C_check_price C_check_marks C_done_again, m_cost, k_cost, b_cost⟩
  have C_best_behind : FnC l.prog w K mg base 2 "best_behind" ["start", "weights", "falls", "price", "behind"] spBeh := ⟨f_best_behind, _, ok_beh F_best_behind T C_done_again, m_best_behind, k_best_behind, b_best_behind⟩
  have C_best : FnC l.prog w K mg base 3 "best" ["weights", "falls", "price"] spBest := ⟨f_best, _, ok_best F_best T C_check_weights C_check_falls C_check_price C_best_behind, m_best, k_best, b_best⟩
  have XWE : XW K mg "WorkError" W := ⟨PySem.W.mg_of X G ns_WorkError, w_rd, w_fc, w_sg⟩
  have KG : KsG mg ⟨cP, cH, cW, cO, cL, cG, cF, cR, cM, cT⟩ := ⟨PySem.W.mg_of X G ns_BadProgram, PySem.W.mg_of X G ns_BadHanded, PySem.W.mg_of X G ns_BadWay, PySem.W.mg_of X G ns_BadOften, PySem.W.mg_of X G ns_BadLog, PySem.W.mg_of X G ns_BadWeights, PySem.W.mg_of X G ns_BadFalls, PySem.W.mg_of X G ns_BadPrice, PySem.W.mg_of X G ns_BadMarks, PySem.W.mg_of X G ns_BadText⟩
  have XF_BadWeights : XF K cG (.ref W :: vBm) := ⟨xx_BadWeights, ga_BadWeights, gn_BadWeights, cl_BadWeights, sa_BadWeights⟩
  have XK_BadWeights : XK1 K ⟨cP, cH, cW, cO, cL, cG, cF, cR, cM, cT⟩ W cG 5 := ⟨XF_BadWeights, rfl, ks_BadWeights⟩
  have XF_BadFalls : XF K cF (.ref W :: vBm) := ⟨xx_BadFalls, ga_BadFalls, gn_BadFalls, cl_BadFalls, sa_BadFalls⟩
  have XK_BadFalls : XK1 K ⟨cP, cH, cW, cO, cL, cG, cF, cR, cM, cT⟩ W cF 6 := ⟨XF_BadFalls, rfl, ks_BadFalls⟩
  have XF_BadPrice : XF K cR (.ref W :: vBm) := ⟨xx_BadPrice, ga_BadPrice, gn_BadPrice, cl_BadPrice, sa_BadPrice⟩
  have XK_BadPrice : XK1 K ⟨cP, cH, cW, cO, cL, cG, cF, cR, cM, cT⟩ W cR 7 := ⟨XF_BadPrice, rfl, ks_BadPrice⟩
  have XF_BadMarks : XF K cM (.ref W :: vBm) := ⟨xx_BadMarks, ga_BadMarks, gn_BadMarks, cl_BadMarks, sa_BadMarks⟩
  have XK_BadMarks : XK1 K ⟨cP, cH, cW, cO, cL, cG, cF, cR, cM, cT⟩ W cM 8 := ⟨XF_BadMarks, rfl, ks_BadMarks⟩
  have XM_BadWeights : XMk l.prog w K mg base 1 "BadWeights" cG (.ref W :: vBm) ["self", "number"] (spXI K W cG "number") := ⟨f_BadWeights___init__, _, xx_BadWeights, PySem.W.mg_of X G ns_BadWeights, kp_BadWeights, a_BadWeights___init__, i_BadWeights___init__, ok_xi_weights F_BadWeights___init__ T XWE XF_BadWeights nn_BadWeights, b_BadWeights___init__⟩
  have XM_BadFalls : XMk l.prog w K mg base 1 "BadFalls" cF (.ref W :: vBm) ["self", "number"] (spXI K W cF "number") := ⟨f_BadFalls___init__, _, xx_BadFalls, PySem.W.mg_of X G ns_BadFalls, kp_BadFalls, a_BadFalls___init__, i_BadFalls___init__, ok_xi_falls F_BadFalls___init__ T XWE XF_BadFalls nn_BadFalls, b_BadFalls___init__⟩
  have XM_BadMarks : XMk l.prog w K mg base 1 "BadMarks" cM (.ref W :: vBm) ["self", "number"] (spXI K W cM "number") := ⟨f_BadMarks___init__, _, xx_BadMarks, PySem.W.mg_of X G ns_BadMarks, kp_BadMarks, a_BadMarks___init__, i_BadMarks___init__, ok_xi_marks F_BadMarks___init__ T XWE XF_BadMarks nn_BadMarks, b_BadMarks___init__⟩
  have XM_BadPrice : XM0 K mg "BadPrice" cR (.ref W :: vBm) := ⟨xx_BadPrice, PySem.W.mg_of X G ns_BadPrice, kp_BadPrice, in_BadPrice⟩
  have C_law_dice : FnC l.prog w K mg base 1 "_law_dice" ["_law_script"] (spDice K) := ⟨f_law_dice, _, ok_dice F_law_dice T, m_law_dice, k_law_dice, b_law_dice⟩
  have C_law_next : FnC l.prog w K mg base 1 "_law_next" ["_law_dice_here", "_law_many"] (spNext K) := ⟨f_law_next, _, ok_next F_law_next T, m_law_next, k_law_next, b_law_next⟩
  have C_law_like := c_like (P := l.prog) (w := w) (base := base) F_law_like b_law_like m_law_like T 2
  have C_law_plan : FnC l.prog w K mg base 2 "_law_plan" ["_law_d", "_law_most"] (spPlan K) := ⟨f_law_plan, _, ok_plan F_law_plan T C_law_next, m_law_plan, k_law_plan, b_law_plan⟩
  have C_check_weightsE : FnE l.prog w K mg base 4 "check_weights" ["weights"] (spCkWE cG) := ⟨f_check_weights, _, ok_ckwE F_check_weights T C_is_number XM_BadWeights, m_check_weights, k_check_weights, b_check_weights⟩
  have C_check_fallsE : FnE l.prog w K mg base 4 "check_falls" ["falls", "steps"] (spCkFE cF) := ⟨f_check_falls, _, ok_ckfE F_check_falls T C_is_number XM_BadFalls, m_check_falls, k_check_falls, b_check_falls⟩
  have C_check_marksE : FnE l.prog w K mg base 4 "check_marks" ["marks", "steps"] (spCkME cM) := ⟨f_check_marks, _, ok_ckmE F_check_marks T C_is_number XM_BadMarks, m_check_marks, k_check_marks, b_check_marks⟩
  have C_check_priceE : FnE l.prog w K mg base 4 "check_price" ["price"] (spCkPE cR) := ⟨f_check_price, _, ok_ckpE F_check_price T C_is_number XM_BadPrice, m_check_price, k_check_price, b_check_price⟩
  have C_costE : FnE l.prog w K mg base 5 "cost" ["weights", "falls", "price", "marks"] (spCostE cG cF cR cM) := ⟨f_cost, _, ok_costE F_cost T C_check_weights C_check_falls C_check_price C_check_weightsE C_check_fallsE C_check_priceE C_check_marksE, m_cost, k_cost, b_cost⟩
  have C_bestE : FnE l.prog w K mg base 5 "best" ["weights", "falls", "price"] (spBestE cG cF cR) := ⟨f_best, _, ok_bestE F_best T C_check_weights C_check_falls C_check_weightsE C_check_fallsE C_check_priceE, m_best, k_best, b_best⟩
  have C_law_told_by : FnC l.prog w K mg base 8 "_law_told_by" ["_law_work"] (spTold l.prog w K mg base ⟨cP, cH, cW, cO, cL, cG, cF, cR, cM, cT⟩ W) := ⟨f_law_told_by, _, ok_told F_law_told_by T KG XWE wx, m_law_told_by, k_law_told_by, b_law_told_by⟩
  have C_law_is_refused : FnC l.prog w K mg base 9 "_law_is_refused" ["_law_works", "_law_due"] (spRef l.prog w K mg base ⟨cP, cH, cW, cO, cL, cG, cF, cR, cM, cT⟩ W) := ⟨f_law_is_refused, _, ok_ref F_law_is_refused T C_law_told_by C_law_like, m_law_is_refused, k_law_is_refused, b_law_is_refused⟩
  have C_law_bad_weights : FnC l.prog w K mg base 2 "_law_bad_weights" ["_law_d", "_law_weights", "_law_far"] (spBW K) := ⟨f_law_bad_weights, _, ok_bw F_law_bad_weights T C_law_next, m_law_bad_weights, k_law_bad_weights, b_law_bad_weights⟩
  have C_law_bad_falls : FnC l.prog w K mg base 2 "_law_bad_falls" ["_law_d", "_law_falls", "_law_many", "_law_far"] (spBF K) := ⟨f_law_bad_falls, _, ok_bf F_law_bad_falls T C_law_next, m_law_bad_falls, k_law_bad_falls, b_law_bad_falls⟩
  have C_law_bad_marks : FnC l.prog w K mg base 2 "_law_bad_marks" ["_law_d", "_law_many", "_law_far"] (spBM K) := ⟨f_law_bad_marks, _, ok_bm F_law_bad_marks T C_law_next, m_law_bad_marks, k_law_bad_marks, b_law_bad_marks⟩
  exact ok_law (P := l.prog) (w := w) F_law T hcd BM XK_BadWeights XK_BadFalls XK_BadPrice XK_BadMarks nn_BadWeights nn_BadFalls nn_BadMarks C_law_dice C_law_next C_law_plan C_law_bad_weights C_law_bad_falls C_law_bad_marks C_law_is_refused C_costE C_bestE C_best C_cost
end
theorem scrT {K : PySem.W.Frag} {H : Hp} {a T : Addr} {ns : List Int} (O : OnlyT H T) (h : SqL K H a (ns.map V.int)) : Scr K H a ns := by
  rcases h with (h | ⟨o, h⟩) | h
  · by_cases e : a = T
    · subst e
      rw [O.1] at h
      cases h
    · rcases O.2 a e with z | ⟨o, xs, z⟩
      · rw [z] at h; cases h
      · rw [z] at h; cases h
  · exact .inl ⟨o, h⟩
  · exact .inr (.inr h)
theorem walk {l : PySem.W.OpenLaw} {q : Program} {loose : List Str} {XP : (Str → Option Value) → Heap → Prop} {YP : World → Heap → Prop} {d e : DefRec} {K : Params → PySem.W.Frag} {cc Tb : World → Addr} (hn : l.most = some 63) (hdf : d.params.defaults = []) (hrec : (PyProof.Rows.recsOf q).find? (fun r => r.name == Str.ofString "law") = some e)
    (hY : ∀ (w : World) (h : Heap), YP w h → (K w.params).In h)
    (F : ∀ (w : World) (mg : Str → Option Value) (fa : Addr) (h : Heap), (K w.params).In h → h.Ns mainGlobals mg → mg d.name = some (.ref fa) → PySem.W.noTabs (K w.params) = true ∧ PySem.W.tabIn (K w.params) "law" = some (cc w, Tb w) ∧
      ∃ fd : FuncData, (∀ (s : Shared) (u : Value), BindsTo s fd ⟨[u], []⟩ [("_law_script", u)]) ∧ ∀ base : Heap, (K w.params).In base → base.Ns mainGlobals mg → PySem.W.CodeHd base (cc w) (Tb w) → BMod base mg → FnOk l.prog w (K w.params) mg base CX0 10 fa fd ["_law_script"] (spLaw (K w.params) (Tb w))) :
    PySem.W.WalkO q loose XP YP l.row.toRowW d [] (fun f vs => PySem.call f vs) :=
  L2.walkT_of (n := 63) (k := 10) (x := "_law_script") (sp := fun w => spLaw (K w.params) (Tb w)) hn (by decide) hdf ⟨rfl, by decide, by decide⟩ hrec hY F (fun _ _ a ns hl O hS => ⟨a, ns, rfl, scrT O hS, hl, ⟨#[], O.1, True.intro, fun pos c' e => by cases e⟩, fun _ => rfl⟩)
end Lw
open PySem PySem.W PyProof.Rows
set_option maxRecDepth 100000 in
set_option maxHeartbeats 0 in
theorem PySem.Challenge.cw_longwork_k16_plans_refused_holds : PySem.Challenge.rw_longwork_k16_plans_refused.Holds := by
  w_on; o_law; k_head; (case hw => w_witness2)
  k_fill
  refine' Lw.walk (l := PySem.Challenge.rw_longwork_k16_plans_refused) rfl rfl rfl (fun w h Y => PySem.W.km_in_of Y) ?F
  case F =>
    intro w mg fa h KX G hmg
    refine' Lw.all_mk KX G hmg ?a_is_number ?l_is_number ?c_is_number ?k_is_number ?a_check_weights ?l_check_weights ?c_check_weights ?k_check_weights ?a_check_falls ?l_check_falls ?c_check_falls ?k_check_falls ?a_check_price ?l_check_price ?c_check_price ?k_check_price ?a_check_marks ?l_check_marks ?c_check_marks ?k_check_marks ?a_done_again ?l_done_again ?c_done_again ?k_done_again ?a_cost ?l_cost ?c_cost ?k_cost ?a_best_behind ?l_best_behind ?c_best_behind ?k_best_behind ?a_best ?l_best ?c_best ?k_best ?a_law_dice ?l_law_dice ?c_law_dice ?k_law_dice ?a_law_next ?l_law_next ?c_law_next ?k_law_next ?a_law_like ?l_law_like ?c_law_like ?k_law_like ?a_law_plan ?l_law_plan ?c_law_plan ?k_law_plan ?a_law_told_by ?l_law_told_by ?c_law_told_by ?k_law_told_by ?a_law_is_refused ?l_law_is_refused ?c_law_is_refused ?k_law_is_refused ?a_law_bad_weights ?l_law_bad_weights ?c_law_bad_weights ?k_law_bad_weights ?a_law_bad_falls ?l_law_bad_falls ?c_law_bad_falls ?k_law_bad_falls ?a_law_bad_marks ?l_law_bad_marks ?c_law_bad_marks ?k_law_bad_marks ?a_law ?l_law ?c_law ?k_law ?lc_law ?tp_law ?nt_law ?ns_WorkError ?ns_BadProgram ?ns_BadHanded ?ns_BadWay ?ns_BadOften ?ns_BadLog ?ns_BadWeights ?ns_BadFalls ?ns_BadPrice ?ns_BadMarks ?ns_BadText ?a_BadWeights___init__ ?i_BadWeights___init__ ?l_BadWeights___init__ ?c_BadWeights___init__ ?k_BadWeights___init__ ?a_BadFalls___init__ ?i_BadFalls___init__ ?l_BadFalls___init__ ?c_BadFalls___init__ ?k_BadFalls___init__ ?a_BadMarks___init__ ?i_BadMarks___init__ ?l_BadMarks___init__ ?c_BadMarks___init__ ?k_BadMarks___init__ ?z_sum ?z_sorted ?z_reversed ?z_ValueError ?z_len ?z_range ?z_isinstance ?z_int ?z_bool ?z_str ?z_tuple ?z_list ?z_min ?z_max ?z_enumerate ?z_zip ?y_MOST_STEPS ?y_MOST_WEIGHT ?y_MOST_FALLS ?y_MOST_PRICE ?wx ?w_rd ?w_fc ?w_sg ?xx_BadWeights ?ga_BadWeights ?gn_BadWeights ?cl_BadWeights ?sa_BadWeights ?kp_BadWeights ?ks_BadWeights ?nn_BadWeights ?xx_BadFalls ?ga_BadFalls ?gn_BadFalls ?cl_BadFalls ?sa_BadFalls ?kp_BadFalls ?ks_BadFalls ?nn_BadFalls ?xx_BadPrice ?ga_BadPrice ?gn_BadPrice ?cl_BadPrice ?sa_BadPrice ?kp_BadPrice ?ks_BadPrice ?in_BadPrice ?xx_BadMarks ?ga_BadMarks ?gn_BadMarks ?cl_BadMarks ?sa_BadMarks ?kp_BadMarks ?ks_BadMarks ?nn_BadMarks
    (case a_is_number => k_is)
    (case l_is_number => k_is)
    (case c_is_number => k_is)
    (case k_is_number => k_is)
    (case a_check_weights => k_is)
    (case l_check_weights => k_is)
    (case c_check_weights => k_is)
    (case k_check_weights => k_is)
    (case a_check_falls => k_is)
    (case l_check_falls => k_is)
    (case c_check_falls => k_is)
    (case k_check_falls => k_is)
    (case a_check_price => k_is)
    (case l_check_price => k_is)
    (case c_check_price => k_is)
    (case k_check_price => k_is)
    (case a_check_marks => k_is)
    (case l_check_marks => k_is)
    (case c_check_marks => k_is)
    (case k_check_marks => k_is)
    (case a_done_again => k_is)
    (case l_done_again => k_is)
    (case c_done_again => k_is)
    (case k_done_again => k_is)
    (case a_cost => k_is)
    (case l_cost => k_is)
    (case c_cost => k_is)
    (case k_cost => k_is)
    (case a_best_behind => k_is)
    (case l_best_behind => k_is)
    (case c_best_behind => k_is)
    (case k_best_behind => k_is)
    (case a_best => k_is)
    (case l_best => k_is)
    (case c_best => k_is)
    (case k_best => k_is)
    (case a_law_dice => k_is)
    (case l_law_dice => k_is)
    (case c_law_dice => k_is)
    (case k_law_dice => k_is)
    (case a_law_next => k_is)
    (case l_law_next => k_is)
    (case c_law_next => k_is)
    (case k_law_next => k_is)
    (case a_law_like => k_is)
    (case l_law_like => k_is)
    (case c_law_like => k_is)
    (case k_law_like => k_is)
    (case a_law_plan => k_is)
    (case l_law_plan => k_is)
    (case c_law_plan => k_is)
    (case k_law_plan => k_is)
    (case a_law_told_by => k_is)
    (case l_law_told_by => k_is)
    (case c_law_told_by => k_is)
    (case k_law_told_by => k_is)
    (case a_law_is_refused => k_is)
    (case l_law_is_refused => k_is)
    (case c_law_is_refused => k_is)
    (case k_law_is_refused => k_is)
    (case a_law_bad_weights => k_is)
    (case l_law_bad_weights => k_is)
    (case c_law_bad_weights => k_is)
    (case k_law_bad_weights => k_is)
    (case a_law_bad_falls => k_is)
    (case l_law_bad_falls => k_is)
    (case c_law_bad_falls => k_is)
    (case k_law_bad_falls => k_is)
    (case a_law_bad_marks => k_is)
    (case l_law_bad_marks => k_is)
    (case c_law_bad_marks => k_is)
    (case k_law_bad_marks => k_is)
    (case a_law => k_is)
    (case l_law => k_is)
    (case c_law => k_is)
    (case k_law => k_is)
    (case lc_law => k_is)
    (case tp_law => rfl)
    (case nt_law => kernel_rfl)
    (case ns_WorkError => k_is)
    (case ns_BadProgram => k_is)
    (case ns_BadHanded => k_is)
    (case ns_BadWay => k_is)
    (case ns_BadOften => k_is)
    (case ns_BadLog => k_is)
    (case ns_BadWeights => k_is)
    (case ns_BadFalls => k_is)
    (case ns_BadPrice => k_is)
    (case ns_BadMarks => k_is)
    (case ns_BadText => k_is)
    (case a_BadWeights___init__ => k_is)
    (case i_BadWeights___init__ => k_is)
    (case l_BadWeights___init__ => k_is)
    (case c_BadWeights___init__ => k_is)
    (case k_BadWeights___init__ => k_is)
    (case a_BadFalls___init__ => k_is)
    (case i_BadFalls___init__ => k_is)
    (case l_BadFalls___init__ => k_is)
    (case c_BadFalls___init__ => k_is)
    (case k_BadFalls___init__ => k_is)
    (case a_BadMarks___init__ => k_is)
    (case i_BadMarks___init__ => k_is)
    (case l_BadMarks___init__ => k_is)
    (case c_BadMarks___init__ => k_is)
    (case k_BadMarks___init__ => k_is)
    (case z_sum => k_is)
    (case z_sorted => k_is)
    (case z_reversed => k_is)
    (case z_ValueError => k_is)
    (case z_len => k_is)
    (case z_range => k_is)
    (case z_isinstance => k_is)
    (case z_int => k_is)
    (case z_bool => k_is)
    (case z_str => k_is)
    (case z_tuple => k_is)
    (case z_list => k_is)
    (case z_min => k_is)
    (case z_max => k_is)
    (case z_enumerate => k_is)
    (case z_zip => k_is)
    (case y_MOST_STEPS => k_is)
    (case y_MOST_WEIGHT => k_is)
    (case y_MOST_FALLS => k_is)
    (case y_MOST_PRICE => k_is)
    (case wx => kernel_rfl)
    (case w_rd => k_is)
    (case w_fc => k_is)
    (case w_sg => k_is)
    (case xx_BadWeights => kernel_rfl)
    (case ga_BadWeights => k_is)
    (case gn_BadWeights => k_is)
    (case cl_BadWeights => k_is)
    (case sa_BadWeights => k_is)
    (case kp_BadWeights => k_is)
    (case ks_BadWeights => kernel_rfl)
    (case nn_BadWeights => k_is)
    (case xx_BadFalls => kernel_rfl)
    (case ga_BadFalls => k_is)
    (case gn_BadFalls => k_is)
    (case cl_BadFalls => k_is)
    (case sa_BadFalls => k_is)
    (case kp_BadFalls => k_is)
    (case ks_BadFalls => kernel_rfl)
    (case nn_BadFalls => k_is)
    (case xx_BadPrice => kernel_rfl)
    (case ga_BadPrice => k_is)
    (case gn_BadPrice => k_is)
    (case cl_BadPrice => k_is)
    (case sa_BadPrice => k_is)
    (case kp_BadPrice => k_is)
    (case ks_BadPrice => kernel_rfl)
    (case in_BadPrice => k_is)
    (case xx_BadMarks => kernel_rfl)
    (case ga_BadMarks => k_is)
    (case gn_BadMarks => k_is)
    (case cl_BadMarks => k_is)
    (case sa_BadMarks => k_is)
    (case kp_BadMarks => k_is)
    (case ks_BadMarks => kernel_rfl)
    (case nn_BadMarks => k_is)
