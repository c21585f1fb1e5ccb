import PyProof.Rows.All
import Wide.All
import OpenK.AllK
import Wide.FinOn
import PyProof.EqAt
import PyProof.EqKinds
import PyProof.TupleCall
import KE.BitLaws
import KE.KTabLook
import PySem.Challenge.RW_longwork_k03_without_falls
set_option Elab.async false
set_option linter.all false
set_option maxRecDepth 100000
namespace L2
open PySem PySem.Spec PyProof.Rows
abbrev Key := Sum Int Str
def keyIs : Key → Value → Bool
  | .inl k, v => Value.isInt k v
  | .inr x, v => Value.isStrOf x v
def keyH (w : World) : Key → Int
  | .inl k => hashInt k
  | .inr x => hashStr w x
theorem keyIs_shape : ∀ {k : Key} {v : Value}, keyIs k v = true → (∃ i t, k = Sum.inl i ∧ v = Value.int i t) ∨ (∃ x t, k = Sum.inr x ∧ v = Value.str x t)
  | .inl i, v, h => by
    obtain ⟨t, e⟩ := Value.isInt_shape (k := i) (v := v) h
    exact .inl ⟨i, t, rfl, e⟩
  | .inr x, v, h => by
    obtain ⟨t, e⟩ := Value.isStrOf_shape (x := x) (v := v) h
    exact .inr ⟨x, t, rfl, e⟩
theorem keyIs_int (i : Int) (t : Tok) : keyIs (.inl i) (.int i t) = true := by simp [keyIs, Value.isInt]
theorem keyIs_str (x : Str) (t : Tok) : keyIs (.inr x) (.str x t) = true := by simp [keyIs, Value.isStrOf]
theorem key_ll (a b : Int) : decide ((Sum.inl a : Key) = Sum.inl b) = (a == b) := by
  by_cases e : a = b
  · subst e; simp
  · have h : ¬ (Sum.inl a : Key) = Sum.inl b := fun q => e (Sum.inl.inj q)
    rw [decide_eq_false h]
    exact (beq_eq_false_iff_ne.mpr e).symm
theorem key_rr (a b : Str) : decide ((Sum.inr a : Key) = Sum.inr b) = decide (a = b) := by
  by_cases e : a = b
  · subst e; simp
  · have h : ¬ (Sum.inr a : Key) = Sum.inr b := fun q => e (Sum.inr.inj q)
    rw [decide_eq_false h, decide_eq_false e]
theorem key_lr (a : Int) (b : Str) : decide ((Sum.inl a : Key) = Sum.inr b) = false := decide_eq_false (fun q => nomatch q)
theorem key_rl (a : Str) (b : Int) : decide ((Sum.inr a : Key) = Sum.inl b) = false := decide_eq_false (fun q => nomatch q)
def mixKind (prog : Program) (w : World) : PySem.KeyKind prog w Key where
  is := keyIs
  hash := keyH w
  inj := fun v a b ha hb => by
    rcases keyIs_shape ha with ⟨i, t, rfl, rfl⟩ | ⟨x, t, rfl, rfl⟩
    · rcases keyIs_shape hb with ⟨j, u, rfl, e⟩ | ⟨y, u, rfl, e⟩
      · injection e with e1 _; rw [e1]
      · exact nomatch e
    · rcases keyIs_shape hb with ⟨j, u, rfl, e⟩ | ⟨y, u, rfl, e⟩
      · exact nomatch e
      · injection e with e1 _; rw [e1]
  byValue := fun k v h => by
    rcases keyIs_shape h with ⟨i, t, rfl, rfl⟩ | ⟨x, t, rfl, rfl⟩ <;> rfl
  pyHash := fun hv h => by
    rcases keyIs_shape hv with ⟨i, t, rfl, rfl⟩ | ⟨x, t, rfl, rfl⟩
    · exact wpAny_pyHash_int h
    · exact wpAny_pyHash_str h
  eqBool := fun hu hv h => by
    rcases keyIs_shape hu with ⟨i, t, rfl, rfl⟩ | ⟨x, t, rfl, rfl⟩
    · rcases keyIs_shape hv with ⟨j, u, rfl, rfl⟩ | ⟨y, u, rfl, rfl⟩
      · rw [key_ll] at h; exact wpAny_eqBool_int h
      · rw [key_lr] at h; exact SeqAt.EqAt.int_str i t y u _ _ _ _ h
    · rcases keyIs_shape hv with ⟨j, u, rfl, rfl⟩ | ⟨y, u, rfl, rfl⟩
      · rw [key_rl] at h; exact SeqAt.EqAt.str_int x t j u _ _ _ _ h
      · rw [key_rr] at h; exact wpAny_eqBool_str h
  «strs» := fun k x t v h => by
    rcases keyIs_shape h with ⟨i, u, rfl, e⟩ | ⟨y, u, rfl, e⟩
    · exact nomatch e
    · injection e with e1 _
      subst e1
      cases v <;> rfl
theorem mixKind_int (prog : Program) (w : World) (i : Int) (t : Tok) : (mixKind prog w).is (.inl i) (.int i t) = true := keyIs_int i t
theorem mixKind_str (prog : Program) (w : World) (x : Str) (t : Tok) : (mixKind prog w).is (.inr x) (.str x t) = true := keyIs_str x t
end L2
namespace L2
open PySem PySem.Spec PyProof.Rows
inductive V where
  | non | bl (b : Bool) | int (i : Int) | str (x : Str) | byt (b : Array UInt8) | flt (b : UInt64) | ref (a : Addr) | ty (n : String)
  deriving DecidableEq
def RelV : V → Value → Prop
  | .non, u => u = Value.none
  | .bl b, u => u = Value.bool b
  | .int i, u => ∃ t, u = Value.int i t
  | .str x, u => ∃ t, u = Value.str x t
  | .byt b, u => ∃ t, u = Value.bytes b t
  | .flt b, u => ∃ t, u = Value.float b t
  | .ref a, u => u = Value.ref a
  | .ty n, u => u = Value.type n
abbrev Vals : List V → List Value → Prop := Paired RelV
theorem Vals.length {xs : List V} {us : List Value} (r : Vals xs us) : xs.length = us.length := Paired.length r
theorem Vals.get : ∀ {xs : List V} {us : List Value} {i : Nat} {x : V}, Vals xs us → xs[i]? = some x → ∃ u, us[i]? = some u ∧ RelV x u
  | _, _, _, _, .nil, e => by simp at e
  | _, _, 0, _, .cons r _, e => by simp at e; subst e; exact ⟨_, rfl, r⟩
  | _, _, i + 1, x, .cons _ t, e => by
    obtain ⟨u, h1, h2⟩ := Vals.get (i := i) (x := x) t (by simpa using e)
    exact ⟨u, by simpa using h1, h2⟩
theorem Vals.set {x : V} {u : Value} (r : RelV x u) : ∀ {xs : List V} {us : List Value} (i : Nat), Vals xs us → Vals (xs.set i x) (us.set i u)
  | _, _, _, .nil => .nil
  | _, _, 0, .cons _ t => .cons r t
  | _, _, i + 1, .cons q t => .cons q (Vals.set r i t)
theorem Vals.append : ∀ {xs ys : List V} {us ws : List Value}, Vals xs us → Vals ys ws → Vals (xs ++ ys) (us ++ ws)
  | _, _, _, _, .nil, s => s
  | _, _, _, _, .cons r t, s => .cons r (Vals.append t s)
theorem Vals.take : ∀ {xs : List V} {us : List Value} (n : Nat), Vals xs us → Vals (xs.take n) (us.take n)
  | _, _, 0, _ => .nil
  | _, _, _ + 1, .nil => .nil
  | _, _, n + 1, .cons r t => .cons r (Vals.take n t)
theorem Vals.drop : ∀ {xs : List V} {us : List Value} (n : Nat), Vals xs us → Vals (xs.drop n) (us.drop n)
  | _, _, 0, r => r
  | _, _, _ + 1, .nil => .nil
  | _, _, n + 1, .cons _ t => Vals.drop n t
theorem Vals.none_of : ∀ {xs : List V} {us : List Value} {i : Nat}, Vals xs us → xs[i]? = none → us[i]? = none := fun {xs us i} r e => by
  have h1 := r.length
  have h2 : xs.length ≤ i := List.getElem?_eq_none_iff.mp e
  exact List.getElem?_eq_none_iff.mpr (by omega)
def RelO : Option V → Option Value → Prop
  | some v, some u => RelV v u
  | none, none => True
  | _, _ => False
def KV {κ : Type} : List (κ × V) → List (κ × Value) → Prop := Paired fun (p : κ × V) (q : κ × Value) => p.1 = q.1 ∧ RelV p.2 q.2
def kV : Key → V
  | .inl i => .int i
  | .inr x => .str x
inductive HO where
  | lst (xs : List V)
  | tup (xs : List V)
  | dK (kvs : List (Key × V)) | dT (kvs : List (List Key × V))
  | set (S : Int → Bool) (n : Nat)
  | ins (C dx : Addr) (fs : List (Str × V))
  | own (x : Addr)
  | xd (fs : List (Str × V))
  | met (f x : Addr)
  | rng (lo hi : Int)
  | frz (o : Obj) (u : HO)
  | tbl (ps : Array Value)
  | ext (φ : Heap → Prop)
abbrev Hp := Addr → Option HO
def upd (H : Hp) (a : Addr) (o : HO) : Hp := fun b => if b = a then some o else H b
theorem upd_same {H : Hp} {a : Addr} {o : HO} : upd H a o a = some o := by unfold upd; rw [if_pos rfl]
theorem upd_ne {H : Hp} {a b : Addr} {o : HO} (h : b ≠ a) : upd H a o b = H b := by unfold upd; rw [if_neg h]
theorem ne_of {H : Hp} {a b : Addr} {o u : HO} (h : H a = some o) (h' : H b = some u) (d : o ≠ u) : a ≠ b := by
  intro e; subst e; rw [h] at h'; exact d (Option.some.inj h')
theorem ne_of_none {H : Hp} {a b : Addr} {o : HO} (h : H a = some o) (h' : H b = none) : a ≠ b := by
  intro e; subst e; rw [h] at h'; cases h'
section
variable (P : Program) (w : World)
def ObjOk (H : Hp) (h : Heap) (a : Addr) : HO → Prop
  | .lst xs => xs.length ≤ sizeLine ∧ ∃ (its : List Value) (n : Nat), Vals xs its ∧ h.get? a = some { cls := .type "list", data := .seq its.toArray n }
  | .tup xs => xs.length ≤ sizeLine ∧ ∃ its : List Value, Vals xs its ∧ IsTup h a its.toArray
  | .dK kvs => kvs.length ≤ sizeLine ∧ (a == sysModules) = false ∧ ∃ vs, KV kvs vs ∧ h.DictOf (mixKind P w) a vs
  | .dT kvs => kvs.length ≤ sizeLine ∧ (a == sysModules) = false ∧ ∃ xs : List (List Key × Addr × Value),
      Paired (fun (p : List Key × V) (q : List Key × Addr × Value) => p.1 = q.1 ∧ H q.2.1 = some (.tup (p.1.map kV)) ∧ RelV p.2 q.2.2) kvs xs ∧
      ∃ o es ep, h.get? a = some o ∧ o.ExactDict ∧ o.data = .dict es ep ∧ es.toList = xs.map (entryOfKey (tupleKind (mixKind P w))) ∧ (xs.map (·.1)).Nodup
  | .set S n => h.SetOf (intKind P w) a S n
  | .ins C dx fs => H dx = some (.own a) ∧ fs.length ≤ 1000 ∧ dx ≠ a ∧ h.get? a = some (PySem.W.instObj C dx) ∧
      ∃ mA, h.Ns1 dx mA ∧ (∀ f, RelO (fs.lookup f) (mA f)) ∧ PySem.Within mA (fs.map (·.1))
  | .own _ => ∃ o, h.get? a = some o
  | .xd fs => ∃ mA, h.Ns1 a mA ∧ ∀ f, RelO (fs.lookup f) (mA f)
  | .rng lo hi => ∃ t u v, h.get? a = some { cls := .type "range", data := .fields #[.int lo t, .int hi u, .int 1 v] }
  | .frz o u => h.get? a = some o ∧ ObjOk H h a u
  | .tbl ps => h.get? a = some { cls := .none, data := .fields ps }
  | .met f x => h.get? a = some (PySem.W.methodObj (.ref f) (.ref x))
  | .ext φ => φ h ∧ (∃ o, h.get? a = some o) ∧ ∀ h1 h2 : Heap, φ h1 → (∀ o, h1.get? a = some o → h2.get? a = some o) → φ h2
def HOk (H : Hp) (h : Heap) : Prop := ∀ a o, H a = some o → ObjOk P w H h a o
end
section
variable {P : Program} {w : World} {H H' : Hp} {h h' : Heap} {a : Addr} {o : HO}
theorem ObjOk.lt (x : ObjOk P w H h a o) : a < h.objs.size := by
  cases o with
  | lst xs => obtain ⟨_, _, _, _, e⟩ := x; exact Heap.lt_size e
  | tup xs => obtain ⟨_, _, _, p⟩ := x; exact p.lt
  | dK kvs => obtain ⟨_, _, _, _, o, _, _, e, _⟩ := x; exact Heap.lt_size e
  | dT kvs => obtain ⟨_, _, _, _, o, _, _, e, _⟩ := x; exact Heap.lt_size e
  | set S n => obtain ⟨o, _, _, _, e, _⟩ := x; exact Heap.lt_size e
  | ins C dx fs => obtain ⟨_, _, _, e, _⟩ := x; exact Heap.lt_size e
  | own y => obtain ⟨_, e⟩ := x; exact Heap.lt_size e
  | xd fs => obtain ⟨_, ⟨_, _, _, e, _⟩, _⟩ := x; exact Heap.lt_size e
  | rng lo hi => obtain ⟨_, _, _, e⟩ := x; exact Heap.lt_size e
  | frz ob u => obtain ⟨e, _⟩ := x; exact Heap.lt_size e
  | tbl ps => exact Heap.lt_size (show h.get? a = some _ from x)
  | met f y => exact Heap.lt_size (show h.get? a = some _ from x)
  | ext φ => obtain ⟨_, ⟨_, e⟩, _⟩ := x; exact Heap.lt_size e
theorem Paired.mapP {α β : Type} {F G : α → β → Prop} : ∀ {l₁ : List α} {l₂ : List β}, Paired F l₁ l₂ → (∀ a b, F a b → G a b) → Paired G l₁ l₂
  | _, _, .nil, _ => .nil
  | _, _, .cons r t, f => .cons (f _ _ r) (Paired.mapP t f)
theorem ObjOk.stay (x : ObjOk P w H h a o) (k : ∀ b u, (b = a ∨ H b = some (.own a)) → h.get? b = some u → h'.get? b = some u)
    (ho : ∀ b, H b = some (.own a) → H' b = some (.own a)) (ht : ∀ b xs, H b = some (.tup xs) → H' b = some (.tup xs)) : ObjOk P w H' h' a o := by
  induction o with
  | lst xs => obtain ⟨z, its, n, r, e⟩ := x; exact ⟨z, its, n, r, k _ _ (.inl rfl) e⟩
  | tup xs => obtain ⟨z, its, r, ob, e, c⟩ := x; exact ⟨z, its, r, ob, k _ _ (.inl rfl) e, c⟩
  | dK kvs => obtain ⟨z, y, vs, r, ob, es, ep, e, c⟩ := x; exact ⟨z, y, vs, r, ob, es, ep, k _ _ (.inl rfl) e, c⟩
  | dT kvs =>
    obtain ⟨z, y, xs, r, ob, es, ep, e, c⟩ := x
    exact ⟨z, y, xs, Paired.mapP r fun p q z => ⟨z.1, ht _ _ z.2.1, z.2.2⟩, ob, es, ep, k _ _ (.inl rfl) e, c⟩
  | set S n => obtain ⟨ob, es, ep, t, e, c⟩ := x; exact ⟨ob, es, ep, t, k _ _ (.inl rfl) e, c⟩
  | ins C dx fs =>
    obtain ⟨d, z, ne, e, mA, ⟨od, es, ep, e2, c⟩, r⟩ := x
    exact ⟨ho _ d, z, ne, k _ _ (.inl rfl) e, mA, ⟨od, es, ep, k _ _ (.inr d) e2, c⟩, r⟩
  | own y => obtain ⟨ob, e⟩ := x; exact ⟨ob, k _ _ (.inl rfl) e⟩
  | xd fs => obtain ⟨mA, ⟨od, es, ep, e, c⟩, r⟩ := x; exact ⟨mA, ⟨od, es, ep, k _ _ (.inl rfl) e, c⟩, r⟩
  | rng lo hi => obtain ⟨t, u, v, e⟩ := x; exact ⟨t, u, v, k _ _ (.inl rfl) e⟩
  | frz ob u ih => obtain ⟨e, q⟩ := x; exact ⟨k _ _ (.inl rfl) e, ih q⟩
  | tbl ps =>
    have e : h.get? a = some { cls := .none, data := .fields ps } := x
    show h'.get? a = some { cls := .none, data := .fields ps }
    exact k a _ (.inl rfl) e
  | met f y =>
    have e : h.get? a = some (PySem.W.methodObj (.ref f) (.ref y)) := x
    show h'.get? a = some (PySem.W.methodObj (.ref f) (.ref y))
    exact k a _ (.inl rfl) e
  | ext φ => obtain ⟨p, ⟨o, e⟩, st⟩ := x; exact ⟨st _ _ p fun o q => k _ _ (.inl rfl) q, ⟨o, k _ _ (.inl rfl) e⟩, st⟩
theorem HOk.lt (x : HOk P w H h) (e : H a = some o) : a < h.objs.size := (x a o e).lt
theorem HOk.fresh (x : HOk P w H h) (e : h.objs.size ≤ a) : H a = none := by
  cases q : H a with
  | none => rfl
  | some u => exact absurd (Nat.lt_of_lt_of_le (x.lt q) e) (Nat.lt_irrefl _)
theorem HOk.kept (x : HOk P w H h) (k : ∀ b u, h.get? b = some u → h'.get? b = some u) : HOk P w H h' := fun a o e =>
  (x a o e).stay (fun b u _ q => k b u q) (fun _ q => q) fun _ _ q => q
theorem HOk.laid (x : HOk P w H h) (k : ∀ b u, h.get? b = some u → h'.get? b = some u) (hp : h.objs.size ≤ a) (new : ObjOk P w (upd H a o) h' a o) : HOk P w (upd H a o) h' := fun b u e => by
  have hn := x.fresh hp
  by_cases hb : b = a
  · subst hb; rw [upd_same] at e; cases e; exact new
  · rw [upd_ne hb] at e
    exact (x b u e).stay (fun c v _ q => k c v q) (fun c q => by rw [upd_ne (ne_of_none q hn)]; exact q) fun c xs q => by rw [upd_ne (ne_of_none q hn)]; exact q
end
def Rd (H : Hp) (a : Addr) (u : HO) : Prop := H a = some u ∨ ∃ o, H a = some (.frz o u)
theorem Rd.of {H : Hp} {a : Addr} {u : HO} (h : H a = some u) : Rd H a u := .inl h
theorem Rd.ok {P : Program} {w : World} {H : Hp} {h : Heap} {a : Addr} {u : HO} (r : Rd H a u) (x : HOk P w H h) : ObjOk P w H h a u := by
  rcases r with r | ⟨o, r⟩
  · exact x a u r
  · obtain ⟨_, q⟩ := x a _ r
    exact q
def Mut : Option HO → Prop
  | some (.lst _) => True
  | some (.dK _) => True
  | some (.dT _) => True
  | some (.set _ _) => True
  | some (.ins _ _ _) => True
  | some (.ext _) => True
  | _ => False
section
variable {P : Program} {w : World} {H : Hp} {h h' : Heap} {x e : Addr} {o' : HO}
theorem HOk.write (ok : HOk P w H h) (mu : Mut (H x)) (he : e = x ∨ H e = some (.own x)) (k : ∀ b u, b ≠ e → h.get? b = some u → h'.get? b = some u) (heo : ∃ u, h'.get? e = some u)
    (new : ObjOk P w (upd H x o') h' x o') : HOk P w (upd H x o') h' := fun b u q => by
  have nown : ∀ c y, H c = some (.own y) → c ≠ x := fun c y r z => by subst z; rw [r] at mu; exact mu
  have ntup : ∀ c xs, H c = some (.tup xs) → c ≠ x := fun c xs r z => by subst z; rw [r] at mu; exact mu
  by_cases hb : b = x
  · subst hb; rw [upd_same] at q; cases q; exact new
  · rw [upd_ne hb] at q
    by_cases hbe : b = e
    · have q' : H b = some (.own x) := by
        rcases he with z | z
        · exact absurd (hbe.trans z) hb
        · rw [hbe]; exact z
      rw [q] at q'; cases q'
      obtain ⟨v, hv⟩ := heo
      exact ⟨v, by rw [hbe]; exact hv⟩
    · refine (ok b u q).stay (fun c v hc r => k c v ?_ r) (fun c r => by rw [upd_ne (nown c b r)]; exact r) fun c xs r => by rw [upd_ne (ntup c xs r)]; exact r
      rcases hc with rfl | hc
      · exact hbe
      · rintro rfl
        rcases he with z | z
        · exact nown c b hc z
        · rw [hc] at z; cases z; exact hb rfl
end
structure Un (fs ex : List Addr) (H H' : Hp) (h h' : Heap) : Prop where
  keep : ∀ b o, h.get? b = some o → H b = none → b ∉ fs → b ∉ ex → h'.get? b = some o
  slot : ∀ b o, h.get? b = some o → H b = none → b ∈ fs → b ∉ ex → ∃ sl, h'.get? b = some { o with slots := sl }
  free : ∀ b o, h.get? b = some o → H b = none → b ∉ ex → H' b = none
  there : ∀ b o, h.get? b = some o → b ∉ ex → ∃ o', h'.get? b = some o'
  tups : ∀ b xs, H b = some (.tup xs) → H' b = some (.tup xs)
  frzs : ∀ b o u, H b = some (.frz o u) → H' b = some (.frz o u)
  tbls : ∀ b ps, H b = some (.tbl ps) → ∃ more, H' b = some (.tbl (ps ++ more))
section
variable {fs fs' ex ex' : List Addr} {H H1 H2 : Hp} {h h1 h2 h' : Heap} {a x e : Addr} {o : HO}
theorem Un.any (u : Un fs ex H H1 h h1) {b : Addr} {ob : Obj} (q : h.get? b = some ob) (n : H b = none) (hx : b ∉ ex) : ∃ sl, h1.get? b = some { ob with slots := sl } := by
  by_cases hb : b ∈ fs
  · exact u.slot b ob q n hb hx
  · exact ⟨ob.slots, u.keep b ob q n hb hx⟩
theorem Un.trans (a : Un fs ex H H1 h h1) (b : Un fs ex H1 H2 h1 h2) : Un fs ex H H2 h h2 where
  keep := fun c ob q n hc hx => b.keep c ob (a.keep c ob q n hc hx) (a.free c ob q n hx) hc hx
  slot := fun c ob q n hc hx => by
    obtain ⟨sl, e1⟩ := a.slot c ob q n hc hx
    obtain ⟨sl', e2⟩ := b.slot c _ e1 (a.free c ob q n hx) hc hx
    exact ⟨sl', e2⟩
  free := fun c ob q n hx => by
    obtain ⟨o', e1⟩ := a.there c ob q hx
    exact b.free c o' e1 (a.free c ob q n hx) hx
  there := fun c ob q hx => by
    obtain ⟨o', e1⟩ := a.there c ob q hx
    exact b.there c o' e1 hx
  tups := fun c xs q => b.tups c xs (a.tups c xs q)
  frzs := fun c ob xs q => b.frzs c ob xs (a.frzs c ob xs q)
  tbls := fun c ps q => by
    obtain ⟨m1, e1⟩ := a.tbls c ps q
    obtain ⟨m2, e2⟩ := b.tbls c _ e1
    exact ⟨m1 ++ m2, by rw [e2, Array.append_assoc]⟩
theorem Un.kept (k : ∀ b u, h.get? b = some u → h'.get? b = some u) : Un fs ex H H h h' :=
  ⟨fun b ob q _ _ _ => k b ob q, fun b ob q _ _ _ => ⟨ob.slots, k b ob q⟩, fun _ _ _ n _ => n, fun b ob q _ => ⟨ob, k b ob q⟩, fun _ _ q => q, fun _ _ _ q => q, fun _ ps q => ⟨#[], by rw [q]; simp⟩⟩
theorem Un.refl : Un fs ex H H h h := Un.kept fun _ _ q => q
theorem Un.laid (k : ∀ b u, h.get? b = some u → h'.get? b = some u) (hp : h.objs.size ≤ a) (hn : H a = none) : Un fs ex H (upd H a o) h h' where
  keep := fun b u q _ _ _ => k b u q
  slot := fun b u q _ _ _ => ⟨u.slots, k b u q⟩
  free := fun b u q n _ => by rw [upd_ne (Nat.ne_of_lt (Nat.lt_of_lt_of_le (Heap.lt_size q) hp))]; exact n
  there := fun b u q _ => ⟨u, k b u q⟩
  tups := fun b xs q => by rw [upd_ne (ne_of_none q hn)]; exact q
  frzs := fun b u xs q => by rw [upd_ne (ne_of_none q hn)]; exact q
  tbls := fun b ps q => ⟨#[], by rw [upd_ne (ne_of_none q hn), q]; simp⟩
theorem Un.write (mu : Mut (H x)) (he : e = x ∨ H e = some (.own x)) (k : ∀ b u, b ≠ e → h.get? b = some u → h'.get? b = some u) (heo : ∃ u, h'.get? e = some u) : Un fs ex H (upd H x o) h h' := by
  have hx : ∀ b, H b = none → b ≠ x := fun b n z => by subst z; rw [n] at mu; exact mu
  have hb : ∀ b, H b = none → b ≠ e := fun b n z => by
    subst z
    rcases he with r | r
    · exact hx b n r
    · rw [n] at r; cases r
  have hm : ∀ b u, H b = some u → ¬ Mut (some u) → b ≠ x := fun b u q nm z => by subst z; rw [q] at mu; exact nm mu
  refine ⟨fun b u q n _ _ => k b u (hb b n) q, fun b u q n _ _ => ⟨u.slots, k b u (hb b n) q⟩, fun b u q n _ => by rw [upd_ne (hx b n)]; exact n, fun b u q _ => ?_,
    fun b xs q => by rw [upd_ne (hm b _ q fun z => z)]; exact q, fun b u xs q => by rw [upd_ne (hm b _ q fun z => z)]; exact q, fun b ps q => ⟨#[], by rw [upd_ne (hm b _ q fun z => z), q]; simp⟩⟩
  by_cases hbe : b = e
  · subst hbe; exact heo
  · exact ⟨u, k b u hbe q⟩
theorem Un.mono (u : Un fs ex H H1 h h1) (hs : ∀ b ∈ fs, b ∈ fs') (hx : ∀ b ∈ ex, b ∈ ex') : Un fs' ex' H H1 h h1 :=
  ⟨fun b ob q n hb he => u.keep b ob q n (fun z => hb (hs b z)) fun z => he (hx b z), fun _ _ q n _ he => u.any q n fun z => he (hx _ z), fun b ob q n he => u.free b ob q n fun z => he (hx b z), fun b ob q he => u.there b ob q fun z => he (hx b z), u.tups, u.frzs, u.tbls⟩
end
def trk (h : Heap) (H : Hp) : List Addr := (List.range h.objs.size).filter fun a => (H a).isSome
def hidT (h : Heap) (H : Hp) : Heap := PySem.W.hideAll h (trk h H)
theorem hidT_size (h : Heap) (H : Hp) : (hidT h H).objs.size = h.objs.size := PySem.W.hideAll_size _ _
theorem hidT_get {h : Heap} {H : Hp} {b : Addr} {o : Obj} (e : h.get? b = some o) (n : H b = none) : (hidT h H).get? b = some o :=
  PySem.W.hideAll_get _ e fun hm => by
    have q : (H b).isSome = true := (List.mem_filter.mp hm).2
    rw [n] at q; simp at q
theorem of_hidT {h : Heap} {H : Hp} {b : Addr} {o : Obj} (e : (hidT h H).get? b = some o) : h.get? b = some o ∧ H b = none := by
  have e' : h.get? b = some o := PySem.W.of_hideAll (trk h H) e
  refine ⟨e', ?_⟩
  cases q : H b with
  | none => rfl
  | some x =>
    have hm : b ∈ trk h H := List.mem_filter.mpr ⟨List.mem_range.mpr (Heap.lt_size e'), by simp [q]⟩
    have z : (hidT h H).get? b = none := PySem.W.hideAll_none (trk h H) hm
    rw [z] at e; cases e
def allNews (g h : Heap) (L : Addr) : List (Addr × Obj) := (List.range h.objs.size).filterMap fun a => if a = L ∨ (g.get? a).isSome = true then none else (h.get? a).map fun o => (a, o)
def rest (g h : Heap) (L d : Addr) : List (Addr × Obj) := (allNews g h L).filter fun p => decide (p.1 ≠ d)
end L2
namespace L2
open PySem PySem.Spec PyProof.Rows
structure Mod (K : PySem.W.Frag) (mg : Str → Option Value) (base : Heap) : Prop where
  kin : K.In base
  glob : base.Ns mainGlobals mg
  blt : ∃ mb, base.Ns builtinsNs mb ∧ ∀ x : Str, x ≠ "__name__" → mb x = bootBuiltins x
  nolimit : base.NoLimit
structure Cx where
  prog : Program
  w : World
  K : PySem.W.Frag
  mg : Str → Option Value
  base : Heap
  A : Around
  N : List Str
  s_0 : Shared
  H_0 : Hp
  env : Env
  outer : List Env
  stack : List Env
  ex : List Addr
  fn : Str → Bool
  calm : Bool
  pn : List (Addr × Obj)
  xe : Value → Shared → Prop
def frs (l : List Env) : List Addr := l.filterMap (·.frame)
abbrev Cx.fs (X : Cx) : List Addr := frs X.outer
def Vis (sc : Scope) (x : Str) : Prop := sc.names.lookup x = some .local ∨ sc.names.lookup x = some .cell ∨ sc.names.lookup x = some .free
def Loc (sc : Scope) (x : Str) : Prop := sc.names.lookup x = some .local ∨ sc.names.lookup x = some .cell
def Look (env : Env) (h : Heap) (m : Str → Option Value) (x : Str) (u : Value) : Prop :=
  (env.kindOf x = some .local ∧ m x = some u) ∨ ((env.kindOf x = some .cell ∨ env.kindOf x = some .free) ∧ ∃ c, env.cells.lookup x = some c ∧ h.IsCell c (some u))
structure Cx.Ok (X : Cx) : Prop where
  mod : Mod X.K X.mg X.base
  kind : X.env.scope.kind = .function
  glob : X.env.globals = mainGlobals
  blt : X.env.builtins = builtinsNs
  above : X.s_0.heap.objs.size ≤ X.env.locals
  inj : ∀ x y c, X.env.cells.lookup x = some c → X.env.cells.lookup y = some c → x = y
  has : ∀ x, (X.env.kindOf x = some .cell ∨ X.env.kindOf x = some .free) → ∃ c, X.env.cells.lookup x = some c
  cab : ∀ x c, X.fn x = true → X.env.cells.lookup x = some c → X.s_0.heap.objs.size ≤ c
  hd : X.calm = true → X.A.handled = none
  frames : X.A.frames = some X.stack
  stk : X.stack = X.outer ∨ (X.stack = X.env :: X.outer ∧ X.env.frame = some X.env.locals)
  exf : ∀ b ∈ X.ex, b ≠ X.env.locals ∧ ∀ x c, X.env.cells.lookup x = some c → c ≠ b
  bs : ∀ b o, X.base.get? b = some o → X.s_0.heap.get? b = some o ∧ X.H_0 b = none
  bsz : X.base.objs.size ≤ X.s_0.heap.objs.size
  noex : ∀ b o, X.base.get? b = some o → b ∉ X.ex
  exfs : ∀ b ∈ X.ex, b ∉ X.fs
  funs : X.s_0.heap.FunFrames X.base X.outer
  frf : ∀ b ∈ X.fs, X.H_0 b = none
structure Inv (X : Cx) (pins : List (Addr × Obj)) (σ : List (Option V)) (H : Hp) (s : Shared) : Prop where
  ok : X.Ok
  os : s.os = X.s_0.os
  bare : AllBare s.gens
  base : Un X.fs X.ex X.H_0 H X.s_0.heap s.heap
  loc : ∃ m, s.heap.Ns X.env.locals m ∧ ∀ (i : Nat) (x : Str) (v : V), X.N[i]? = some x → σ[i]? = some (some v) → Vis X.env.scope x → ∃ u, RelV v u ∧ Look X.env s.heap m x u
  cell : ∀ x c, X.env.cells.lookup x = some c → ∃ v, s.heap.IsCell c v
  free : H X.env.locals = none
  freeC : ∀ x c, X.env.cells.lookup x = some c → H c = none
  pin : ∀ p ∈ X.pn ++ pins, s.heap.get? p.1 = some p.2 ∧ H p.1 = none ∧ p.1 ≠ X.env.locals ∧ p.1 ∉ X.fs ∧ ∀ v, p.2.data ≠ .cell v
  hok : HOk X.prog X.w H s.heap
  len : σ.length = X.N.length
section
variable {X : Cx} {pins : List (Addr × Obj)} {σ : List (Option V)} {H H' : Hp} {s : Shared} {h' : Heap}
theorem Cx.Ok.nofr (ok : X.Ok) {b : Addr} {o : Obj} (e : X.base.get? b = some o) : b ∉ X.fs := fun hb => by
  have := (ok.funs.mem hb).1
  rw [e] at this; cases this
theorem Inv.bs (I : Inv X pins σ H s) : ∀ b o, X.base.get? b = some o → s.heap.get? b = some o ∧ H b = none := fun b o e =>
  ⟨I.base.keep b o (I.ok.bs b o e).1 (I.ok.bs b o e).2 (I.ok.nofr e) (I.ok.noex b o e), I.base.free b o (I.ok.bs b o e).1 (I.ok.bs b o e).2 (I.ok.noex b o e)⟩
theorem Inv.bk (I : Inv X pins σ H s) : ∀ b o, X.base.get? b = some o → s.heap.get? b = some o := fun b o e => (I.bs b o e).1
theorem Inv.mod (I : Inv X pins σ H s) : Mod X.K X.mg X.base := I.ok.mod
theorem Inv.kIn (I : Inv X pins σ H s) : X.K.In s.heap := I.ok.mod.kin.keeps I.bk
theorem Inv.nolimit (I : Inv X pins σ H s) : s.heap.NoLimit := I.ok.mod.nolimit.keeps I.bk
theorem Inv.fr (I : Inv X pins σ H s) : ∃ m, Fr X.base X.env.locals s.heap m :=
  let ⟨m, hn, _⟩ := I.loc
  ⟨m, hn, I.bk, Nat.le_trans I.ok.bsz I.ok.above⟩
theorem Inv.lt (I : Inv X pins σ H s) : X.env.locals < s.heap.objs.size := let ⟨_, hn, _⟩ := I.loc; hn.lt
theorem Inv.sz (I : Inv X pins σ H s) : X.s_0.heap.objs.size ≤ s.heap.objs.size := Nat.le_trans I.ok.above (Nat.le_of_lt I.lt)
theorem Inv.nofs (I : Inv X pins σ H s) {a : Addr} (h : s.heap.objs.size ≤ a) : a ∉ X.fs := fun hb => by
  obtain ⟨_, o, ho, _⟩ := I.ok.funs.mem hb
  exact absurd (Nat.lt_of_lt_of_le (Heap.lt_size ho) (Nat.le_trans I.sz h)) (Nat.lt_irrefl _)
theorem Inv.cne (I : Inv X pins σ H s) : ∀ x c, X.env.cells.lookup x = some c → c ≠ X.env.locals := fun x c e z => by
  obtain ⟨v, o, ho, hd⟩ := I.cell x c e
  obtain ⟨m, ⟨o', es, ep, ho', hd', _⟩, _⟩ := I.loc
  rw [z, ho'] at ho; cases ho; rw [hd'] at hd; cases hd
theorem Inv.funs (I : Inv X pins σ H s) : s.heap.FunFrames X.base X.outer := by
  have all : ∀ (l : List Env), (∀ b ∈ frs l, b ∈ X.fs) → X.s_0.heap.FunFrames X.base l → s.heap.FunFrames X.base l := by
    intro l
    induction l with
    | nil => intro _ _; trivial
    | cons env r ih =>
      intro hs hl
      obtain ⟨hk, ⟨L, o, hf, hn, ho, hd⟩, hr⟩ := hl
      have hL : L ∈ X.fs := hs L (by unfold frs; rw [List.filterMap_cons, hf]; exact List.mem_cons_self)
      obtain ⟨sl, e⟩ := I.base.slot L o ho (I.ok.frf L hL) hL fun z => I.ok.exfs L z hL
      exact ⟨hk, ⟨L, _, hf, hn, e, hd⟩, ih (fun b hb => hs b (by unfold frs; rw [List.filterMap_cons, hf]; exact List.mem_cons_of_mem _ hb)) hr⟩
  exact all X.outer (fun _ hb => hb) I.ok.funs
theorem Inv.stack (I : Inv X pins σ H s) : s.heap.FunFrames X.base X.stack := by
  rcases I.ok.stk with e | ⟨e, hf⟩
  · rw [e]; exact I.funs
  · rw [e]
    obtain ⟨m, hn, _⟩ := I.loc
    refine .cons (by rw [I.ok.kind]; decide) hf hn ?_ I.funs
    exact Heap.get?_none_of_le (Nat.le_trans I.ok.bsz I.ok.above)
theorem Inv.stkSub (I : Inv X pins σ H s) : ∀ b ∈ frs X.stack, b ∈ X.env.locals :: X.fs := fun b hb => by
  rcases I.ok.stk with e | ⟨e, hf⟩
  · rw [e] at hb; exact List.mem_cons_of_mem _ hb
  · rw [e] at hb
    unfold frs at hb
    rw [List.filterMap_cons, hf] at hb
    exact hb
theorem Inv.stkFree (I : Inv X pins σ H s) : ∀ b ∈ frs X.stack, H b = none := fun b hb => by
  rcases List.mem_cons.mp (I.stkSub b hb) with e | hb
  · rw [e]; exact I.free
  · obtain ⟨_, o, ho, _⟩ := I.ok.funs.mem hb
    exact I.base.free b o ho (I.ok.frf b hb) fun z => I.ok.exfs b z hb
theorem Inv.step {g' : Array GenState} {t' : Nat} {d' : Drawn} {ch : List Addr} (I : Inv X pins σ H s)
    (hch : ∀ b ∈ ch, (b ∈ X.ex ∨ X.s_0.heap.objs.size ≤ b) ∧ b ≠ X.env.locals ∧ (∀ x c, X.env.cells.lookup x = some c → c ≠ b) ∧ ∀ p ∈ X.pn ++ pins, p.1 ≠ b)
    (keep : ∀ b o, b ≠ X.env.locals → b ∉ X.fs → b ∉ ch → s.heap.get? b = some o → H b = none → h'.get? b = some o)
    (slot : ∀ b o, b ≠ X.env.locals → b ∈ X.fs → b ∉ ch → s.heap.get? b = some o → H b = none → ∃ sl, h'.get? b = some { o with slots := sl }) (free : ∀ b o, b ∉ ch → s.heap.get? b = some o → H b = none → H' b = none)
    (there : ∀ b o, b ∉ ch → s.heap.get? b = some o → ∃ o', h'.get? b = some o')
    (tups : ∀ b xs, H b = some (.tup xs) → H' b = some (.tup xs)) (frzs : ∀ b o u, H b = some (.frz o u) → H' b = some (.frz o u)) (tbls : ∀ b ps, H b = some (.tbl ps) → ∃ more, H' b = some (.tbl (ps ++ more)))
    (ns : ∀ m, s.heap.Ns X.env.locals m → h'.Ns X.env.locals m) (hok : HOk X.prog X.w H' h') (hg : AllBare g') :
    Inv X pins σ H' { s with heap := h', gens := g', drawn := d', toks := t' } := by
  have neL : ∀ b o, X.s_0.heap.get? b = some o → b ≠ X.env.locals := fun b o e => Nat.ne_of_lt (Nat.lt_of_lt_of_le (Heap.lt_size e) I.ok.above)
  have neC : ∀ b o, X.s_0.heap.get? b = some o → b ∉ X.ex → b ∉ ch := fun b o e hx hb => by
    rcases (hch b hb).1 with z | z
    · exact hx z
    · exact absurd (Nat.lt_of_lt_of_le (Heap.lt_size e) z) (Nat.lt_irrefl _)
  have cellK : ∀ x c, X.env.cells.lookup x = some c → ∀ v, s.heap.IsCell c v → h'.IsCell c v := fun x c e v ⟨o, ho, hd⟩ => by
    have nch : c ∉ ch := fun z => (hch c z).2.2.1 x c e rfl
    by_cases hc : c ∈ X.fs
    · obtain ⟨sl, q⟩ := slot c o (I.cne x c e) hc nch ho (I.freeC x c e)
      exact ⟨_, q, hd⟩
    · exact ⟨o, keep c o (I.cne x c e) hc nch ho (I.freeC x c e), hd⟩
  refine ⟨I.ok, I.os, hg, ⟨fun b o e n hb hx => ?_, fun b o e n hb hx => ?_, fun b o e n hx => ?_, fun b o e hx => ?_, fun b xs e => tups b xs (I.base.tups b xs e), fun b o xs e => frzs b o xs (I.base.frzs b o xs e), fun b ps e => ?_⟩, ?_, fun x c e => ?_, ?_, fun x c e => ?_, fun p hp => ?_, hok, I.len⟩
  · exact keep b o (neL b o e) hb (neC b o e hx) (I.base.keep b o e n hb hx) (I.base.free b o e n hx)
  · obtain ⟨sl, e1⟩ := I.base.slot b o e n hb hx
    obtain ⟨sl', e2⟩ := slot b _ (neL b o e) hb (neC b o e hx) e1 (I.base.free b o e n hx)
    exact ⟨sl', e2⟩
  · obtain ⟨o', e1⟩ := I.base.there b o e hx
    exact free b o' (neC b o e hx) e1 (I.base.free b o e n hx)
  · obtain ⟨o', e1⟩ := I.base.there b o e hx
    exact there b o' (neC b o e hx) e1
  · obtain ⟨m1, e1⟩ := I.base.tbls b ps e
    obtain ⟨m2, e2⟩ := tbls b _ e1
    exact ⟨m1 ++ m2, by rw [e2, Array.append_assoc]⟩
  · obtain ⟨m, hn, hl⟩ := I.loc
    refine ⟨m, ns m hn, fun i x v e1 e2 e3 => ?_⟩
    obtain ⟨u, r, l⟩ := hl i x v e1 e2 e3
    refine ⟨u, r, ?_⟩
    rcases l with l | ⟨k, c, e, z⟩
    · exact .inl l
    · exact .inr ⟨k, c, e, cellK x c e _ z⟩
  · obtain ⟨v, z⟩ := I.cell x c e
    exact ⟨v, cellK x c e v z⟩
  · obtain ⟨m, ⟨o, _, _, ho, _⟩, _⟩ := I.loc
    exact free _ o (fun z => (hch _ z).2.1 rfl) ho I.free
  · obtain ⟨v, o, ho, hd⟩ := I.cell x c e
    exact free c o (fun z => (hch c z).2.2.1 x c e rfl) ho (I.freeC x c e)
  · obtain ⟨e, n, ne, nf, d⟩ := I.pin p hp
    have nch : p.1 ∉ ch := fun z => (hch p.1 z).2.2.2 p hp rfl
    exact ⟨keep p.1 p.2 ne nf nch e n, free p.1 p.2 nch e n, ne, nf, d⟩
theorem Inv.un {t' : Nat} (I : Inv X pins σ H s) (u : Un X.fs [] H H' s.heap h') (hok : HOk X.prog X.w H' h') : Inv X pins σ H' { s with heap := h', toks := t' } := by
  obtain ⟨m, ⟨o, es, ep, ho, r⟩, _⟩ := id I.loc
  obtain ⟨sl, hL⟩ := u.any ho I.free (by simp)
  exact I.step (g' := s.gens) (d' := s.drawn) (ch := []) (fun _ z => nomatch z) (fun b o _ hb _ e n => u.keep b o e n hb (by simp)) (fun b o _ hb _ e n => u.slot b o e n hb (by simp)) (fun b o _ e n => u.free b o e n (by simp)) (fun b o _ e => u.there b o e (by simp)) u.tups u.frzs u.tbls (fun m' hm => by
    obtain ⟨o', es', ep', ho', r'⟩ := hm
    rw [ho] at ho'; cases ho'
    exact ⟨_, es', ep', hL, r'⟩) hok I.bare
theorem Inv.call {g' : Array GenState} {t' : Nat} {d' : Drawn} {ch : List Addr} (I : Inv X pins σ H s) (u : Un (frs X.stack) ch H H' s.heap h') (hok : HOk X.prog X.w H' h') (hg : AllBare g')
    (hch : ∀ b ∈ ch, (b ∈ X.ex ∨ X.s_0.heap.objs.size ≤ b) ∧ b ≠ X.env.locals ∧ (∀ x c, X.env.cells.lookup x = some c → c ≠ b) ∧ ∀ p ∈ X.pn ++ pins, p.1 ≠ b) :
    Inv X pins σ H' { s with heap := h', gens := g', drawn := d', toks := t' } := by
  obtain ⟨m, ⟨o, es, ep, ho, r⟩, _⟩ := id I.loc
  obtain ⟨sl, hL⟩ := u.any ho I.free fun z => (hch _ z).2.1 rfl
  exact I.step (ch := ch) hch (fun b o hL hb hc e n => u.keep b o e n (fun z => (List.mem_cons.mp (I.stkSub b z)).elim hL hb) hc) (fun b o _ _ hc e n => u.any e n hc) (fun b o hc e n => u.free b o e n hc) (fun b o hc e => u.there b o e hc) u.tups u.frzs u.tbls (fun m' hm => by
    obtain ⟨o', es', ep', ho', r'⟩ := hm
    rw [ho] at ho'; cases ho'
    exact ⟨_, es', ep', hL, r'⟩) hok hg
theorem Inv.turned {t' : Nat} {it : Addr} (I : Inv X pins σ H s) (k : ∀ b o, b ≠ it → s.heap.get? b = some o → h'.get? b = some o) (hn : H it = none) (hL : it ≠ X.env.locals)
    (h1 : it ∈ X.ex ∨ X.s_0.heap.objs.size ≤ it) (h2 : ∀ x c, X.env.cells.lookup x = some c → c ≠ it) (h3 : ∀ p ∈ X.pn ++ pins, p.1 ≠ it) : Inv X pins σ H { s with heap := h', toks := t' } := by
  have nit : ∀ b u, H b = some u → b ≠ it := fun b u e z => by rw [z, hn] at e; cases e
  refine I.step (g' := s.gens) (d' := s.drawn) (ch := [it]) (fun b hb => ?_) (fun b o _ _ hc e _ => k b o (fun z => hc (by simp [z])) e) (fun b o _ _ hc e _ => ⟨o.slots, k b o (fun z => hc (by simp [z])) e⟩) (fun _ _ _ _ n => n)
    (fun b o hc e => ⟨o, k b o (fun z => hc (by simp [z])) e⟩) (fun _ _ e => e) (fun _ _ _ e => e) (fun b ps e => ⟨#[], by rw [e]; simp⟩) (fun m hm => ?_) (fun b u e => ?_) I.bare
  · have e : b = it := by simpa using hb
    subst e
    exact ⟨h1, hL, h2, h3⟩
  · obtain ⟨o, es, ep, ho, r⟩ := hm
    exact ⟨o, es, ep, k _ o (Ne.symm hL) ho, r⟩
  · refine (I.hok b u e).stay (fun c v hc q => k c v ?_ q) (fun _ q => q) fun _ _ q => q
    rcases hc with z | z
    · rw [z]; exact nit b u e
    · exact nit c _ z
theorem Inv.tok (I : Inv X pins σ H s) (t : Nat) : Inv X pins σ H { s with toks := t } := I.un (h' := s.heap) (t' := t) Un.refl I.hok
theorem Inv.kept {t' : Nat} (I : Inv X pins σ H s) (k : ∀ b u, s.heap.get? b = some u → h'.get? b = some u) : Inv X pins σ H { s with heap := h', toks := t' } := I.un (Un.kept k) (I.hok.kept k)
theorem Inv.laid {a : Addr} {o : HO} {t' : Nat} (I : Inv X pins σ H s) (k : ∀ b u, s.heap.get? b = some u → h'.get? b = some u) (hp : s.heap.objs.size ≤ a) (new : ObjOk X.prog X.w (upd H a o) h' a o) :
    Inv X pins σ (upd H a o) { s with heap := h', toks := t' } := I.un (Un.laid k hp (I.hok.fresh hp)) (I.hok.laid k hp new)
theorem Inv.write {x e : Addr} {o : HO} {t' : Nat} (I : Inv X pins σ H s) (mu : Mut (H x)) (he : e = x ∨ H e = some (.own x)) (k : ∀ b u, b ≠ e → s.heap.get? b = some u → h'.get? b = some u) (heo : ∃ u, h'.get? e = some u)
    (new : ObjOk X.prog X.w (upd H x o) h' x o) : Inv X pins σ (upd H x o) { s with heap := h', toks := t' } := I.un (Un.write mu he k heo) (I.hok.write mu he k heo new)
theorem Inv.weak {σ' : List (Option V)} (I : Inv X pins σ H s) (hl : σ'.length = σ.length) (w : ∀ (i : Nat) v, σ'[i]? = some (some v) → σ[i]? = some (some v)) : Inv X pins σ' H s :=
  ⟨I.ok, I.os, I.bare, I.base, let ⟨m, hn, hl'⟩ := I.loc; ⟨m, hn, fun i x v e1 e2 e3 => hl' i x v e1 (w i v e2) e3⟩, I.cell, I.free, I.freeC, I.pin, I.hok, hl.trans I.len⟩
theorem Inv.pins_of {pins' : List (Addr × Obj)} (I : Inv X pins σ H s) (h : ∀ p ∈ pins', s.heap.get? p.1 = some p.2 ∧ H p.1 = none ∧ p.1 ≠ X.env.locals ∧ p.1 ∉ X.fs ∧ ∀ v, p.2.data ≠ .cell v) : Inv X pins' σ H s :=
  ⟨I.ok, I.os, I.bare, I.base, I.loc, I.cell, I.free, I.freeC, fun p hp => (List.mem_append.mp hp).elim (fun z => I.pin p (List.mem_append_left _ z)) (h p), I.hok, I.len⟩
theorem nodup_ix {N : List Str} (hN : N.Nodup) {i j : Nat} {x : Str} (a : N[i]? = some x) (b : N[j]? = some x) : i = j := by
  obtain ⟨h1, e1⟩ := List.getElem?_eq_some_iff.mp a
  obtain ⟨h2, e2⟩ := List.getElem?_eq_some_iff.mp b
  exact (List.getElem_inj hN).mp (e1.trans e2.symm)
theorem store_ok2 {M : Model} {A : Around} {E : Value → Shared → Prop} {i : Nat} {x : Str} {v : V} {u : Value} {Q : Unit → Shared → Prop} (I : Inv X pins σ H s) (hN : X.N.Nodup) (hi : X.N[i]? = some x) (hx : Loc X.env.scope x) (r : RelV v u)
    (h : ∀ s', Inv X pins (σ.set i (some v)) H s' → (∃ a, Heap.SameBut a s.heap s'.heap ∧ (a = X.env.locals ∨ X.env.cells.lookup x = some a)) → Q () s') (hf : X.fn x = true ∨ X.env.scope.names.lookup x = some .local := by first | exact .inl rfl | exact .inr rfl | assumption) : wpAny M A (storeName X.env x u) Q E s := by
  obtain ⟨m, hn, hl⟩ := id I.loc
  have hcls : (X.env.scope.kind == .class || (X.env.scope.kind == .module && X.env.locals != X.env.globals)) = false := by rw [I.ok.kind]; rfl
  have hiσ : i < σ.length := by rw [I.len]; exact (List.getElem?_eq_some_iff.mp hi).1
  have cne := I.cne
  have tracked : ∀ {a : Addr} {h' : Heap}, (∃ o, s.heap.get? a = some o ∧ H a = none) → Heap.SameBut a s.heap h' → HOk X.prog X.w H h' := fun {a h'} ha hs b ob e => by
    obtain ⟨_, _, hfree⟩ := ha
    refine (I.hok b ob e).stay (fun c w' hc q => (hs.2 c ?_).trans q) (fun _ q => q) fun _ _ q => q
    rintro rfl
    rcases hc with rfl | hc
    · rw [hfree] at e; cases e
    · rw [hfree] at hc; cases hc
  rcases hx with hk | hk
  · refine wpAny_storeName_local hk hn (fun h' hn' hs => ?_) hcls
    obtain ⟨oL, _, _, hoL, _⟩ := id hn
    refine h _ ⟨I.ok, I.os, I.bare, ⟨fun b o e n hb hx => ?_, fun b o e n hb hx => ?_, I.base.free, fun b o e hx => ?_, I.base.tups, I.base.frzs, I.base.tbls⟩, ⟨_, hn', fun j y v' e1 e2 e3 => ?_⟩, fun y c e => ?_, I.free, I.freeC, fun p hp => ?_, tracked ⟨oL, hoL, I.free⟩ hs, by simpa using I.len⟩ ⟨_, hs, .inl rfl⟩
    · exact (hs.2 b (Nat.ne_of_lt (Nat.lt_of_lt_of_le (Heap.lt_size e) I.ok.above))).trans (I.base.keep b o e n hb hx)
    · obtain ⟨sl, e1⟩ := I.base.slot b o e n hb hx
      exact ⟨sl, (hs.2 b (Nat.ne_of_lt (Nat.lt_of_lt_of_le (Heap.lt_size e) I.ok.above))).trans e1⟩
    · obtain ⟨o', e1⟩ := I.base.there b o e hx
      exact ⟨o', (hs.2 b (Nat.ne_of_lt (Nat.lt_of_lt_of_le (Heap.lt_size e) I.ok.above))).trans e1⟩
    · by_cases hj : j = i
      · subst hj
        rw [hi] at e1; cases e1
        rw [List.getElem?_set_self hiσ] at e2
        cases e2
        exact ⟨u, r, .inl ⟨hk, by simp⟩⟩
      · rw [List.getElem?_set_ne (Ne.symm hj)] at e2
        obtain ⟨u', r', q⟩ := hl j y v' e1 e2 e3
        refine ⟨u', r', ?_⟩
        rcases q with ⟨k, e⟩ | ⟨k, c, e, z⟩
        · refine .inl ⟨k, ?_⟩
          have : y ≠ x := fun e => hj (nodup_ix hN e1 (e ▸ hi))
          simp [this, e]
        · exact .inr ⟨k, c, e, z.sameBut hs (cne y c e)⟩
    · obtain ⟨w', z⟩ := I.cell y c e
      exact ⟨w', z.sameBut hs (cne y c e)⟩
    · obtain ⟨e, n, ne, nf, d⟩ := I.pin p hp
      exact ⟨(hs.2 p.1 ne).trans e, n, ne, nf, d⟩
  · have hfn : X.fn x = true := by
      rcases hf with z | z
      · exact z
      · rw [z] at hk; cases hk
    obtain ⟨c, hc⟩ := I.ok.has x (.inl hk)
    obtain ⟨w', z⟩ := I.cell x c hc
    refine wpAny_storeName_cell I.ok.kind hk hc z (fun h' hc' hs => ?_)
    obtain ⟨oc, hoc, hocd⟩ := id z
    refine h { s with heap := h' } ⟨I.ok, I.os, I.bare, ⟨fun b o e n hb hx => ?_, fun b o e n hb hx => ?_, I.base.free, fun b o e hx => ?_, I.base.tups, I.base.frzs, I.base.tbls⟩, ⟨m, hn.sameBut hs (Ne.symm (cne x c hc)), fun j y v' e1 e2 e3 => ?_⟩, fun y c' e => ?_, I.free, I.freeC, fun p hp => ?_, tracked ⟨oc, hoc, I.freeC x c hc⟩ hs, by simpa using I.len⟩ ⟨c, hs, .inr hc⟩
    · exact (hs.2 b (Nat.ne_of_lt (Nat.lt_of_lt_of_le (Heap.lt_size e) (I.ok.cab x c hfn hc)))).trans (I.base.keep b o e n hb hx)
    · obtain ⟨sl, e1⟩ := I.base.slot b o e n hb hx
      exact ⟨sl, (hs.2 b (Nat.ne_of_lt (Nat.lt_of_lt_of_le (Heap.lt_size e) (I.ok.cab x c hfn hc)))).trans e1⟩
    · obtain ⟨o', e1⟩ := I.base.there b o e hx
      exact ⟨o', (hs.2 b (Nat.ne_of_lt (Nat.lt_of_lt_of_le (Heap.lt_size e) (I.ok.cab x c hfn hc)))).trans e1⟩
    · by_cases hj : j = i
      · subst hj
        rw [hi] at e1; cases e1
        rw [List.getElem?_set_self hiσ] at e2
        cases e2
        exact ⟨u, r, .inr ⟨.inl hk, c, hc, hc'⟩⟩
      · rw [List.getElem?_set_ne (Ne.symm hj)] at e2
        obtain ⟨u', r', q⟩ := hl j y v' e1 e2 e3
        refine ⟨u', r', ?_⟩
        rcases q with q | ⟨k, c', e, z'⟩
        · exact .inl q
        · refine .inr ⟨k, c', e, z'.sameBut hs ?_⟩
          rintro rfl
          exact hj (nodup_ix hN e1 (I.ok.inj _ _ _ e hc ▸ hi))
    · by_cases hcc : c' = c
      · subst hcc; exact ⟨_, hc'⟩
      · obtain ⟨w2, z2⟩ := I.cell y c' e
        exact ⟨w2, z2.sameBut hs hcc⟩
    · obtain ⟨e, n, ne, nf, d⟩ := I.pin p hp
      refine ⟨(hs.2 p.1 ?_).trans e, n, ne, nf, d⟩
      intro q
      rw [q, hoc] at e
      have q' : oc = p.2 := Option.some.inj e
      exact d w' (by rw [← q']; exact hocd)
theorem store_ok {M : Model} {A : Around} {E : Value → Shared → Prop} {i : Nat} {x : Str} {v : V} {u : Value} {Q : Unit → Shared → Prop} (I : Inv X pins σ H s) (hN : X.N.Nodup) (hi : X.N[i]? = some x) (hx : Loc X.env.scope x) (r : RelV v u)
    (h : ∀ s', Inv X pins (σ.set i (some v)) H s' → Q () s') (hf : X.fn x = true ∨ X.env.scope.names.lookup x = some .local := by first | exact .inl rfl | exact .inr rfl | assumption) : wpAny M A (storeName X.env x u) Q E s :=
  store_ok2 I hN hi hx r (fun s' I' _ => h s' I') hf
theorem Inv.call' {s' : Shared} {ch : List Addr} (I : Inv X pins σ H s) (ho : s'.os = s.os) (u : Un (frs X.stack) ch H H' s.heap s'.heap) (hok : HOk X.prog X.w H' s'.heap) (hg : AllBare s'.gens)
    (hch : ∀ b ∈ ch, (b ∈ X.ex ∨ X.s_0.heap.objs.size ≤ b) ∧ b ≠ X.env.locals ∧ (∀ x c, X.env.cells.lookup x = some c → c ≠ b) ∧ ∀ p ∈ X.pn ++ pins, p.1 ≠ b) : Inv X pins σ H' s' := by
  obtain ⟨h', g', d', t', o'⟩ := s'
  have e : o' = s.os := ho
  subst e
  exact I.call (g' := g') (t' := t') (d' := d') u hok hg hch
end
abbrev XK := Value → Option Addr → Hp → Prop
abbrev St := List (Option V)
abbrev VK := V → Hp → Prop
abbrev TE := St → Hp → VK → Prop
abbrev TT := St → Hp → (Bool → Hp → Prop) → Prop
abbrev TA := St → Hp → (List V → Hp → Prop) → Prop
structure Ends where
  nx : St → Hp → Prop
  rt : VK
  bk : St → Hp → Prop := fun _ _ => False
  ct : St → Hp → Prop := fun _ _ => False
abbrev TS := Ends → St → Hp → Prop
def EP (X : Cx) (pins : List (Addr × Obj)) (σ : St) (Q : VK) (u : Value) (s' : Shared) : Prop := ∃ v H', Inv X pins σ H' s' ∧ RelV v u ∧ Q v H'
def TP (X : Cx) (pins : List (Addr × Obj)) (σ : St) (Q : Bool → Hp → Prop) (b : Bool) (s' : Shared) : Prop := ∃ H', Inv X pins σ H' s' ∧ Q b H'
def AP (X : Cx) (pins : List (Addr × Obj)) (σ : St) (Q : List V → Hp → Prop) (us : List Value) (s' : Shared) : Prop := ∃ vs H', Inv X pins σ H' s' ∧ Vals vs us ∧ Q vs H'
def SP (X : Cx) (pins : List (Addr × Obj)) (D : Ends) (f : Flow) (s' : Shared) : Prop :=
  match f with
  | .next => ∃ σ' H', Inv X pins σ' H' s' ∧ D.nx σ' H'
  | .brk => ∃ σ' H', Inv X pins σ' H' s' ∧ D.bk σ' H'
  | .cont => ∃ σ' H', Inv X pins σ' H' s' ∧ D.ct σ' H'
  | .ret u => ∃ v σ' H', Inv X pins σ' H' s' ∧ RelV v u ∧ D.rt v H'
def PE (X : Cx) (e : Expr) (t : TE) : Prop :=
  ∀ (pins : List (Addr × Obj)) (s : Shared) (σ : St) (H : Hp) (Q : VK), Inv X pins σ H s → t σ H Q → wpAny (model X.prog X.w) X.A (eval e X.env) (EP X pins σ Q) X.xe s
def PT (X : Cx) (e : Expr) (t : TT) : Prop :=
  ∀ (pins : List (Addr × Obj)) (s : Shared) (σ : St) (H : Hp) (Q : Bool → Hp → Prop), Inv X pins σ H s → t σ H Q → wpAny (model X.prog X.w) X.A (isTrue e X.env (eval e X.env)) (TP X pins σ Q) X.xe s
def PW (X : Cx) (e : Expr) (t : TT) : Prop :=
  ∀ (whole : Sem Value) (pins : List (Addr × Obj)) (s : Shared) (σ : St) (H : Hp) (Q : Bool → Hp → Prop), Inv X pins σ H s → t σ H Q → wpAny (model X.prog X.w) X.A (isTrue e X.env whole) (TP X pins σ Q) X.xe s
theorem PW.pt {X : Cx} {e : Expr} {t : TT} (h : PW X e t) : PT X e t := h _
def PA (X : Cx) (es : List Expr) (t : TA) : Prop :=
  ∀ (pos : Pos) (pins : List (Addr × Obj)) (s : Shared) (σ : St) (H : Hp) (Q : List V → Hp → Prop), Inv X pins σ H s → t σ H Q → wpAny (model X.prog X.w) X.A (spliced (backTo pos (starEach es X.env))) (AP X pins σ Q) X.xe s
def PS (X : Cx) (st : Stmt) (t : TS) : Prop :=
  ∀ (pins : List (Addr × Obj)) (s : Shared) (σ : St) (H : Hp) (D : Ends), Inv X pins σ H s → t D σ H → wpAny (model X.prog X.w) X.A (exec st X.env) (SP X pins D) X.xe s
def PSs (X : Cx) (st : List Stmt) (t : TS) : Prop :=
  ∀ (pins : List (Addr × Obj)) (s : Shared) (σ : St) (H : Hp) (D : Ends), Inv X pins σ H s → t D σ H → wpAny (model X.prog X.w) X.A (execs st X.env) (SP X pins D) X.xe s
theorem thn {α : Type} {t : Sem α} {Q Q' : α → Shared → Prop} {M : Model} {A : Around} {E : Value → Shared → Prop} {s : Shared} (h : wpAny M A t Q E s) (hQ : ∀ a s, Q a s → Q' a s) : wpAny M A t Q' E s := wpAny_mono h hQ fun _ _ x => x
end L2
namespace L2
open PySem PySem.Spec PyProof.Rows
section
variable {X : Cx}
def tVar (i : Nat) : TE := fun σ H Q => ∃ v, σ[i]? = some (some v) ∧ Q v H
def tC (v : V) : TE := fun _ H Q => Q v H
theorem pe_var {i : Nat} {x : Str} {pos : Pos} (hN : X.N[i]? = some x) (hv : Vis X.env.scope x) (hd : (x == ("__debug__" : Str)) = false := by decide) (hcd : (x == ("__classdict__" : Str)) = false := by decide) : PE X (.Name x pos) (tVar i) := by
  intro pins s σ H Q I h
  obtain ⟨v, e, h⟩ := h
  obtain ⟨m, hn, hl⟩ := I.loc
  obtain ⟨u, r, l⟩ := hl i x v hN e hv
  have fin : EP X pins σ Q u s := ⟨v, H, I, r, h⟩
  rcases l with ⟨hk, hm⟩ | ⟨hk, c, hc, hcell⟩
  · exact wpAny_Name (wpAny_loadName_local I.ok.kind hk hn hm fin) hd
  · rcases hk with hk | hk
    · exact wpAny_Name (wpAny_loadName_cell I.ok.kind hk hc hcell fin) hd
    · exact wpAny_Name (wpAny_loadName_free I.ok.kind hk hc hcell fin hcd) hd
theorem pe_int {i j pos} : PE X (.Constant (.int i) j pos) (tC (.int i)) := fun _ _ _ H _ I h => wpAny_Constant_int ⟨.int i, H, I.tok _, ⟨_, rfl⟩, h⟩
theorem pe_bl {b j pos} : PE X (.Constant (.bool b) j pos) (tC (.bl b)) := fun _ _ _ H _ I h => Constant_bool ⟨.bl b, H, I, rfl, h⟩
theorem pe_non {j pos} : PE X (.Constant .none j pos) (tC .non) := fun _ _ _ H _ I h => Constant_none ⟨.non, H, I, rfl, h⟩
theorem pe_str {x j pos} : PE X (.Constant (.str x) j pos) (tC (.str x)) := fun _ _ _ H _ I h => Calls.Constant_str ⟨.str x, H, I.tok _, ⟨_, rfl⟩, h⟩
def Gl (X : Cx) (x : Str) : Prop := X.env.kindOf x = some .globalImplicit
theorem ld_glob {E : Value → Shared → Prop} {pins : List (Addr × Obj)} {s : Shared} {σ : St} {H : Hp} {x : Str} {u : Value} {pos : Pos} {Q : Value → Shared → Prop} (I : Inv X pins σ H s) (hg : Gl X x) (hm : X.mg x = some u) (h : Q u s)
    (hd : (x == ("__debug__" : Str)) = false := by decide) : wpAny (model X.prog X.w) X.A (eval (.Name x pos) X.env) Q E s :=
  Calls.Name_function_global I.ok.kind hg (Calls.loadGlobal_global (by rw [I.ok.glob]; exact I.mod.glob.keeps I.bk) hm h) hd
theorem ld_blt {E : Value → Shared → Prop} {pins : List (Addr × Obj)} {s : Shared} {σ : St} {H : Hp} {x : Str} {u : Value} {pos : Pos} {Q : Value → Shared → Prop} (I : Inv X pins σ H s) (hg : Gl X x) (hm : X.mg x = none) (hv : bootBuiltins x = some u) (h : Q u s)
    (hn : x ≠ "__name__" := by decide) (hd : (x == ("__debug__" : Str)) = false := by decide) : wpAny (model X.prog X.w) X.A (eval (.Name x pos) X.env) Q E s := by
  obtain ⟨mb, h1, h2⟩ := I.mod.blt
  exact Calls.Name_function_global I.ok.kind hg (Calls.loadGlobal_builtin (by rw [I.ok.glob]; exact I.mod.glob.keeps I.bk) hm (by rw [I.ok.blt]; exact h1.keeps I.bk) ((h2 x hn).trans hv) h) hd
theorem pe_glob {x : Str} {v : V} {u : Value} {pos : Pos} (hg : Gl X x) (hm : X.mg x = some u) (r : RelV v u) (hd : (x == ("__debug__" : Str)) = false := by decide) : PE X (.Name x pos) (tC v) :=
  fun _ _ _ H _ I h => ld_glob I hg hm ⟨v, H, I, r, h⟩ hd
theorem pe_bltn {x : Str} {v : V} {u : Value} {pos : Pos} (hg : Gl X x) (hm : X.mg x = none) (hv : bootBuiltins x = some u) (r : RelV v u) (hn : x ≠ "__name__" := by decide) (hd : (x == ("__debug__" : Str)) = false := by decide) : PE X (.Name x pos) (tC v) :=
  fun _ _ _ H _ I h => ld_blt I hg hm hv ⟨v, H, I, r, h⟩ hn hd
variable {a b : Expr} {ta tb : TE} {pos : Pos}
def PC (X : Cx) (op : CmpOp) (a b : Expr) (t : TE) : Prop :=
  ∀ (pins : List (Addr × Obj)) (s : Shared) (σ : St) (H : Hp) (Q : VK), Inv X pins σ H s → t σ H Q →
    wpAny (model X.prog X.w) X.A (eval a X.env) (fun v s₁ => wpAny (model X.prog X.w) X.A (eval b X.env) (fun u s₂ => wpAny (model X.prog X.w) X.A (compareOp op v u) (EP X pins σ Q) X.xe s₂) X.xe s₁) X.xe s
theorem nobehind (b : Expr) {op : CmpOp} (h : op ≠ .In) (h2 : op ≠ .NotIn) : behindInMarks op b = false := by
  have e1 : (op == CmpOp.In) = false := by cases op <;> first | rfl | exact absurd rfl h
  have e2 : (op == CmpOp.NotIn) = false := by cases op <;> first | rfl | exact absurd rfl h2
  cases b <;> simp [behindInMarks, e1, e2]
def tB (t : TE) : TT := fun σ H Q => t σ H fun x H1 => ∃ c, x = .bl c ∧ Q c H1
theorem pe_cmp {op : CmpOp} {t : TE} (h : PC X op a b t) (h1 : behindInMarks op b = false := by first | exact nobehind _ (by decide) (by decide) | rfl) : PE X (.Compare a [op] [b] pos) t := fun pins s σ H Q I hw => wpAny_Compare1 (h pins s σ H Q I hw) h1
theorem pt_val {e : Expr} {t : TE} (h : PE X e t) (he : ∀ whole, isTrue e X.env whole = (do let v ← whole; standAt e.pos; holding [v] (truthy v)) := by intro _; rfl) : PT X e (tB t) := by
  intro pins s σ H Q I hw
  refine isTrue_plain (thn (h pins s σ H _ I hw) fun v s1 ⟨x, H1, I1, r1, q1⟩ => ?_) (he _)
  obtain ⟨d, rfl, q⟩ := q1
  cases r1
  exact wpAny_truthy_bool ⟨H1, I1, q⟩
variable {tA tB' : TT} {rest : List Expr}
def tAnd (t u : TT) : TT := fun σ H Q => t σ H fun c H1 => if c = true then u σ H1 Q else Q false H1
def tOr (t u : TT) : TT := fun σ H Q => t σ H fun c H1 => if c = true then Q true H1 else u σ H1 Q
def tNot (t : TT) : TT := fun σ H Q => t σ H fun c H1 => Q (!c) H1
theorem pw_and1 (ha : PT X a tA) : PW X (.BoolOp .And [a] pos) tA := by
  intro wh pins s σ H Q I h
  refine isTrue_and (thn (ha pins s σ H Q I h) fun c s1 e => ?_)
  cases c with
  | true => exact isTrue_and_nil e
  | false => exact e
theorem pw_or1 (ha : PT X a tA) : PW X (.BoolOp .Or [a] pos) tA := by
  intro wh pins s σ H Q I h
  refine isTrue_or (thn (ha pins s σ H Q I h) fun c s1 e => ?_)
  cases c with
  | false => exact isTrue_or_nil e
  | true => exact e
theorem pw_and (ha : PT X a tA) (hb : PW X (.BoolOp .And (b :: rest) pos) tB') : PW X (.BoolOp .And (a :: b :: rest) pos) (tAnd tA tB') := by
  intro wh pins s σ H Q I h
  refine isTrue_and (thn (ha pins s σ H _ I h) fun c s1 ⟨H1, I1, q1⟩ => ?_)
  cases c with
  | true => exact hb wh pins s1 σ H1 Q I1 q1
  | false => exact ⟨H1, I1, q1⟩
theorem pw_or (ha : PT X a tA) (hb : PW X (.BoolOp .Or (b :: rest) pos) tB') : PW X (.BoolOp .Or (a :: b :: rest) pos) (tOr tA tB') := by
  intro wh pins s σ H Q I h
  refine isTrue_or (thn (ha pins s σ H _ I h) fun c s1 ⟨H1, I1, q1⟩ => ?_)
  cases c with
  | true => exact ⟨H1, I1, q1⟩
  | false => exact hb wh pins s1 σ H1 Q I1 q1
theorem pt_not (ha : PT X a tA) : PT X (.UnaryOp .Not a pos) (tNot tA) := by
  intro pins s σ H Q I h
  exact isTrue_not (ha pins s σ H (fun c H1 => Q (!c) H1) I h)
def tAndV (ta tb : TE) : TE := fun σ H Q => ta σ H fun x H1 => ∃ c, x = .bl c ∧ if c = true then tb σ H1 Q else Q (.bl false) H1
def tOrV (ta tb : TE) : TE := fun σ H Q => ta σ H fun x H1 => ∃ c, x = .bl c ∧ if c = true then Q (.bl true) H1 else tb σ H1 Q
def tNotV (ta : TE) : TE := fun σ H Q => ta σ H fun x H1 => ∃ c, x = .bl c ∧ Q (.bl (!c)) H1
theorem pe_one {op} {t : TE} (h : PE X a t) : PE X (.BoolOp op [a] pos) t := fun pins s σ H Q I hw => BoolOp_one (h pins s σ H Q I hw)
theorem pe_and (ha : PE X a ta) (hb : PE X (.BoolOp .And (b :: rest) pos) tb) : PE X (.BoolOp .And (a :: b :: rest) pos) (tAndV ta tb) := by
  intro pins s σ H Q I h
  refine BoolOp_and (thn (ha pins s σ H _ I h) fun v s1 ⟨x, H1, I1, r1, q1⟩ => ?_)
  obtain ⟨c, rfl, q1⟩ := q1
  cases r1
  refine wpAny_truthy_bool ?_
  cases c with
  | true => exact hb pins s1 σ H1 Q I1 q1
  | false => exact ⟨.bl false, H1, I1, rfl, q1⟩
theorem pe_not (ha : PE X a ta) : PE X (.UnaryOp .Not a pos) (tNotV ta) := by
  intro pins s σ H Q I h
  refine UnaryOp_ (thn (ha pins s σ H _ I h) fun v s1 ⟨x, H1, I1, r1, q1⟩ => ?_)
  obtain ⟨c, rfl, q1⟩ := q1
  cases r1
  exact not_of (wpAny_truthy_bool ⟨.bl (!c), H1, I1, rfl, q1⟩)
def tIf (t : TT) (ta tb : TE) : TE := fun σ H Q => t σ H fun c H1 => if c = true then ta σ H1 Q else tb σ H1 Q
theorem pe_ifExp {c : Expr} (hc : PT X c tA) (ha : PE X a ta) (hb : PE X b tb) : PE X (.IfExp c a b pos) (tIf tA ta tb) := by
  intro pins s σ H Q I h
  refine wpAny_IfExp (thn (hc pins s σ H _ I h) fun d s1 ⟨H1, I1, q1⟩ => ?_)
  cases d with
  | true => exact ha pins s1 σ H1 Q I1 q1
  | false => exact hb pins s1 σ H1 Q I1 q1
end
end L2
namespace L2
open PySem PySem.Spec PyProof.Rows
def SqL (K : PySem.W.Frag) (H : Hp) (a : Addr) (xs : List V) : Prop :=
  Rd H a (.lst xs) ∨
    ∃ (o : Obj) (its : Array Value) (n : Nat), K.lookup a = some o ∧ o.cls = .type "list" ∧ o.dict = none ∧ o.data = .seq its n ∧ its.size ≤ sizeLine ∧ Vals xs its.toList
def SqT (K : PySem.W.Frag) (H : Hp) (a : Addr) (xs : List V) : Prop :=
  Rd H a (.tup xs) ∨
    ∃ (o : Obj) (its : Array Value) (n : Nat), K.lookup a = some o ∧ o.cls = .type "tuple" ∧ o.data = .seq its n ∧ its.size ≤ sizeLine ∧ Vals xs its.toList
def absV : Value → Option V
  | .none => some .non
  | .bool b => some (.bl b)
  | .int i _ => some (.int i)
  | .str x _ => some (.str x)
  | .bytes b _ => some (.byt b)
  | .float b _ => some (.flt b)
  | .ref a => some (.ref a)
  | .type n => some (.ty n)
  | _ => none
theorem RelV.abs {x : V} {u : Value} (r : RelV x u) : absV u = some x := by
  cases x with
  | non => cases r; rfl
  | bl _ => cases r; rfl
  | int _ => obtain ⟨t, rfl⟩ := r; rfl
  | str _ => obtain ⟨t, rfl⟩ := r; rfl
  | byt _ => obtain ⟨t, rfl⟩ := r; rfl
  | flt _ => obtain ⟨t, rfl⟩ := r; rfl
  | ref _ => cases r; rfl
  | ty _ => cases r; rfl
theorem RelV.inj {x y : V} {u : Value} (r : RelV x u) (q : RelV y u) : x = y := Option.some.inj (r.abs.symm.trans q.abs)
theorem Vals.inj : ∀ {xs ys : List V} {us : List Value}, Vals xs us → Vals ys us → xs = ys
  | _, _, _, .nil, .nil => rfl
  | _, _, _, .cons r t, .cons r' t' => by rw [r.inj r', Vals.inj t t']
section
variable {X : Cx} {pins : List (Addr × Obj)} {σ : St} {H : Hp} {s : Shared} {a : Addr} {xs ys : List V}
theorem SqL.of {K : PySem.W.Frag} (h : H a = some (.lst xs)) : SqL K H a xs := .inl (.inl h)
theorem SqT.of {K : PySem.W.Frag} (h : H a = some (.tup xs)) : SqT K H a xs := .inl (.inl h)
theorem Inv.list (I : Inv X pins σ H s) (h : SqL X.K H a xs) : ∃ its : List Value, Vals xs its ∧ PlainL s.heap a its.toArray ∧ xs.length ≤ sizeLine := by
  rcases h with h | ⟨o, its, n, hk, hc, hd, hs, hz, r⟩
  · obtain ⟨z, its, n, r, e⟩ := h.ok I.hok
    exact ⟨its, r, ⟨_, n, e, rfl, rfl, rfl⟩, z⟩
  · refine ⟨its.toList, r, ⟨o, n, I.kIn a o hk, hc, hd, by simpa using hs⟩, ?_⟩
    have e := r.length
    simp only [Array.length_toList] at e
    omega
theorem Inv.tuple (I : Inv X pins σ H s) (h : SqT X.K H a xs) : ∃ its : List Value, Vals xs its ∧ IsTup s.heap a its.toArray ∧ xs.length ≤ sizeLine := by
  rcases h with h | ⟨o, its, n, hk, hc, hs, hz, r⟩
  · obtain ⟨z, its, r, p⟩ := h.ok I.hok
    exact ⟨its, r, p, z⟩
  · refine ⟨its.toList, r, ⟨o, I.kIn a o hk, hc, n, by simpa using hs⟩, ?_⟩
    have e := r.length
    simp only [Array.length_toList] at e
    omega
theorem Inv.list_inj (I : Inv X pins σ H s) (h : SqL X.K H a xs) (h' : SqL X.K H a ys) : xs = ys := by
  obtain ⟨its, r, ⟨o, n, e, _, _, d⟩, _⟩ := I.list h
  obtain ⟨its', r', ⟨o', n', e', _, _, d'⟩, _⟩ := I.list h'
  rw [e] at e'; cases e'
  rw [d] at d'
  injection d' with d1 _
  have : its = its' := by simpa using congrArg Array.toList d1
  subst this
  exact r.inj r'
theorem Inv.tuple_inj (I : Inv X pins σ H s) (h : SqT X.K H a xs) (h' : SqT X.K H a ys) : xs = ys := by
  obtain ⟨its, r, ⟨o, e, _, n, d⟩, _⟩ := I.tuple h
  obtain ⟨its', r', ⟨o', e', _, n', d'⟩, _⟩ := I.tuple h'
  rw [e] at e'; cases e'
  rw [d] at d'
  injection d' with d1 _
  have : its = its' := by simpa using congrArg Array.toList d1
  subst this
  exact r.inj r'
end
abbrev Cx.wish (X : Cx) (E : Value → Shared → Prop) : Cx := { X with xe := E }
abbrev Cx.nox (X : Cx) : Cx := X.wish fun _ _ => False
theorem Cx.Ok.wish {X : Cx} (ok : X.Ok) (E : Value → Shared → Prop) : (X.wish E).Ok :=
  ⟨ok.mod, ok.kind, ok.glob, ok.blt, ok.above, ok.inj, ok.has, ok.cab, ok.hd, ok.frames, ok.stk, ok.exf, ok.bs, ok.bsz, ok.noex, ok.exfs, ok.funs, ok.frf⟩
theorem Cx.Ok.unwish {X : Cx} {E : Value → Shared → Prop} (ok : (X.wish E).Ok) : X.Ok :=
  ⟨ok.mod, ok.kind, ok.glob, ok.blt, ok.above, ok.inj, ok.has, ok.cab, ok.hd, ok.frames, ok.stk, ok.exf, ok.bs, ok.bsz, ok.noex, ok.exfs, ok.funs, ok.frf⟩
section
variable {X : Cx} {pins : List (Addr × Obj)} {σ : St} {H : Hp} {s : Shared} {E : Value → Shared → Prop}
theorem Inv.wish (I : Inv X pins σ H s) (E : Value → Shared → Prop) : Inv (X.wish E) pins σ H s := ⟨I.ok.wish E, I.os, I.bare, I.base, I.loc, I.cell, I.free, I.freeC, I.pin, I.hok, I.len⟩
theorem Inv.unwish (I : Inv (X.wish E) pins σ H s) : Inv X pins σ H s := ⟨I.ok.unwish, I.os, I.bare, I.base, I.loc, I.cell, I.free, I.freeC, I.pin, I.hok, I.len⟩
theorem SP.unwish {D : Ends} {f : Flow} {s' : Shared} (h : SP (X.wish E) pins D f s') : SP X pins D f s' := by
  cases f with
  | next => obtain ⟨σ', H', I, q⟩ := h; exact ⟨σ', H', I.unwish, q⟩
  | brk => obtain ⟨σ', H', I, q⟩ := h; exact ⟨σ', H', I.unwish, q⟩
  | cont => obtain ⟨σ', H', I, q⟩ := h; exact ⟨σ', H', I.unwish, q⟩
  | ret u => obtain ⟨v, σ', H', I, r, q⟩ := h; exact ⟨v, σ', H', I.unwish, r, q⟩
theorem PE.nox {e : Expr} {t : TE} (h : PE X.nox e t) : PE X e t := fun pins s σ H Q I hw =>
  wpAny_mono (h pins s σ H Q (I.wish _) hw) (fun _ _ ⟨v, H', I', r, q⟩ => ⟨v, H', I'.unwish, r, q⟩) fun _ _ z => False.elim z
theorem PT.nox {e : Expr} {t : TT} (h : PT X.nox e t) : PT X e t := fun pins s σ H Q I hw =>
  wpAny_mono (h pins s σ H Q (I.wish _) hw) (fun _ _ ⟨H', I', q⟩ => ⟨H', I'.unwish, q⟩) fun _ _ z => False.elim z
theorem PSs.nox {st : List Stmt} {t : TS} (h : PSs X.nox st t) : PSs X st t := fun pins s σ H D I hw =>
  wpAny_mono (h pins s σ H D (I.wish _) hw) (fun _ _ q => q.unwish) fun _ _ z => False.elim z
end
section
variable {X : Cx} {st : Stmt} {rest : List Stmt} {t u : TS} {e : Expr} {te : TE} {pos : Pos}
def tNext : TS := fun D σ H => D.nx σ H
def tSeq (t u : TS) : TS := fun D σ H => t { D with nx := u D } σ H
theorem pss_nil : PSs X [] tNext := fun _ _ σ H _ I h => wpAny_execs_nil ⟨σ, H, I, h⟩
theorem pss_cons (h1 : PS X st t) (h2 : PSs X rest u) : PSs X (st :: rest) (tSeq t u) := by
  intro pins s σ H D I h
  refine wpAny_execs_cons (thn (h1 pins s σ H { D with nx := u D } I h) fun f s1 q => ?_)
  cases f with
  | next =>
    obtain ⟨σ', H', I', q⟩ := q
    exact h2 pins s1 σ' H' D I' q
  | ret v => exact q
  | brk => exact q
  | cont => exact q
theorem pss_one (h1 : PS X st t) : PSs X [st] t := by
  intro pins s σ H D I h
  refine wpAny_execs_cons (thn (h1 pins s σ H D I h) fun f s1 q => ?_)
  cases f with
  | next => exact wpAny_execs_nil q
  | ret v => exact q
  | brk => exact q
  | cont => exact q
theorem ps_pass : PS X (.Pass pos) tNext := fun _ _ σ H _ I h => wpAny_Pass ⟨σ, H, I, h⟩
theorem Inv.quiet {pins : List (Addr × Obj)} {σ : St} {H : Hp} {s : Shared} (I : Inv X pins σ H s) : interactive X.env = false := by simp [interactive, I.ok.kind]
def tDrop (te : TE) : TS := fun D σ H => te σ H fun _ H1 => D.nx σ H1
theorem ps_expr (he : PE X e te) (hs : swapsWith e none pos.line X.env = pure false := by rfl) : PS X (.Expr e pos) (tDrop te) := by
  intro pins s σ H D I h
  exact wpAny_Expr_any (thn (he pins s σ H _ I h) fun v s1 ⟨x, H1, I1, r1, q1⟩ => ⟨σ, H1, I1, q1⟩) I.quiet hs
def tRet (te : TE) : TS := fun D σ H => te σ H D.rt
theorem ps_ret (he : PE X e te) : PS X (.Return (some e) pos) (tRet te) := by
  intro pins s σ H D I h
  exact wpAny_Return_some (thn (he pins s σ H _ I h) fun v s1 ⟨x, H1, I1, r1, q1⟩ => ⟨x, σ, H1, I1, r1, q1⟩)
def tRetN : TS := fun D _ H => D.rt .non H
def tIfS (c : TT) (t u : TS) : TS := fun D σ H => c σ H fun b H1 => if b = true then t D σ H1 else u D σ H1
theorem ps_if {c : Expr} {a b : List Stmt} {tc : TT} (hc : PT X c tc) (ha : PSs X a t) (hb : PSs X b u) : PS X (.If c a b pos) (tIfS tc t u) := by
  intro pins s σ H D I h
  refine wpAny_If (thn (hc pins s σ H _ I h) fun d s1 ⟨H1, I1, q1⟩ => ?_)
  cases d with
  | true => exact ha pins s1 σ H1 D I1 q1
  | false => exact hb pins s1 σ H1 D I1 q1
def tNever : TS := fun _ _ _ => False
theorem ps_never : PS X st tNever := fun _ _ _ _ _ _ h => h.elim
end
abbrev TG := V → St → Hp → (St → Hp → Prop) → Prop
abbrev TGs := List V → St → Hp → (St → Hp → Prop) → Prop
def PG (X : Cx) (target : Expr) (t : TG) : Prop :=
  ∀ (pins : List (Addr × Obj)) (s : Shared) (σ : St) (H : Hp) (v : V) (u : Value) (Q : St → Hp → Prop), Inv X pins σ H s → RelV v u → t v σ H Q →
    wpAny (model X.prog X.w) X.A (assign target X.env u) (fun _ s' => ∃ σ' H', Inv X pins σ' H' s' ∧ Q σ' H') X.xe s
def PGs (X : Cx) (ts : List Expr) (t : TGs) : Prop :=
  ∀ (pins : List (Addr × Obj)) (s : Shared) (σ : St) (H : Hp) (vs : List V) (us : List Value) (Q : St → Hp → Prop), Inv X pins σ H s → Vals vs us → t vs σ H Q →
    wpAny (model X.prog X.w) X.A (assignInOrder ((assignEach ts X.env).map (·.2)) us) (fun _ s' => ∃ σ' H', Inv X pins σ' H' s' ∧ Q σ' H') X.xe s
abbrev TSet := V → V → V → Hp → (Hp → Prop) → Prop
def PSet (X : Cx) (t : TSet) : Prop :=
  ∀ (pins : List (Addr × Obj)) (s : Shared) (σ : St) (H : Hp) (o i v : V) (ov iv u : Value) (Q : Hp → Prop), Inv X pins σ H s → RelV o ov → RelV i iv → RelV v u → t o i v H Q →
    wpAny (model X.prog X.w) X.A (setItem ov iv u) (fun _ s' => ∃ H', Inv X pins σ H' s' ∧ Q H') X.xe s
abbrev TIp := V → V → Hp → VK → Prop
section
variable {X : Cx} {pos : Pos}
def gName (i : Nat) : TG := fun v σ H Q => Q (σ.set i (some v)) H
theorem pg_name {i : Nat} {x : Str} (hN : X.N.Nodup) (hi : X.N[i]? = some x) (hx : Loc X.env.scope x) (hf : X.fn x = true ∨ X.env.scope.names.lookup x = some .local := by first | exact .inl rfl | exact .inr rfl | assumption) : PG X (.Name x pos) (gName i) := by
  intro pins s σ H v u Q I r h
  exact wpAny_assign_Name (store_ok I hN hi hx r (fun s' I' => ⟨_, H, I', h⟩) hf)
def gNil : TGs := fun vs σ H Q => vs = [] ∧ Q σ H
def gCons (t : TG) (u : TGs) : TGs := fun vs σ H Q => ∃ v r, vs = v :: r ∧ t v σ H fun σ' H' => u r σ' H' Q
theorem pgs_nil : PGs X [] gNil := by
  intro pins s σ H vs us Q I r h
  obtain ⟨e, h⟩ := h
  subst e
  cases r
  exact assignInOrder_nil ⟨σ, H, I, h⟩
theorem pgs_cons {e : Expr} {es : List Expr} {t : TG} {u : TGs} (h1 : PG X e t) (h2 : PGs X es u)
    (hs : (assignEach (e :: es) X.env).map (·.2) = assign e X.env :: (assignEach es X.env).map (·.2) := by rfl) : PGs X (e :: es) (gCons t u) := by
  intro pins s σ H vs us Q I r h
  obtain ⟨v, vr, e1, h⟩ := h
  subst e1
  cases r with
  | cons r rr =>
    rw [hs]
    refine assignInOrder_cons (thn (h1 pins s σ H _ _ _ I r h) fun _ s1 ⟨σ1, H1, I1, q1⟩ => ?_)
    exact h2 pins s1 σ1 H1 _ _ Q I1 rr q1
def gTup (K : PySem.W.Frag) (n : Nat) (t : TGs) : TG := fun v σ H Q => ∃ a xs, v = .ref a ∧ SqT K H a xs ∧ xs.length = n ∧ t xs σ H Q
theorem pg_tup {es : List Expr} {k : Nat} {t : TGs} {n : Nat} (hc : X.calm = true) (h : PGs X es t)
    (hn : (assignEach es X.env).length = n := by rfl) (hst : (assignEach es X.env).findIdx? (·.1) = none := by rfl) : PG X (.Tuple es k pos) (gTup X.K n t) := by
  intro pins s σ H v u Q I r hw
  obtain ⟨a, xs, e1, hq, hl, hw⟩ := hw
  subst e1
  cases r
  obtain ⟨its, rv, ht, hz⟩ := I.tuple hq
  refine assign_Tuple_tuple (I.ok.hd hc) ht (by simp [hn, ← hl, rv.length]) hst fun h' hx => ?_
  have I1 : Inv X pins σ H { s with heap := h' } := I.kept (t' := s.toks) fun b o e => hx b o (Nat.ne_of_lt (Heap.lt_size e)) e
  exact h pins _ σ H xs _ Q I1 (by simpa using rv) hw
def gSub (to ti : TE) (t : TSet) : TG := fun v σ H Q => to σ H fun o H1 => ti σ H1 fun i H2 => t o i v H2 fun H3 => Q σ H3
theorem pg_sub {o i : Expr} {to ti : TE} {t : TSet} (ho : PE X o to) (hi : PE X i ti) (hs : PSet X t)
    (ha : ∀ v, assign (.Subscript o i pos) X.env v = (do
      let ov ← holding [v] (eval o X.env)
      let iv ← holding [v, ov] (eval i X.env)
      standAt pos
      holding [v, ov, iv] (setItem ov iv v)
      release [v, ov, iv] []) := by intro _; rfl) : PG X (.Subscript o i pos) (gSub to ti t) := by
  intro pins s σ H v u Q I r h
  rw [ha]
  refine wpAny_bind (wpAny_holding (thn (ho pins s σ H _ I h) fun ov s1 ⟨x, H1, I1, r1, q1⟩ => ?_))
  refine wpAny_bind (wpAny_holding (thn (hi pins s1 σ H1 _ I1 q1) fun iv s2 ⟨y, H2, I2, r2, q2⟩ => ?_))
  refine wpAny_bind (wpAny_standAt (wpAny_bind (wpAny_holding (thn (hs pins s2 σ H2 x y v ov iv u _ I2 r1 r2 r q2) fun _ s3 ⟨H3, I3, q3⟩ => ?_))))
  exact wpAny_release ⟨σ, H3, I3, q3⟩
def tAsg (te : TE) (g : TG) : TS := fun D σ H => te σ H fun x H1 => g x σ H1 D.nx
theorem ps_asg {tg e : Expr} {te : TE} {g : TG} (he : PE X e te) (hg : PG X tg g) (hs : swapsWithSole [tg] e pos.line X.env = pure false := by rfl) (hw : swappedStores [tg] e X.env = pure none := by rfl)
    (h1 : (assignEach [tg] X.env).map (·.2) = [assign tg X.env] := by rfl) : PS X (.Assign [tg] e pos) (tAsg te g) := by
  intro pins s σ H D I h
  refine wpAny_Assign_stores (thn (he pins s σ H _ I h) fun v s1 ⟨x, H1, I1, r1, q1⟩ => ?_) hs hw
  rw [h1]
  exact thn (hg pins s1 σ H1 x v _ I1 r1 q1) fun _ s2 q => q
theorem ps_set {i : Nat} {x : Str} {e : Expr} {te : TE} {pos' : Pos} (hN : X.N.Nodup) (hi : X.N[i]? = some x) (hx : Loc X.env.scope x) (he : PE X e te) (hs : swapsWith e (some (.Name x pos')) pos.line X.env = pure false := by rfl) (hf : X.fn x = true ∨ X.env.scope.names.lookup x = some .local := by first | exact .inl rfl | exact .inr rfl | assumption) :
    PS X (.Assign [.Name x pos'] e pos) (tAsg te (gName i)) := by
  intro pins s σ H D I h
  refine wpAny_Assign_Name (thn (he pins s σ H _ I h) fun v s1 ⟨y, H1, I1, r1, q1⟩ => ?_) hs
  exact store_ok I1 hN hi hx r1 (fun s2 I2 => ⟨_, H1, I2, q1⟩) hf
def tPar (i j : Nat) (ta : TA) : TS := fun D σ H => ta σ H fun vs H1 => ∃ v w, vs = [v, w] ∧ D.nx ((σ.set i (some v)).set j (some w)) H1
theorem ps_par {i j : Nat} {x y : Str} {a b : Expr} {ta : TA} {px py pt : Pos} {kt k2 pt2} (hc : X.calm = true) (hN : X.N.Nodup) (hi : X.N[i]? = some x) (hj : X.N[j]? = some y) (hij : i ≠ j)
    (hx : X.env.scope.names.lookup x = some .local) (hy : X.env.scope.names.lookup y = some .local) (ha : PA X [a, b] ta)
    (hw : swappedStores [.Tuple [.Name x px, .Name y py] kt pt] (.Tuple [a, b] k2 pt2) X.env = pure (some [x, y]))
    (hs : swapsWithSole [.Tuple [.Name x px, .Name y py] kt pt] (.Tuple [a, b] k2 pt2) pos.line X.env = pure false := by rfl) :
    PS X (.Assign [.Tuple [.Name x px, .Name y py] kt pt] (.Tuple [a, b] k2 pt2) pos) (tPar i j ta) := by
  intro pins s σ H D I h
  rw [exec_Assign_arm]
  refine wpAny_bind (wpAny_standAt ?_)
  rw [hs]
  refine wpAny_bind (wpAny_pure ?_)
  rw [if_neg (by decide)]
  refine wpAny_bind (Tuple_ (thn (ha _ pins s σ H _ I h) fun us s1 ⟨vs, H1, I1, r1, q1⟩ => ?_))
  obtain ⟨v, w, e1, q1⟩ := q1
  subst e1
  obtain ⟨u1, u2, rfl, rv, rw'⟩ : ∃ u1 u2, us = [u1, u2] ∧ RelV v u1 ∧ RelV w u2 := by
    cases r1 with
    | cons p q =>
      cases q with
      | cons p' q' =>
        cases q'
        exact ⟨_, _, rfl, p, p'⟩
  refine wpAny_newObj_type ?_ (by show 2 ≤ sizeLine; decide)
  have I2 : Inv X pins σ H1 { s1 with heap := s1.heap.push { cls := .type "tuple", data := .seq [u1, u2].toArray } } := I1.kept (t' := s1.toks) fun b o e => Heap.get?_push_of_some _ e
  rw [hw]
  refine wpAny_bind (wpAny_pure ?_)
  show wpAny (model X.prog X.w) X.A (do rule "assign.swapped-stores"; let items ← unpackItems (.ref s1.heap.objs.size) 2 none; assignInOrder [fun v => bindName X.env y v, fun v => bindName X.env x v] items.reverse; pure Flow.next) _ _ _
  refine wpAny_bind (wpAny_rule (wpAny_bind (unpackItems_tuple (items := #[u1, u2]) (I.ok.hd hc) (IsTup.new s1.heap _) fun h' hx' => ?_)))
  have I3 := I2.kept (h' := h') (t' := s1.toks) fun b o e => hx' b o (Nat.ne_of_lt (Heap.lt_size e)) e
  show wpAny _ _ (assignInOrder [fun v => bindName X.env y v, fun v => bindName X.env x v] [u2, u1] >>= fun _ => pure Flow.next) _ _ _
  refine wpAny_bind (assignInOrder_cons (wpAny_bindName (store_ok I3 hN hj (.inl hy) rw' (fun s2 I4 => ?_) (.inr hy))))
  refine assignInOrder_cons (wpAny_bindName (store_ok I4 hN hi (.inl hx) rv (fun s3 I5 => assignInOrder_nil (wpAny_pure ?_)) (.inr hx)))
  rw [List.set_comm _ _ (Ne.symm hij)] at I5
  exact ⟨_, H1, I5, q1⟩
def tAug (i : Nat) (te : TE) (ti : TIp) : TS := fun D σ H => ∃ x, σ[i]? = some (some x) ∧ te σ H fun y H1 => ti x y H1 fun z H2 => D.nx (σ.set i (some z)) H2
def ipI (f : Int → Int → Int) : TIp := fun x y H Q => ∃ i j, x = .int i ∧ y = .int j ∧ Q (.int (f i j)) H
end
section
variable {X : Cx} {pos : Pos}
def tWhile (c : TT) (tb : TS) : TS := fun D σ H => ∃ W : Nat → St → Hp → Prop, (∃ m, W m σ H) ∧ ∀ m σ H, W m σ H →
  c σ H fun b H1 => if b = true then ∃ N : St → Hp → Prop, (∀ σ' H', N σ' H' → ∃ m', m' < m ∧ W m' σ' H') ∧ tb { D with nx := N, ct := N, bk := D.nx } σ H1 else D.nx σ H1
theorem ps_while {c : Expr} {body : List Stmt} {tc : TT} {tb : TS} (hp : PassesOwn (model X.prog X.w) X.A X.env X.xe) (hc : PT X c tc) (hb : PSs X body tb) : PS X (.While c body [] pos) (tWhile tc tb) := by
  intro pins s σ H D I h
  obtain ⟨W, ⟨m0, w0⟩, turn⟩ := h
  refine wpAny_While (codeAny_whileLoop (fun n s' => ∃ σ' H', Inv X pins σ' H' s' ∧ W n σ' H') ?_ m0 ⟨σ, H, I, w0⟩)
  rintro n s1 ⟨σ1, H1, I1, w1⟩
  refine wpAny_passesOwn hp (thn (hc pins s1 σ1 H1 _ I1 (turn n σ1 H1 w1)) fun b s2 ⟨H2, I2, q2⟩ => ?_)
  cases b with
  | true =>
    obtain ⟨N, hN, q2⟩ := q2
    rw [if_pos rfl]
    refine wpAny_passesOwn hp (thn (hb pins s2 σ1 H2 _ I2 q2) fun f s3 q3 => ?_)
    cases f with
    | next =>
      obtain ⟨σ3, H3, I3, n3⟩ := q3
      obtain ⟨m', hm, w3⟩ := hN σ3 H3 n3
      exact ⟨m', hm, σ3, H3, I3, w3⟩
    | cont =>
      obtain ⟨σ3, H3, I3, n3⟩ := q3
      obtain ⟨m', hm, w3⟩ := hN σ3 H3 n3
      exact ⟨m', hm, σ3, H3, I3, w3⟩
    | brk => exact q3
    | ret v => exact q3
  | false =>
    rw [if_neg Bool.false_ne_true]
    exact wpAny_execs_nil ⟨σ1, H2, I2, q2⟩
end
structure It where
  go : Nat → Hp → Prop
  yld : Nat → Hp → V → Hp → Prop
  stop : Nat → Hp → Prop
def FpOk (X : Cx) (pins : List (Addr × Obj)) (H : Hp) (b : Addr) : Prop :=
  H b = none ∧ b ≠ X.env.locals ∧ b ∉ X.fs ∧ (b ∈ X.ex ∨ X.s_0.heap.objs.size ≤ b) ∧ (∀ x c, X.env.cells.lookup x = some c → c ≠ b) ∧ ∀ p ∈ X.pn ++ pins, p.1 ≠ b
theorem Inv.fpOk {X : Cx} {pins : List (Addr × Obj)} {σ : St} {H H' : Hp} {s : Shared} {b : Addr} (I : Inv X pins σ H s) (hb : s.heap.objs.size ≤ b) (hn : H' b = none) : FpOk X pins H' b := by
  refine ⟨hn, Nat.ne_of_gt (Nat.lt_of_lt_of_le I.lt hb), I.nofs hb, .inr (Nat.le_trans I.sz hb), fun x c e z => ?_, fun p hp z => ?_⟩
  · obtain ⟨v, q⟩ := I.cell x c e
    exact absurd (Nat.lt_of_lt_of_le q.lt (by rw [z]; exact hb)) (Nat.lt_irrefl _)
  · exact absurd (Nat.lt_of_lt_of_le (Heap.lt_size (I.pin p hp).1) (by rw [z]; exact hb)) (Nat.lt_irrefl _)
structure Turn (P : Program) (w : World) (K : PySem.W.Frag) (tg : Expr) (J : It) (fp : List Addr) (it : Addr) (tn : Nat → Heap → Prop) : Prop where
  mem : it ∈ fp
  obj : ∀ i h, tn i h → ∀ b ∈ fp, ∃ o, h.get? b = some o ∧ ∀ v, o.data ≠ .cell v
  keep : ∀ i h h', tn i h → (∀ b ∈ fp, ∀ o, h.get? b = some o → h'.get? b = some o) → tn i h'
  item : ∀ (X : Cx), X.prog = P → X.w = w → X.K = K → X.calm = true → ∀ (i : Nat) (pins : List (Addr × Obj)) (s : Shared) (σ : St) (H : Hp) (E : Value → Shared → Prop), Inv X pins σ H s → (∀ b ∈ fp, FpOk X pins H b) → tn i s.heap → J.go i H →
    wpAny (model P w) X.A (pyNext (.ref it)) (fun r s1 => ∃ u, r = some u ∧
      wpAny (model P w) X.A (letOwnedTupleGo tg (.ref it) u) (fun _ s2 => ∃ x H', Inv X pins σ H' s2 ∧ RelV x u ∧ J.yld i H x H' ∧ tn (i + 1) s2.heap ∧ ∀ b ∈ fp, H' b = none) E s1) E s
  done : ∀ (X : Cx), X.prog = P → X.w = w → X.K = K → X.calm = true → ∀ (i : Nat) (pins : List (Addr × Obj)) (s : Shared) (σ : St) (H : Hp) (E : Value → Shared → Prop), Inv X pins σ H s → (∀ b ∈ fp, FpOk X pins H b) → tn i s.heap → J.stop i H →
    wpAny (model P w) X.A (pyNext (.ref it)) (fun r s1 => r = none ∧ Inv X pins σ H s1) E s
  self : ∀ (A : Around) (i : Nat) (s : Shared) (Q : Value → Shared → Prop) (E : Value → Shared → Prop), tn i s.heap → Q (.ref it) s → wpAny (model P w) A (pyIter (.ref it)) Q E s
abbrev TI := St → Hp → (It → Hp → Prop) → Prop
def PIE (X : Cx) (pins : List (Addr × Obj)) (σ : St) (tg : Expr) (R : It → Hp → Prop) (itv : Value) (s2 : Shared) : Prop :=
  ∃ (it : Addr) (fp : List Addr) (tn : Nat → Heap → Prop) (J : It) (H' : Hp), itv = .ref it ∧ Inv X pins σ H' s2 ∧ Turn X.prog X.w X.K tg J fp it tn ∧ tn 0 s2.heap ∧ (∀ b ∈ fp, FpOk X pins H' b) ∧ R J H'
def PI (X : Cx) (tg iter : Expr) (wi : TI) : Prop :=
  ∀ (pins : List (Addr × Obj)) (s : Shared) (σ : St) (H : Hp) (R : It → Hp → Prop), Inv X pins σ H s → wi σ H R →
    wpAny (model X.prog X.w) X.A (eval iter X.env) (fun v s1 => wpAny (model X.prog X.w) X.A (pyIter v) (PIE X pins σ tg R) X.xe s1) X.xe s
theorem go_of {M : Model} {A : Around} {E : Value → Shared → Prop} {s : Shared} {tg : Expr} {it : Addr} {u : Value} {o : Obj} {n : String} {vs : Array Value} {Q : Unit → Shared → Prop} (ho : s.heap.get? it = some o) (hc : o.cls = .type n) (hd : o.data = .fields vs)
    (hn : ["enumerate", "zip", "dict_itemiterator", "dict_reverseitemiterator", "odict_iterator", "itertools.zip_longest", "itertools.pairwise"].contains n = false) (hQ : Q () s) : wpAny M A (letOwnedTupleGo tg (.ref it) u) Q E s := by
  unfold letOwnedTupleGo
  cases tg <;> first
    | exact wpAny_pure hQ
    | (cases u <;> first
        | exact wpAny_pure hQ
        | (refine wpAny_bind (wpAny_load ho ?_)
           rw [hc, hd]
           show wpAny M A (if (["enumerate", "zip", "dict_itemiterator", "dict_reverseitemiterator", "odict_iterator", "itertools.zip_longest", "itertools.pairwise"].contains n && vs[0]? == some (rawInt _)) = true then _ else _) Q E s
           rw [if_neg (by intro h; rw [hn, Bool.false_and] at h; cases h)]
           exact wpAny_pure hQ))
def Itl (K : PySem.W.Frag) (a : Addr) : It :=
  ⟨fun i H => ∃ xs x, SqL K H a xs ∧ xs[i]? = some x, fun i H x H' => H' = H ∧ ∀ xs, SqL K H a xs → xs[i]? = some x, fun i H => ∃ xs, SqL K H a xs ∧ xs.length ≤ i⟩
def Itt (K : PySem.W.Frag) (a : Addr) : It :=
  ⟨fun i H => ∃ xs x, SqT K H a xs ∧ xs[i]? = some x, fun i H x H' => H' = H ∧ ∀ xs, SqT K H a xs → xs[i]? = some x, fun i H => ∃ xs, SqT K H a xs ∧ xs.length ≤ i⟩
def Itr (lo : Int) (n : Nat) : It := ⟨fun i _ => i < n, fun i H x H' => H' = H ∧ x = .int (lo + i), fun i _ => n ≤ i⟩
theorem turn_list {P : Program} {w : World} {K : PySem.W.Frag} {tg : Expr} (a it : Addr) : Turn P w K tg (Itl K a) [it] it (fun i h => h.IsListIter it a i) where
  mem := by simp
  obj := fun i h st b hb => by
    have e : b = it := by simpa using hb
    subst e
    obtain ⟨o, e, c, d⟩ := st
    exact ⟨o, e, fun v z => by rw [d] at z; cases z⟩
  keep := fun i h h' st k => st.at fun o e => k it (by simp) o e
  item := by
    intro X hP hw hK hc i pins s σ H E I hf st hg
    subst hP hw hK
    obtain ⟨xs, x, hq, hx⟩ := hg
    obtain ⟨its, rv, p, hz⟩ := I.list hq
    obtain ⟨u, hu, ru⟩ := rv.get hx
    obtain ⟨f0, f1, f2, f3, f4, f5⟩ := hf it (by simp)
    refine wpAny_pyNext_list_item st p.isList (x := u) (by simpa using hu) fun h' st' sb => ?_
    have I1 : Inv X pins σ H { s with heap := h' } := I.turned (t' := s.toks) (fun b o hb e => (sb.2 b hb).trans e) f0 f1 f3 f4 f5
    obtain ⟨o, e, c, d⟩ := id st'
    exact ⟨u, rfl, go_of (s := { s with heap := h' }) e c d (by decide) ⟨x, H, I1, ru, ⟨rfl, fun ys hy => by rw [I.list_inj hy hq]; exact hx⟩, st', fun b hb => (hf b hb).1⟩⟩
  done := by
    intro X hP hw hK hc i pins s σ H E I hf st hg
    subst hP hw hK
    obtain ⟨xs, hq, hx⟩ := hg
    obtain ⟨its, rv, p, hz⟩ := I.list hq
    obtain ⟨f0, f1, f2, f3, f4, f5⟩ := hf it (by simp)
    have hl := rv.length
    exact wpAny_pyNext_list_end (I.ok.hd hc) st p.isList (by simp; omega) fun h' eb => ⟨rfl, I.turned (t' := s.toks) (fun b o hb e => eb b o hb e) f0 f1 f3 f4 f5⟩
  self := fun _ _ _ _ _ st h => wpAny_pyIter_listiter st h
theorem turn_tuple {P : Program} {w : World} {K : PySem.W.Frag} {tg : Expr} (a it : Addr) : Turn P w K tg (Itt K a) [it] it (fun i h => h.IsTupleIter it a i) where
  mem := by simp
  obj := fun i h st b hb => by
    have e : b = it := by simpa using hb
    subst e
    obtain ⟨o, e, c, d⟩ := st
    exact ⟨o, e, fun v z => by rw [d] at z; cases z⟩
  keep := fun i h h' st k => st.at fun o e => k it (by simp) o e
  item := by
    intro X hP hw hK hc i pins s σ H E I hf st hg
    subst hP hw hK
    obtain ⟨xs, x, hq, hx⟩ := hg
    obtain ⟨its, rv, p, hz⟩ := I.tuple hq
    obtain ⟨u, hu, ru⟩ := rv.get hx
    obtain ⟨f0, f1, f2, f3, f4, f5⟩ := hf it (by simp)
    refine wpAny_pyNext_tuple_item st (show s.heap.IsTuple a its.toArray from p) (x := u) (by simpa using hu) fun h' st' sb => ?_
    have I1 : Inv X pins σ H { s with heap := h' } := I.turned (t' := s.toks) (fun b o hb e => (sb.2 b hb).trans e) f0 f1 f3 f4 f5
    obtain ⟨o, e, c, d⟩ := id st'
    exact ⟨u, rfl, go_of (s := { s with heap := h' }) e c d (by decide) ⟨x, H, I1, ru, ⟨rfl, fun ys hy => by rw [I.tuple_inj hy hq]; exact hx⟩, st', fun b hb => (hf b hb).1⟩⟩
  done := by
    intro X hP hw hK hc i pins s σ H E I hf st hg
    subst hP hw hK
    obtain ⟨xs, hq, hx⟩ := hg
    obtain ⟨its, rv, p, hz⟩ := I.tuple hq
    obtain ⟨f0, f1, f2, f3, f4, f5⟩ := hf it (by simp)
    have hl := rv.length
    exact wpAny_pyNext_tuple_end (I.ok.hd hc) st (show s.heap.IsTuple a its.toArray from p) (by simp; omega) fun h' eb => ⟨rfl, I.turned (t' := s.toks) (fun b o hb e => eb b o hb e) f0 f1 f3 f4 f5⟩
  self := fun _ _ _ _ _ st h => wpAny_pyIter_tupleiter st h
theorem turn_range {P : Program} {w : World} {K : PySem.W.Frag} {tg : Expr} (it : Addr) (lo : Int) (n : Nat) : Turn P w K tg (Itr lo n) [it] it (fun i h => IsRangeIter h it (lo + (i : Nat) * 1) ((n : Int) - (i : Nat)) 1) where
  mem := by simp
  obj := fun i h st b hb => by
    have e : b = it := by simpa using hb
    subst e
    exact ⟨_, st, fun v z => by
      have z' : Data.fields _ = Data.cell v := z
      cases z'⟩
  keep := fun i h h' st k => k it (by simp) _ st
  item := by
    intro X hP hw hK hc i pins s σ H E I hf st hg
    subst hP hw hK
    obtain ⟨f0, f1, f2, f3, f4, f5⟩ := hf it (by simp)
    have W := Walks.range (prog := X.prog) (w := X.w) (I.ok.hd hc) it lo 1 n
    refine W.item i s _ _ hg st fun v h' tk hv st' kk => ?_
    obtain ⟨t, rfl⟩ := hv
    have I1 : Inv X pins σ H { s with heap := h', toks := tk } := I.turned (fun b o hb e => kk b o (by simpa using hb) e) f0 f1 f3 f4 f5
    refine ⟨_, rfl, go_of (s := { s with heap := h', toks := tk }) (n := "range_iterator") st' rfl rfl (by decide) ⟨.int (lo + i), H, I1, ⟨t, ?_⟩, ⟨rfl, rfl⟩, st', fun b hb => (hf b hb).1⟩⟩
    rw [Int.mul_one]
  done := by
    intro X hP hw hK hc i pins s σ H E I hf st hg
    subst hP hw hK
    obtain ⟨f0, f1, f2, f3, f4, f5⟩ := hf it (by simp)
    exact wpAny_pyNext_range_end (I.ok.hd hc) st (by have : n ≤ i := hg; omega) fun h' eb => ⟨rfl, I.turned (t' := s.toks) (fun b o hb e => eb b o hb e) f0 f1 f3 f4 f5⟩
  self := fun _ _ _ _ _ st h => wpAny_pyIter_rangeiter st h
end L2
namespace L2
open PySem PySem.Spec PyProof.Rows
section
variable {X : Cx} {tg : Expr}
def iList (K : PySem.W.Frag) (tl : TE) : TI := fun σ H R => tl σ H fun x H1 => ∃ a, x = .ref a ∧ (∃ xs, SqL K H1 a xs) ∧ R (Itl K a) H1
def iTup (K : PySem.W.Frag) (tl : TE) : TI := fun σ H R => tl σ H fun x H1 => ∃ a, x = .ref a ∧ (∃ xs, SqT K H1 a xs) ∧ R (Itt K a) H1
theorem pi_list {l : Expr} {tl : TE} (hl : PE X l tl) : PI X tg l (iList X.K tl) := by
  intro pins s σ H R I h
  refine thn (hl pins s σ H _ I h) fun v s1 ⟨x, H1, I1, r1, q1⟩ => ?_
  obtain ⟨a, e, ⟨xs, hq⟩, q⟩ := q1
  subst e
  cases r1
  obtain ⟨its, rv, p, hz⟩ := I1.list hq
  refine wpAny_pyIter_list p.isList ?_
  refine ⟨s1.heap.objs.size, [s1.heap.objs.size], _, _, H1, rfl, I1.kept (t' := s1.toks) fun b o e => Heap.get?_push_of_some _ e, turn_list a _, ⟨_, Heap.get?_push_size _ rfl, rfl, rfl⟩, fun b hb => ?_, q⟩
  have e : b = s1.heap.objs.size := by simpa using hb
  subst e
  exact I1.fpOk (Nat.le_refl _) (I1.hok.fresh (Nat.le_refl _))
theorem pi_tup {l : Expr} {tl : TE} (hl : PE X l tl) : PI X tg l (iTup X.K tl) := by
  intro pins s σ H R I h
  refine thn (hl pins s σ H _ I h) fun v s1 ⟨x, H1, I1, r1, q1⟩ => ?_
  obtain ⟨a, e, ⟨xs, hq⟩, q⟩ := q1
  subst e
  cases r1
  obtain ⟨its, rv, p, hz⟩ := I1.tuple hq
  refine wpAny_pyIter_tuple (show s1.heap.IsTuple a its.toArray from p) ?_
  refine ⟨s1.heap.objs.size, [s1.heap.objs.size], _, _, H1, rfl, I1.kept (t' := s1.toks) fun b o e => Heap.get?_push_of_some _ e, turn_tuple a _, ⟨_, Heap.get?_push_size _ rfl, rfl, rfl⟩, fun b hb => ?_, q⟩
  have e : b = s1.heap.objs.size := by simpa using hb
  subst e
  exact I1.fpOk (Nat.le_refl _) (I1.hok.fresh (Nat.le_refl _))
theorem range_it {pins : List (Addr × Obj)} {σ : St} {H : Hp} {s : Shared} {R : It → Hp → Prop} {E : Value → Shared → Prop} {lo hi : Int} {t u v : Tok} {tk : Nat} (I : Inv X pins σ H s) (h1 : -(2 ^ 62) ≤ lo) (h2 : lo < 2 ^ 62) (h3 : -(2 ^ 62) ≤ hi) (h4 : hi < 2 ^ 62)
    (q : R (Itr lo (hi - lo).toNat) H) : wpAny (model X.prog X.w) X.A (pyIter (.ref s.heap.objs.size)) (PIE X pins σ tg R) E { s with heap := s.heap.push { cls := .type "range", data := .fields #[.int lo t, .int hi u, .int 1 v] }, toks := tk } := by
  refine wpAny_pyIter_range (IsRange.new ..) (small_one h1 h2 h3 h4) ?_
  have I1 : Inv X pins σ H { s with heap := s.heap.push { cls := .type "range", data := .fields #[.int lo t, .int hi u, .int 1 v] }, toks := tk } := I.kept fun b o e => Heap.get?_push_of_some _ e
  refine ⟨(s.heap.push { cls := .type "range", data := .fields #[.int lo t, .int hi u, .int 1 v] }).objs.size, [(s.heap.push { cls := .type "range", data := .fields #[.int lo t, .int hi u, .int 1 v] }).objs.size], _, _, H, rfl,
    I1.kept (t' := tk) fun b o e => Heap.get?_push_of_some _ e, turn_range _ lo (hi - lo).toNat, ?_, fun b hb => ?_, q⟩
  · have e1 : lo + ((0 : Nat) : Int) * 1 = lo := by simp
    have e2 : (((hi - lo).toNat : Nat) : Int) - ((0 : Nat) : Int) = Builtin.Range.rangeSize lo hi 1 := by rw [rangeSize_one]; split <;> omega
    show IsRangeIter _ _ (lo + ((0 : Nat) : Int) * 1) ((((hi - lo).toNat : Nat) : Int) - ((0 : Nat) : Int)) 1
    rw [e1, e2]
    exact Heap.get?_push_size _ rfl
  · have e : b = (s.heap.push { cls := .type "range", data := .fields #[.int lo t, .int hi u, .int 1 v] }).objs.size := by simpa using hb
    subst e
    exact I1.fpOk (Nat.le_refl _) (I1.hok.fresh (Nat.le_refl _))
def iRng1 (ta : TA) : TI := fun σ H R => ta σ H fun vs H1 => ∃ j : Int, vs = [.int j] ∧ -(2 ^ 62) ≤ j ∧ j < 2 ^ 62 ∧ R (Itr 0 j.toNat) H1
def iRng2 (ta : TA) : TI := fun σ H R => ta σ H fun vs H1 => ∃ i j : Int, vs = [.int i, .int j] ∧ (-(2 ^ 62) ≤ i ∧ i < 2 ^ 62 ∧ -(2 ^ 62) ≤ j ∧ j < 2 ^ 62) ∧ R (Itr i (j - i).toNat) H1
theorem pi_range1 {a : Expr} {ta : TA} {p pos : Pos} (hg : Gl X "range") (hm : X.mg "range" = none) (ha : PA X [a] ta) (hs : starEach [a] X.env = [(false, eval a X.env)] := by rfl) : PI X tg (.Call (.Name "range" p) [a] [] pos) (iRng1 ta) := by
  intro pins s σ H R I h
  refine Call_ (ld_blt I hg hm boot_range (PyProof.Rows.callWith_type1 (thn (ha pos pins s σ H _ I h) fun us s1 ⟨vs, H1, I1, r1, q1⟩ => ?_) hs rfl))
  obtain ⟨j, e, q1, q2, q⟩ := q1
  subst e
  cases r1 with
  | cons r rr =>
    cases rr
    obtain ⟨t, rfl⟩ := r
    exact call_range_1 (range_it I1 (by omega) (by omega) q1 q2 (by simpa using q))
def tFor (wi : TI) (g : TG) (tb : TS) : TS := fun D σ H => wi σ H fun J H1 => ∃ W : Nat → Nat → St → Hp → Prop, (∃ m, W 0 m σ H1) ∧ ∀ i m σ H, W i m σ H →
  (J.stop i H ∧ D.nx σ H) ∨ (J.go i H ∧ ∃ N : St → Hp → Prop, (∀ σ' H', N σ' H' → ∃ m', m' < m ∧ W (i + 1) m' σ' H') ∧ ∀ x H', J.yld i H x H' → g x σ H' fun σ2 H2 => tb { D with nx := N, ct := N, bk := D.nx } σ2 H2)
def pinsAt (fp : List Addr) (h : Heap) : List (Addr × Obj) := fp.filterMap fun b => (h.get? b).map fun o => (b, o)
theorem mem_pinsAt {fp : List Addr} {h : Heap} {b : Addr} {o : Obj} (hb : b ∈ fp) (e : h.get? b = some o) : (b, o) ∈ pinsAt fp h := List.mem_filterMap.mpr ⟨b, hb, by rw [e]; rfl⟩
theorem of_pinsAt {fp : List Addr} {h : Heap} {p : Addr × Obj} (hp : p ∈ pinsAt fp h) : p.1 ∈ fp ∧ h.get? p.1 = some p.2 := by
  obtain ⟨b, hb, e⟩ := List.mem_filterMap.mp hp
  cases q : h.get? b with
  | none => rw [q] at e; cases e
  | some o =>
    rw [q] at e
    have e' : (b, o) = p := Option.some.inj e
    subst e'
    exact ⟨hb, q⟩
theorem Inv.pinned {pins : List (Addr × Obj)} {σ : St} {H : Hp} {s : Shared} {fp : List Addr} (I : Inv X pins σ H s) (hf : ∀ b ∈ fp, FpOk X pins H b) (ho : ∀ b ∈ fp, ∃ o, s.heap.get? b = some o ∧ ∀ v, o.data ≠ .cell v) : Inv X (pins ++ pinsAt fp s.heap) σ H s :=
  I.pins_of fun p hp => (List.mem_append.mp hp).elim (fun z => I.pin p (List.mem_append_right _ z)) fun z => by
    obtain ⟨hb, e⟩ := of_pinsAt z
    obtain ⟨f0, f1, f2, _⟩ := hf p.1 hb
    obtain ⟨o, e', d⟩ := ho p.1 hb
    rw [e] at e'; cases e'
    exact ⟨e, f0, f1, f2, d⟩
theorem Inv.unpinned {pins pl : List (Addr × Obj)} {σ : St} {H : Hp} {s : Shared} (I : Inv X (pins ++ pl) σ H s) : Inv X pins σ H s := I.pins_of fun p hp => I.pin p (List.mem_append_right _ (List.mem_append_left _ hp))
theorem ps_for {iter : Expr} {body : List Stmt} {wi : TI} {g : TG} {tb : TS} {pos : Pos} (hp : PassesOwn (model X.prog X.w) X.A X.env X.xe) (hc : X.calm = true) (hi : PI X tg iter wi) (hg : PG X tg g) (hb : PSs X body tb)
    (hs : ∀ x, foldedSetIterable iter X.env x = pure x := by intro _; rfl) : PS X (.For tg iter body [] pos) (tFor wi g tb) := by
  intro pins s σ H D I h
  refine wpAny_For (thn (hi pins s σ H _ I h) fun v s1 h1 => thn h1 fun itv s2 h2 => ?_) hs
  obtain ⟨it, fp, tn, J, H2, e, I2, T, st2, f2, W, ⟨m0, w0⟩, turn⟩ := h2
  subst e
  have stat : ∀ {H' : Hp}, (∀ b ∈ fp, H' b = none) → ∀ b ∈ fp, FpOk X pins H' b := fun hn b hb => ⟨hn b hb, (f2 b hb).2⟩
  refine codeAny_forLoop_any (fun n s' => ∃ i σ' H', Inv X pins σ' H' s' ∧ tn i s'.heap ∧ (∀ b ∈ fp, H' b = none) ∧ W i n σ' H') ?_ m0 ⟨0, σ, H2, I2, st2, fun b hb => (f2 b hb).1, w0⟩
  rintro n s3 ⟨i, σ3, H3, I3, st3, fr3, w3⟩
  rcases turn i n σ3 H3 w3 with ⟨stop, qn⟩ | ⟨go, N, hN, step⟩
  · refine wpAny_passesOwn hp (thn (T.done X rfl rfl rfl hc i pins s3 σ3 H3 X.xe I3 (stat fr3) st3 stop) fun r s4 ⟨hr, I4⟩ => ?_)
    subst hr
    exact wpAny_execs_nil ⟨σ3, H3, I4, qn⟩
  · refine wpAny_passesOwn hp (thn (T.item X rfl rfl rfl hc i pins s3 σ3 H3 X.xe I3 (stat fr3) st3 go) fun r s4 ⟨u, hr, h4⟩ => ?_)
    subst hr
    refine wpAny_passesOwn hp (thn h4 fun _ s5 ⟨x, H5, I5, r5, y5, st5, fr5⟩ => ?_)
    have I5' := I5.pinned (stat fr5) (T.obj _ _ st5)
    refine wpAny_passesOwn hp (thn (hg _ s5 σ3 H5 x u _ I5' r5 (step x H5 y5)) fun _ s6 ⟨σ6, H6, I6, q6⟩ => ?_)
    refine wpAny_passesOwn hp (thn (hb _ s6 σ6 H6 _ I6 q6) fun f s7 q7 => ?_)
    have again : ∀ {σ7 : St} {H7 : Hp}, Inv X (pins ++ pinsAt fp s5.heap) σ7 H7 s7 → N σ7 H7 → ∃ m, m < n ∧ ∃ i σ' H', Inv X pins σ' H' s7 ∧ tn i s7.heap ∧ (∀ b ∈ fp, H' b = none) ∧ W i m σ' H' := fun {σ7 H7} I7 n7 => by
      obtain ⟨m', hm, w7⟩ := hN σ7 H7 n7
      refine ⟨m', hm, i + 1, σ7, H7, I7.unpinned, T.keep _ _ _ st5 fun b hb o e => (I7.pin (b, o) (List.mem_append_right _ (List.mem_append_right _ (mem_pinsAt hb e)))).1, fun b hb => ?_, w7⟩
      obtain ⟨o, e, d⟩ := T.obj _ _ st5 b hb
      exact (I7.pin (b, o) (List.mem_append_right _ (List.mem_append_right _ (mem_pinsAt hb e)))).2.1
    cases f with
    | next => obtain ⟨σ7, H7, I7, n7⟩ := q7; exact again I7 n7
    | cont => obtain ⟨σ7, H7, I7, n7⟩ := q7; exact again I7 n7
    | brk => obtain ⟨σ7, H7, I7, q7⟩ := q7; exact ⟨σ7, H7, I7.unpinned, q7⟩
    | ret v => obtain ⟨x7, σ7, H7, I7, r7, q7⟩ := q7; exact ⟨x7, σ7, H7, I7.unpinned, r7, q7⟩
end
theorem for_list {K : PySem.W.Frag} {a : Addr} {xs : List V} {g : TG} {tb : TS} {D : Ends} {σ : St} {H : Hp} (Pv : Nat → St → Hp → Prop) (h0 : Pv 0 σ H) (hl : ∀ i σ H, i ≤ xs.length → Pv i σ H → SqL K H a xs)
    (hs : ∀ i x σ H, xs[i]? = some x → Pv i σ H → g x σ H fun σ2 H2 => tb { D with nx := Pv (i + 1), ct := Pv (i + 1), bk := D.nx } σ2 H2) (hd : ∀ σ H, Pv xs.length σ H → D.nx σ H) :
    ∃ W : Nat → Nat → St → Hp → Prop, (∃ m, W 0 m σ H) ∧ ∀ i m σ H, W i m σ H →
      ((Itl K a).stop i H ∧ D.nx σ H) ∨ ((Itl K a).go i H ∧ ∃ N : St → Hp → Prop, (∀ σ' H', N σ' H' → ∃ m', m' < m ∧ W (i + 1) m' σ' H') ∧ ∀ x H', (Itl K a).yld i H x H' → g x σ H' fun σ2 H2 => tb { D with nx := N, ct := N, bk := D.nx } σ2 H2) := by
  refine ⟨fun i m σ H => m = xs.length - i ∧ i ≤ xs.length ∧ Pv i σ H, ⟨xs.length, by simp, Nat.zero_le _, h0⟩, ?_⟩
  rintro i m σ H ⟨rfl, hi, p⟩
  have q := hl i σ H hi p
  by_cases hlt : i < xs.length
  · refine .inr ⟨⟨xs, xs[i], q, by simp [hlt]⟩, Pv (i + 1), fun σ' H' p' => ⟨xs.length - (i + 1), by omega, rfl, hlt, p'⟩, fun x H' y => ?_⟩
    obtain ⟨e, y⟩ := y
    subst e
    exact hs i x σ _ (y xs q) p
  · have e : i = xs.length := by omega
    subst e
    exact .inl ⟨⟨xs, q, Nat.le_refl _⟩, hd σ H p⟩
theorem for_range {lo : Int} {n : Nat} {g : TG} {tb : TS} {D : Ends} {σ : St} {H : Hp} (Pv : Nat → St → Hp → Prop) (h0 : Pv 0 σ H)
    (hs : ∀ i σ H, i < n → Pv i σ H → g (.int (lo + i)) σ H fun σ2 H2 => tb { D with nx := Pv (i + 1), ct := Pv (i + 1), bk := D.nx } σ2 H2) (hd : ∀ σ H, Pv n σ H → D.nx σ H) :
    ∃ W : Nat → Nat → St → Hp → Prop, (∃ m, W 0 m σ H) ∧ ∀ i m σ H, W i m σ H →
      ((Itr lo n).stop i H ∧ D.nx σ H) ∨ ((Itr lo n).go i H ∧ ∃ N : St → Hp → Prop, (∀ σ' H', N σ' H' → ∃ m', m' < m ∧ W (i + 1) m' σ' H') ∧ ∀ x H', (Itr lo n).yld i H x H' → g x σ H' fun σ2 H2 => tb { D with nx := N, ct := N, bk := D.nx } σ2 H2) := by
  refine ⟨fun i m σ H => m = n - i ∧ i ≤ n ∧ Pv i σ H, ⟨n, by simp, Nat.zero_le _, h0⟩, ?_⟩
  rintro i m σ H ⟨rfl, hi, p⟩
  by_cases hlt : i < n
  · refine .inr ⟨hlt, Pv (i + 1), fun σ' H' p' => ⟨n - (i + 1), by omega, rfl, hlt, p'⟩, fun x H' y => ?_⟩
    obtain ⟨e, y⟩ := y
    subst e y
    exact hs i σ _ hlt p
  · have e : i = n := by omega
    subst e
    exact .inl ⟨Nat.le_refl _, hd σ H p⟩
end L2
namespace L2
open PySem PySem.Spec PyProof.Rows
abbrev R2 := V → V → Hp → VK → Prop
def OpR (X : Cx) (f : Value → Value → Sem Value) (r : R2) : Prop :=
  ∀ (pins : List (Addr × Obj)) (s : Shared) (σ : St) (H : Hp) (x y : V) (v u : Value) (Q : VK), Inv X pins σ H s → RelV x v → RelV y u → r x y H Q →
    wpAny (model X.prog X.w) X.A (f v u) (EP X pins σ Q) X.xe s
def UnR (X : Cx) (f : Value → Sem Value) (r : V → Hp → VK → Prop) : Prop :=
  ∀ (pins : List (Addr × Obj)) (s : Shared) (σ : St) (H : Hp) (x : V) (v : Value) (Q : VK), Inv X pins σ H s → RelV x v → r x H Q →
    wpAny (model X.prog X.w) X.A (f v) (EP X pins σ Q) X.xe s
def CallR (X : Cx) (f : Value) (r : List V → Hp → VK → Prop) : Prop :=
  ∀ (pins : List (Addr × Obj)) (s : Shared) (σ : St) (H : Hp) (xs : List V) (us : List Value) (Q : VK), Inv X pins σ H s → Vals xs us → r xs H Q →
    wpAny (model X.prog X.w) X.A (call f us) (EP X pins σ Q) X.xe s
def tOp (r : R2) (ta tb : TE) : TE := fun σ H Q => ta σ H fun x H1 => tb σ H1 fun y H2 => r x y H2 Q
def tUn (r : V → Hp → VK → Prop) (ta : TE) : TE := fun σ H Q => ta σ H fun x H1 => r x H1 Q
def rI (C : Int → Int → Prop) (g : Int → Int → V) : R2 := fun x y H Q => ∃ i j, x = .int i ∧ y = .int j ∧ C i j ∧ Q (g i j) H
def rI0 (g : Int → Int → V) : R2 := fun x y H Q => ∃ i j, x = .int i ∧ y = .int j ∧ Q (g i j) H
def rU (g : Int → V) : V → Hp → VK → Prop := fun x H Q => ∃ i, x = .int i ∧ Q (g i) H
section
variable {X : Cx} {a b c : Expr} {ta tb tc : TE} {pos : Pos}
theorem binT (ha : PE X a ta) (hb : PE X b tb) {pins : List (Addr × Obj)} {s : Shared} {σ : St} {H : Hp} {R : V → V → Hp → Prop} (I : Inv X pins σ H s)
    (h : ta σ H fun x H1 => tb σ H1 fun y H2 => R x y H2) {Q : Value → Shared → Prop} {f : Value → Value → Sem Value}
    (hf : ∀ v u s2 x y H2, Inv X pins σ H2 s2 → RelV x v → RelV y u → R x y H2 → wpAny (model X.prog X.w) X.A (f v u) Q X.xe s2) :
    wpAny (model X.prog X.w) X.A (eval a X.env) (fun v s₁ => wpAny (model X.prog X.w) X.A (eval b X.env) (fun u s₂ => wpAny (model X.prog X.w) X.A (f v u) Q X.xe s₂) X.xe s₁) X.xe s := by
  refine thn (ha pins s σ H _ I h) fun v s1 ⟨x, H1, I1, r1, q1⟩ => ?_
  refine thn (hb pins s1 σ H1 _ I1 q1) fun u s2 ⟨y, H2, I2, r2, q2⟩ => ?_
  exact hf v u s2 x y H2 I2 r1 r2 q2
theorem pe_op {op : Operator} {r : R2} (ho : OpR X (binaryOp op) r) (ha : PE X a ta) (hb : PE X b tb) : PE X (.BinOp a op b pos) (tOp r ta tb) := by
  intro pins s σ H Q I h
  exact wpAny_BinOp (binT ha hb I h fun v u s2 x y H2 I2 rx ry q => ho pins s2 σ H2 x y v u Q I2 rx ry q)
theorem pe_un {op : UnaryOp} {r : V → Hp → VK → Prop} (ho : UnR X (unaryOp op) r) (ha : PE X a ta) : PE X (.UnaryOp op a pos) (tUn r ta) := by
  intro pins s σ H Q I h
  exact UnaryOp_ (thn (ha pins s σ H _ I h) fun v s1 ⟨x, H1, I1, r1, q1⟩ => ho pins s1 σ H1 x v Q I1 r1 q1)
theorem opI {f : Value → Value → Sem Value} {C : Int → Int → Prop} {g : Int → Int → Int}
    (rule : ∀ (i j : Int) (t u : Tok) (s : Shared) (Q : Value → Shared → Prop) (E : Value → Shared → Prop), C i j → Q (.int (g i j) s.toks) { s with toks := s.toks + 1 } → wpAny (model X.prog X.w) X.A (f (.int i t) (.int j u)) Q E s) :
    OpR X f (rI C fun i j => .int (g i j)) := by
  intro pins s σ H x y v u Q I rx ry h
  obtain ⟨i, j, rfl, rfl, hc, q⟩ := h
  obtain ⟨t, rfl⟩ := rx
  obtain ⟨t', rfl⟩ := ry
  exact rule i j t t' s _ _ hc ⟨.int (g i j), H, I.tok _, ⟨_, rfl⟩, q⟩
theorem opI0 {f : Value → Value → Sem Value} {g : Int → Int → Int}
    (rule : ∀ (i j : Int) (t u : Tok) (s : Shared) (Q : Value → Shared → Prop) (E : Value → Shared → Prop), Q (.int (g i j) s.toks) { s with toks := s.toks + 1 } → wpAny (model X.prog X.w) X.A (f (.int i t) (.int j u)) Q E s) :
    OpR X f (rI0 fun i j => .int (g i j)) := by
  intro pins s σ H x y v u Q I rx ry h
  obtain ⟨i, j, rfl, rfl, q⟩ := h
  obtain ⟨t, rfl⟩ := rx
  obtain ⟨t', rfl⟩ := ry
  exact rule i j t t' s _ _ ⟨.int (g i j), H, I.tok _, ⟨_, rfl⟩, q⟩
theorem opB0 {f : Value → Value → Sem Value} {g : Int → Int → Bool}
    (rule : ∀ (i j : Int) (t u : Tok) (s : Shared) (Q : Value → Shared → Prop) (E : Value → Shared → Prop), Q (.bool (g i j)) s → wpAny (model X.prog X.w) X.A (f (.int i t) (.int j u)) Q E s) :
    OpR X f (rI0 fun i j => .bl (g i j)) := by
  intro pins s σ H x y v u Q I rx ry h
  obtain ⟨i, j, rfl, rfl, q⟩ := h
  obtain ⟨t, rfl⟩ := rx
  obtain ⟨t', rfl⟩ := ry
  exact rule i j t t' s _ _ ⟨.bl (g i j), H, I, rfl, q⟩
def CDiv (i j : Int) : Prop := 0 < j ∧ j < 1073741824
def CPow (i j : Int) : Prop := 0 ≤ j ∧ j ≤ 1000000 ∧ i.natAbs < 2 ^ 64
def CMul (i j : Int) : Prop := (-(2 ^ 64) < i ∧ i < 2 ^ 64) ∨ (-(2 ^ 64) < j ∧ j < 2 ^ 64)
theorem CMul.ok {i j : Int} (h : CMul i j) : IntMulOk i j := by
  rcases h with ⟨h1, h2⟩ | ⟨h1, h2⟩
  · exact .of_left (intBits_le_64 h1 h2)
  · exact .of_right (intBits_le_64 h1 h2)
theorem op_add : OpR X (binaryOp .Add) (rI0 fun i j => .int (i + j)) := opI0 fun _ _ _ _ _ _ _ q => add_int q
theorem op_sub : OpR X (binaryOp .Sub) (rI0 fun i j => .int (i - j)) := opI0 fun _ _ _ _ _ _ _ q => sub_int q
theorem op_mul : OpR X (binaryOp .Mult) (rI CMul fun i j => .int (i * j)) := opI fun _ _ _ _ _ _ _ hc q => mul_int q hc.ok
theorem op_fdiv : OpR X (binaryOp .FloorDiv) (rI CDiv fun i j => .int (i / j)) := opI fun i j _ _ _ _ _ hc q => by
  have h1 : (0 : Int) < j := hc.1
  have h2 : j < 1073741824 := hc.2
  exact floordiv_int (by omega) (by rw [Int.fdiv_eq_ediv_of_nonneg i (by omega)]; exact q) (.inl (PyProof.noPylong_small (by omega)))
theorem op_mod : OpR X (binaryOp .Mod) (rI (fun _ j => 0 < j) fun i j => .int (i % j)) := opI fun i j _ _ _ _ _ hc q => by
  have h1 : (0 : Int) < j := hc
  exact mod_int' (by omega) (by rw [Int.fmod_eq_emod_of_nonneg i (by omega)]; exact q)
theorem op_pow : OpR X (binaryOp .Pow) (rI CPow fun i j => .int (i ^ j.toNat)) := opI fun _ _ _ _ _ _ _ hc q => pow_int_small hc.1 hc.2.1 hc.2.2 q
theorem unI {f : Value → Sem Value} {g : Int → Int}
    (rule : ∀ (i : Int) (t : Tok) (s : Shared) (Q : Value → Shared → Prop) (E : Value → Shared → Prop), Q (.int (g i) s.toks) { s with toks := s.toks + 1 } → wpAny (model X.prog X.w) X.A (f (.int i t)) Q E s) :
    UnR X f (rU fun i => .int (g i)) := by
  intro pins s σ H x v Q I rx h
  obtain ⟨i, rfl, q⟩ := h
  obtain ⟨t, rfl⟩ := rx
  exact rule i t s _ _ ⟨.int (g i), H, I.tok _, ⟨_, rfl⟩, q⟩
theorem un_neg : UnR X (unaryOp .USub) (rU fun i => .int (-i)) := unI fun _ _ _ _ _ q => neg_int q
end
def scal : V → V → Bool
  | .non, .non => true | .non, .int _ => true | .int _, .non => true | .non, .bl _ => true | .bl _, .non => true | .non, .str _ => true | .str _, .non => true
  | .int _, .int _ => true | .bl _, .bl _ => true | .str _, .str _ => true | .byt _, .byt _ => true
  | .int _, .str _ => true | .str _, .int _ => true | .bl _, .str _ => true | .str _, .bl _ => true
  | _, _ => false
def rEq : R2 := fun x y H Q => scal x y = true ∧ Q (.bl (decide (x = y))) H
def rNe : R2 := fun x y H Q => scal x y = true ∧ Q (.bl (!decide (x = y))) H
theorem dec_int {i j : Int} : decide (V.int i = V.int j) = (i == j) := by
  rw [Bool.eq_iff_iff]
  simp
theorem dec_bl {i j : Bool} : decide (V.bl i = V.bl j) = (i == j) := by
  rw [Bool.eq_iff_iff]
  simp
theorem dec_str {i j : Str} : decide (V.str i = V.str j) = (i == j) := by
  rw [Bool.eq_iff_iff]
  simp
theorem dec_byt {i j : Array UInt8} : decide (V.byt i = V.byt j) = (i.toList == j.toList) := by
  rw [Bool.eq_iff_iff]
  cases i
  cases j
  simp
section
variable {X : Cx} {a b c : Expr} {ta tb tc : TE} {pos : Pos}
theorem fin_bl {pins : List (Addr × Obj)} {σ : St} {H : Hp} {s : Shared} {Q : VK} {k k' : Bool} (I : Inv X pins σ H s) (q : Q (.bl k) H) (e : k = k') : EP X pins σ Q (.bool k') s := by
  subst e
  exact ⟨.bl k, H, I, rfl, q⟩
theorem op_eq : OpR X (compareOp .Eq) rEq := by
  intro pins s σ H x y v u Q I rx ry h
  obtain ⟨hs, q⟩ := h
  cases x with
  | non =>
    cases rx
    cases y with
    | non => cases ry; exact PySem.EqNone.eq_none_none (fin_bl I q (by simp))
    | bl j => cases ry; exact PySem.EqNone.eq_none_bool (fin_bl I q (by simp))
    | int j => obtain ⟨t', rfl⟩ := ry; exact PySem.EqNone.eq_none_int (fin_bl I q (by simp))
    | str j => obtain ⟨t', rfl⟩ := ry; exact PySem.EqNone.eq_none_str (fin_bl I q (by simp))
    | _ => exact absurd (show false = true from hs) Bool.false_ne_true
  | bl i =>
    cases rx
    cases y with
    | non => cases ry; exact PySem.EqNone.eq_bool_none (fin_bl I q (by simp))
    | bl j => cases ry; exact eq_bool (fin_bl I q dec_bl)
    | str j => obtain ⟨t', rfl⟩ := ry; exact PySem.EqMixed.eq_bool_str (fin_bl I q (by simp))
    | _ => exact absurd (show false = true from hs) Bool.false_ne_true
  | int i =>
    obtain ⟨t, rfl⟩ := rx
    cases y with
    | non => cases ry; exact PySem.EqNone.eq_int_none (fin_bl I q (by simp))
    | int j => obtain ⟨t', rfl⟩ := ry; exact eq_int (fin_bl I q dec_int)
    | str j => obtain ⟨t', rfl⟩ := ry; exact PySem.EqMixed.eq_int_str (fin_bl I q (by simp))
    | _ => exact absurd (show false = true from hs) Bool.false_ne_true
  | str i =>
    obtain ⟨t, rfl⟩ := rx
    cases y with
    | non => cases ry; exact PySem.EqNone.eq_str_none (fin_bl I q (by simp))
    | bl j => cases ry; exact PySem.EqMixed.eq_str_bool (fin_bl I q (by simp))
    | int j => obtain ⟨t', rfl⟩ := ry; exact PySem.EqMixed.eq_str_int (fin_bl I q (by simp))
    | str j => obtain ⟨t', rfl⟩ := ry; exact eq_str (fin_bl I q dec_str)
    | _ => exact absurd (show false = true from hs) Bool.false_ne_true
  | byt i =>
    obtain ⟨t, rfl⟩ := rx
    cases y with
    | byt j => obtain ⟨t', rfl⟩ := ry; exact PySem.W.eq_bytes (fin_bl I q dec_byt)
    | _ => exact absurd (show false = true from hs) Bool.false_ne_true
  | _ => cases y <;> exact absurd (show false = true from hs) Bool.false_ne_true
theorem op_ne : OpR X (compareOp .NotEq) rNe := by
  intro pins s σ H x y v u Q I rx ry h
  obtain ⟨hs, q⟩ := h
  cases x with
  | non =>
    cases rx
    cases y with
    | non => cases ry; exact PySem.EqNone.ne_none_none (fin_bl I q (by simp))
    | bl j => cases ry; exact PySem.EqNone.ne_none_bool (fin_bl I q (by simp))
    | int j => obtain ⟨t', rfl⟩ := ry; exact PySem.EqNone.ne_none_int (fin_bl I q (by simp))
    | str j => obtain ⟨t', rfl⟩ := ry; exact PySem.EqNone.ne_none_str (fin_bl I q (by simp))
    | _ => exact absurd (show false = true from hs) Bool.false_ne_true
  | bl i =>
    cases rx
    cases y with
    | non => cases ry; exact PySem.EqNone.ne_bool_none (fin_bl I q (by simp))
    | bl j => cases ry; exact ne_bool (fin_bl I q (congrArg not dec_bl))
    | str j => obtain ⟨t', rfl⟩ := ry; exact PySem.EqMixed.ne_bool_str (fin_bl I q (by simp))
    | _ => exact absurd (show false = true from hs) Bool.false_ne_true
  | int i =>
    obtain ⟨t, rfl⟩ := rx
    cases y with
    | non => cases ry; exact PySem.EqNone.ne_int_none (fin_bl I q (by simp))
    | int j => obtain ⟨t', rfl⟩ := ry; exact ne_int (fin_bl I q (congrArg not dec_int))
    | str j => obtain ⟨t', rfl⟩ := ry; exact PySem.EqMixed.ne_int_str (fin_bl I q (by simp))
    | _ => exact absurd (show false = true from hs) Bool.false_ne_true
  | str i =>
    obtain ⟨t, rfl⟩ := rx
    cases y with
    | non => cases ry; exact PySem.EqNone.ne_str_none (fin_bl I q (by simp))
    | bl j => cases ry; exact PySem.EqMixed.ne_str_bool (fin_bl I q (by simp))
    | int j => obtain ⟨t', rfl⟩ := ry; exact PySem.EqMixed.ne_str_int (fin_bl I q (by simp))
    | str j => obtain ⟨t', rfl⟩ := ry; exact ne_str (fin_bl I q (congrArg not dec_str))
    | _ => exact absurd (show false = true from hs) Bool.false_ne_true
  | byt i =>
    obtain ⟨t, rfl⟩ := rx
    cases y with
    | byt j => obtain ⟨t', rfl⟩ := ry; exact PySem.W.ne_bytes (fin_bl I q (congrArg not dec_byt))
    | _ => exact absurd (show false = true from hs) Bool.false_ne_true
  | _ => cases y <;> exact absurd (show false = true from hs) Bool.false_ne_true
theorem op_lt : OpR X (compareOp .Lt) (rI0 fun i j => .bl (decide (i < j))) := opB0 fun _ _ _ _ _ _ _ q => lt_int q
theorem op_le : OpR X (compareOp .LtE) (rI0 fun i j => .bl (decide (i ≤ j))) := opB0 fun _ _ _ _ _ _ _ q => le_int q
theorem op_gt : OpR X (compareOp .Gt) (rI0 fun i j => .bl (decide (j < i))) := opB0 fun _ _ _ _ _ _ _ q => gt_int q
theorem op_ge : OpR X (compareOp .GtE) (rI0 fun i j => .bl (decide (j ≤ i))) := opB0 fun _ _ _ _ _ _ _ q => ge_int q
theorem op_isN : OpR X (compareOp .Is) (fun x y H Q => y = .non ∧ Q (.bl (decide (x = .non))) H) := by
  intro pins s σ H x y v u Q I rx ry h
  obtain ⟨rfl, q⟩ := h
  cases ry
  refine is_none_gen (fin_bl I q ?_)
  cases x <;> first
    | (cases rx; rfl)
    | (obtain ⟨t, rfl⟩ := rx; rfl)
theorem op_notN : OpR X (compareOp .IsNot) (fun x y H Q => y = .non ∧ Q (.bl (!decide (x = .non))) H) := by
  intro pins s σ H x y v u Q I rx ry h
  obtain ⟨rfl, q⟩ := h
  cases ry
  refine isnot_none_gen (fin_bl I q ?_)
  cases x <;> first
    | (cases rx; rfl)
    | (obtain ⟨t, rfl⟩ := rx; rfl)
theorem OpR.or {f : Value → Value → Sem Value} {r r' : R2} (h : OpR X f r) (h' : OpR X f r') : OpR X f (fun x y H Q => r x y H Q ∨ r' x y H Q) := by
  intro pins s σ H x y v u Q I rx ry q
  rcases q with q | q
  · exact h pins s σ H x y v u Q I rx ry q
  · exact h' pins s σ H x y v u Q I rx ry q
theorem nomark (b : Expr) {op : CmpOp} (h : op ≠ .In := by decide) (h2 : op ≠ .NotIn := by decide) : behindInMarks op b = false := by
  have e1 : (op == CmpOp.In) = false := by cases op <;> first | rfl | exact absurd rfl h
  have e2 : (op == CmpOp.NotIn) = false := by cases op <;> first | rfl | exact absurd rfl h2
  cases b <;> simp [behindInMarks, e1, e2]
theorem pe_cmpR {op : CmpOp} {r : R2} (ho : OpR X (compareOp op) r) (ha : PE X a ta) (hb : PE X b tb) (hm : behindInMarks op b = false) : PE X (.Compare a [op] [b] pos) (tOp r ta tb) := by
  intro pins s σ H Q I h
  exact wpAny_Compare1 (binT ha hb I h fun v u s2 x y H2 I2 rx ry q => ho pins s2 σ H2 x y v u Q I2 rx ry q) hm
def tTest (t : TE) : TT := fun σ H Q => t σ H fun x H' => ∃ k, x = .bl k ∧ Q k H'
theorem pt_cmpR {op : CmpOp} {r : R2} (ho : OpR X (compareOp op) r) (ha : PE X a ta) (hb : PE X b tb) (hm : behindInMarks op b = false) : PT X (.Compare a [op] [b] pos) (tTest (tOp r ta tb)) := by
  intro pins s σ H Q I h
  refine wpAny_isTrue_Compare1 (thn (ha pins s σ H _ I h) fun v s1 ⟨x, H1, I1, r1, q1⟩ => thn (hb pins s1 σ H1 _ I1 q1) fun u s2 ⟨y, H2, I2, r2, q2⟩ =>
    thn (ho pins s2 σ H2 x y v u _ I2 r1 r2 q2) fun c s3 ⟨z, H3, I3, r3, k, e, q3⟩ => ?_) hm
  subst e
  cases r3
  exact wpAny_truthy_bool ⟨H3, I3, q3⟩
def tChain (r r' : R2) (ta tb tc : TE) : TE := fun σ H Q => ta σ H fun x H1 => tb σ H1 fun y H2 => r x y H2 fun z H3 => ∃ k, z = .bl k ∧
  (if k = true then tc σ H3 fun w' H4 => r' y w' H4 Q else Q (.bl false) H3)
theorem pe_chain {op op' : CmpOp} {r r' : R2} (ho : OpR X (compareOp op) r) (ho' : OpR X (compareOp op') r') (ha : PE X a ta) (hb : PE X b tb) (hc : PE X c tc)
    (hm : lastMarks [op, op'] [b, c] = false := by with_unfolding_all rfl) : PE X (.Compare a [op, op'] [b, c] pos) (tChain r r' ta tb tc) := by
  intro pins s σ H Q I h
  refine Compare_chain (thn (ha pins s σ H _ I h) fun v s1 ⟨x, H1, I1, r1, q1⟩ => chain_link (thn (hb pins s1 σ H1 _ I1 q1) fun u s2 ⟨y, H2, I2, r2, q2⟩ =>
    thn (ho pins s2 σ H2 x y v u _ I2 r1 r2 q2) fun d s3 ⟨z, H3, I3, r3, k, e, q3⟩ => ?_)) hm
  subst e
  cases r3
  refine wpAny_truthy_bool ?_
  cases k with
  | false => exact ite_ff ⟨.bl false, H3, I3, rfl, q3⟩
  | true => exact ite_tt (chain_last (thn (hc pins s3 σ H3 _ I3 q3) fun w' s4 ⟨z', H4, I4, r4, q4⟩ => ho' pins s4 σ H4 y z' u w' Q I4 r2 r4 q4))
def TruV (K : PySem.W.Frag) (x : V) (H : Hp) (k : Bool) : Prop :=
  match x with
  | .non => k = false
  | .bl b => k = b
  | .int i => k = (i != 0)
  | .str y => y.length ≤ sizeLine ∧ k = ((y.length : Int) != 0)
  | .byt y => y.size ≤ sizeLine ∧ k = ((y.size : Int) != 0)
  | .ref p => (∃ xs, SqL K H p xs ∧ k = !xs.isEmpty) ∨ (∃ xs, SqT K H p xs ∧ k = !xs.isEmpty) ∨ ∃ kvs, H p = some (.dK kvs) ∧ k = !kvs.isEmpty
  | _ => False
theorem line63 : (sizeLine : Nat) < 2 ^ 63 := by rw [sizeLine_eq]; decide
theorem vals1 {x : V} {us : List Value} (r : Vals [x] us) : ∃ u, us = [u] ∧ RelV x u := by
  cases r with
  | cons r1 r2 => cases r2; exact ⟨_, rfl, r1⟩
theorem vals2 {x y : V} {us : List Value} (r : Vals [x, y] us) : ∃ u w', us = [u, w'] ∧ RelV x u ∧ RelV y w' := by
  cases r with
  | cons r1 r2 =>
    cases r2 with
    | cons r3 r4 => cases r4; exact ⟨_, _, rfl, r1, r3⟩
theorem call_max2 (hc : X.calm = true) : CallR X (.builtin "max") (fun xs H Q => ∃ i j, xs = [.int i, .int j] ∧ Q (.int (if j > i then j else i)) H) := by
  intro pins s σ H xs us Q I r h
  obtain ⟨i, j, rfl, q⟩ := h
  obtain ⟨u, w', rfl, ⟨t, rfl⟩, ⟨t', rfl⟩⟩ := vals2 r
  refine max_two_ints (I.ok.hd hc) fun h' tk k => ⟨_, H, I.kept k, ?_, q⟩
  by_cases hj : j > i
  · rw [if_pos hj, if_pos hj]; exact ⟨_, rfl⟩
  · rw [if_neg hj, if_neg hj]; exact ⟨_, rfl⟩
theorem call_min2 (hc : X.calm = true) : CallR X (.builtin "min") (fun xs H Q => ∃ i j, xs = [.int i, .int j] ∧ Q (.int (if j < i then j else i)) H) := by
  intro pins s σ H xs us Q I r h
  obtain ⟨i, j, rfl, q⟩ := h
  obtain ⟨u, w', rfl, ⟨t, rfl⟩, ⟨t', rfl⟩⟩ := vals2 r
  refine min_two_ints (I.ok.hd hc) fun h' tk k => ⟨_, H, I.kept k, ?_, q⟩
  by_cases hj : j < i
  · rw [if_pos hj, if_pos hj]; exact ⟨_, rfl⟩
  · rw [if_neg hj, if_neg hj]; exact ⟨_, rfl⟩
theorem call_int1 : CallR X (.type "int") (fun xs H Q => (∃ i, xs = [.int i] ∧ Q (.int i) H) ∨ ∃ k, xs = [.bl k] ∧ Q (.int (if k then 1 else 0)) H) := by
  intro pins s σ H xs us Q I r h
  rcases h with ⟨i, rfl, q⟩ | ⟨k, rfl, q⟩
  · obtain ⟨u, rfl, t, rfl⟩ := vals1 r
    exact call_int_int ⟨.int i, H, I, ⟨_, rfl⟩, q⟩
  · obtain ⟨u, rfl, r1⟩ := vals1 r
    cases r1
    exact call_int_bool ⟨.int (if k then 1 else 0), H, I.tok _, ⟨_, rfl⟩, q⟩
end
end L2
namespace L2
open PySem PySem.Spec PyProof.Rows
structure ObjM (h : Heap) (x dx C : Addr) (mA : Str → Option Value) : Prop where
  obj : h.get? x = some (PySem.W.instObj C dx)
  ns : h.Ns1 dx mA
  ne : dx ≠ x
theorem lookIn_ns {h : Heap} {dx : Addr} {mA : Str → Option Value} (n : h.Ns1 dx mA) : ∃ od, h.get? dx = some od ∧ ∀ name, PySem.W.lookIn name od = some (mA name) := by
  obtain ⟨o, es, ep, ho, hd, hk, _, hm⟩ := n
  refine ⟨o, ho, fun name => ?_⟩
  have e := hm name
  unfold nsFind findBy at e
  rw [← Array.find?_toList] at e
  unfold PySem.W.lookIn
  rw [hd]
  dsimp only
  split
  · rename_i y q
    rw [q] at e
    exact congrArg some e
  · rename_i q
    rw [q] at e
    have a : es.toList.any (·.refKey) = false := by
      rw [List.any_eq_false]
      intro y hy
      obtain ⟨z, t, hkey⟩ := hk y (Array.mem_toList_iff.mp hy)
      simp [DictEntry.refKey, hkey]
    have a' : ¬ es.toList.any (·.refKey) = true := by rw [a]; exact Bool.false_ne_true
    rw [if_neg a']
    exact congrArg some e
theorem ObjM.look {h : Heap} {x dx C : Addr} {mA : Str → Option Value} (I : ObjM h x dx C mA) : ∃ od, PySem.W.InstAt h x (PySem.W.instObj C dx) C (some od) ∧ ∀ name, PySem.W.lookIn name od = some (mA name) :=
  let ⟨od, ho, hl⟩ := lookIn_ns I.ns
  ⟨od, ⟨I.obj, rfl, rfl, ho⟩, hl⟩
section
variable {prog : Program} {w : World} {A : Around} {E : Value → Shared → Prop} {s : Shared} {K : PySem.W.Frag} {x dx C f : Addr} {mA : Str → Option Value} {name : Str} {v : Value}
theorem get_map {expr : Bool} {Q : Value → Shared → Prop} (X : K.In s.heap) (I : ObjM s.heap x dx C mA) (hg : PySem.W.plainGet K C name = true) (hh : PySem.W.hasDictIn K C = true)
    (ha : PySem.W.findIn K (.ref C) name = some none) (hv : mA name = some v) (hv' : PySem.W.handedIn v = true) (h : Q v { s with toks := s.toks + 1 }) :
    wpAny (model prog w) A (getAttr (.ref x) name expr) Q E s := by
  obtain ⟨od, J, hl⟩ := I.look
  exact PySem.W.get_value X J (PySem.W.plainGet_of hg).1 (PySem.W.findObj_own hh ha rfl (by rw [hl, hv])) hv' h
theorem get_meth {pl : Sem Bool} {Q : Value × List Value → Shared → Prop} (X : K.In s.heap) (I : ObjM s.heap x dx C mA) (hg : PySem.W.plainGet K C name = true)
    (hf : PySem.W.findIn K (.ref C) name = some (some (.ref f))) (ht : PySem.W.isFn K (.ref f) = true) (hv : mA name = none) (h : Q (.ref f, [.ref x]) s) :
    wpAny (model prog w) A (getMethod (.ref x) name pl) Q E s := by
  obtain ⟨od, J, hl⟩ := I.look
  exact PySem.W.method_fn X J (PySem.W.plainGet_of hg).1 (PySem.W.plainGet_of hg).2 hf (beq_iff_eq.mp ht) (by show (PySem.W.lookIn name od).map (·.isSome) = some false; rw [hl, hv]; rfl) h
theorem set_map {ns : List Str} {Q : Unit → Shared → Prop} (X : K.In s.heap) (I : ObjM s.heap x dx C mA)
    (hs : PySem.W.findIn K (.ref C) "__setattr__" = some (some (.builtin "object.__setattr__"))) (hp : PySem.W.plainOver K C = true) (ht : PySem.W.takerIn K C name = some none) (hh : PySem.W.hasDictIn K C = true)
    (hw : PySem.Within mA ns) (hsz : ns.length ≤ sizeLine)
    (h : ∀ h', ObjM h' x dx C (fun y => if y = name then some v else mA y) → Heap.SameBut dx s.heap h' → Q () { s with heap := h', toks := s.toks + 2 }) :
    wpAny (model prog w) A (setAttr (.ref x) name v) Q E s := by
  obtain ⟨od, J, hl⟩ := I.look
  refine PySem.W.set_plain X J hs (PySem.W.osa_open (s := { s with toks := s.toks + 1 }) (r := none) X J hp ht fun b => ?_)
  obtain ⟨cd, hc, hd'⟩ := PySem.W.any_some hh
  have hx : s.heap.get? x = some ⟨.ref C, some dx, .plain, #[]⟩ := I.obj
  refine wpAny_bind (wpAny_pure (wpAny_bind (wpAny_bind (wpAny_loadPart hx (wpAny_bind (PySem.W.Looks.here (s := { s with toks := s.toks + 1 }) (PySem.W.looks_clsIn X hc) ?_))))))
  rw [hd']
  refine wpAny_pure (a := some dx) (wpAny_bind (wpAny_pure (wpAny_bind ?_)))
  refine wpAny_nsSet1 (s := { s with toks := s.toks + 1 }) I.ns fun h' hn2 hs2 => ?_
  obtain ⟨oD, esD, epD, hoD, hdD, hcD⟩ := hn2.count (PySem.Within.cons name v hw)
  refine wpAny_bind (wpAny_lookBehind hoD (by rw [hdD]; exact pastItsLine_dict (Nat.le_trans hcD (by rw [List.length_cons]; omega))) ?_)
  exact wpAny_pure (h _ ⟨(hs2.2 _ (Ne.symm I.ne)).trans I.obj, hn2, I.ne⟩ hs2)
theorem make_map {R : Result → Shared → Prop} {vs : List Value} {kw : List (Str × Value)} (X : K.In s.heap) (hm : PySem.W.makesIn K C = true)
    (hi : PySem.W.findIn K (.ref C) "__init__" = some (some (.ref f))) (hf : PySem.W.typeIn K (.ref f) = some (.type "function"))
    (h : codeAny (model prog w) (A.under (.builtin "type.__call__" ⟨.ref C :: vs, kw⟩)) (.call (.ref f) ⟨.ref (s.heap.objs.size + 1) :: vs, kw⟩) (PySem.W.InitBack (s.heap.objs.size + 1) R)
      { s with heap := (s.heap.push PySem.W.emptyDict).push (PySem.W.instObj C s.heap.objs.size) }) :
    codeAny (model prog w) A (.call (.ref C) ⟨vs, kw⟩) R s := by
  obtain ⟨hh, g, d, t, os⟩ := s
  exact PySem.W.make_core (PySem.W.makes_of X hm) (PySem.W.looks_findIn X hi) (fun self => PySem.W.bind_fn X self hf) (.inl rfl) h
end
def putF (f : Str) (v : V) : List (Str × V) → List (Str × V)
  | [] => [(f, v)]
  | (g, x) :: r => if g = f then (g, v) :: r else (g, x) :: putF f v r
theorem lookup_putF (f g : Str) (v : V) : ∀ fs : List (Str × V), (putF f v fs).lookup g = if g = f then some v else fs.lookup g
  | [] => by
    show List.lookup g [(f, v)] = _
    by_cases h : g = f
    · have hb : (g == f) = true := beq_iff_eq.mpr h
      simp only [List.lookup, hb, if_pos h]
    · have hb : (g == f) = false := beq_eq_false_iff_ne.mpr h
      simp only [List.lookup, hb, if_neg h]
  | (k, x) :: r => by
    have ih := lookup_putF f g v r
    rw [show putF f v ((k, x) :: r) = (if k = f then (k, v) :: r else (k, x) :: putF f v r) from rfl]
    by_cases hk : k = f
    · rw [if_pos hk]
      by_cases h : g = k
      · have hb : (g == k) = true := beq_iff_eq.mpr h
        simp only [List.lookup, hb, if_pos (h.trans hk)]
      · have hb : (g == k) = false := beq_eq_false_iff_ne.mpr h
        simp only [List.lookup, hb, if_neg (fun e : g = f => h (e.trans hk.symm))]
    · rw [if_neg hk]
      by_cases h : g = k
      · have hb : (g == k) = true := beq_iff_eq.mpr h
        simp only [List.lookup, hb, if_neg (fun e : g = f => hk (h.symm.trans e))]
      · have hb : (g == k) = false := beq_eq_false_iff_ne.mpr h
        simp only [List.lookup, hb]
        exact ih
theorem keys_putF (f : Str) (v : V) : ∀ fs : List (Str × V), f ∈ (putF f v fs).map (·.1) ∧ ∀ g, g ∈ fs.map (·.1) → g ∈ (putF f v fs).map (·.1)
  | [] => ⟨by simp [putF], fun g h => by simp at h⟩
  | (k, x) :: r => by
    obtain ⟨i1, i2⟩ := keys_putF f v r
    rw [show putF f v ((k, x) :: r) = (if k = f then (k, v) :: r else (k, x) :: putF f v r) from rfl]
    by_cases hk : k = f
    · rw [if_pos hk]
      subst hk
      exact ⟨by simp, fun g h => by simpa using h⟩
    · rw [if_neg hk]
      refine ⟨?_, fun g h => ?_⟩
      · rw [List.map_cons]
        exact List.mem_cons_of_mem _ i1
      · rw [List.map_cons] at h ⊢
        rcases List.mem_cons.mp h with e | e
        · exact List.mem_cons.mpr (.inl e)
        · exact List.mem_cons_of_mem _ (i2 g e)
theorem length_putF (f : Str) (v : V) : ∀ fs : List (Str × V), (putF f v fs).length ≤ fs.length + 1
  | [] => by simp [putF]
  | (k, x) :: r => by
    have ih := length_putF f v r
    rw [show putF f v ((k, x) :: r) = (if k = f then (k, v) :: r else (k, x) :: putF f v r) from rfl]
    by_cases hk : k = f
    · rw [if_pos hk, List.length_cons, List.length_cons]; omega
    · rw [if_neg hk, List.length_cons, List.length_cons]; omega
theorem RelO.some_of {v : V} {o : Option Value} (r : RelO (some v) o) : ∃ u, o = some u ∧ RelV v u := by
  cases o with
  | none => exact (show False from r).elim
  | some u => exact ⟨u, rfl, r⟩
theorem RelO.none_of {o : Option Value} (r : RelO none o) : o = none := by
  cases o with
  | none => rfl
  | some u => exact (show False from r).elim
theorem handed_of {v : V} {u : Value} (r : RelV v u) : PySem.W.handedIn u = true := by
  cases v with
  | non => cases (show u = Value.none from r); rfl
  | bl b => cases (show u = Value.bool b from r); rfl
  | int i => obtain ⟨t, e⟩ := (show ∃ t, u = Value.int i t from r); cases e; rfl
  | str x => obtain ⟨t, e⟩ := (show ∃ t, u = Value.str x t from r); cases e; rfl
  | byt b => obtain ⟨t, e⟩ := (show ∃ t, u = Value.bytes b t from r); cases e; rfl
  | flt b => obtain ⟨t, e⟩ := (show ∃ t, u = Value.float b t from r); cases e; rfl
  | ref a => cases (show u = Value.ref a from r); rfl
  | ty n => cases (show u = Value.type n from r); rfl
section
variable {P : Program} {w : World} {H H' : Hp} {h h' : Heap} {a C dx : Addr} {fs fs' : List (Str × V)}
theorem ins_get (hok : HOk P w H h) (e : H a = some (.ins C dx fs)) : ∃ mA, ObjM h a dx C mA ∧ (∀ f, RelO (fs.lookup f) (mA f)) ∧ PySem.Within mA (fs.map (·.1)) ∧ fs.length ≤ 1000 ∧ H dx = some (.own a) := by
  obtain ⟨d, z, ne, ob, mA, n, r, q⟩ := (show ObjOk P w H h a (.ins C dx fs) from hok a _ e)
  exact ⟨mA, ⟨ob, n, ne⟩, r, q, z, d⟩
end
structure Cls (K : PySem.W.Frag) (C : Addr) : Prop where
  pg : PySem.W.plainGet K C Str.empty = true
  hd : PySem.W.hasDictIn K C = true
  po : PySem.W.plainOver K C = true
  sa : PySem.W.findIn K (.ref C) "__setattr__" = some (some (.builtin "object.__setattr__"))
theorem Cls.get {K : PySem.W.Frag} {C : Addr} (c : Cls K C) (f : Str) : PySem.W.plainGet K C f = true := c.pg
def NoAttr (K : PySem.W.Frag) (C : Addr) (f : Str) : Prop := PySem.W.findIn K (.ref C) f = some none
theorem NoAttr.taker {K : PySem.W.Frag} {C : Addr} {f : Str} (n : NoAttr K C f) : PySem.W.takerIn K C f = some none := by
  unfold PySem.W.takerIn
  rw [show PySem.W.findIn K (.ref C) f = some none from n]
  rfl
structure Con (K : PySem.W.Frag) (C : Addr) (f : Str) (v : V) (u : Value) : Prop where
  at_ : PySem.W.findIn K (.ref C) f = some (some u)
  rel : RelV v u
  get : PySem.W.specialIn K u "__get__" = some none
  cp : PySem.W.copiedNames.contains f = false
structure Meth (K : PySem.W.Frag) (C : Addr) (m : Str) (f : Addr) : Prop where
  at_ : PySem.W.findIn K (.ref C) m = some (some (.ref f))
  fn : PySem.W.isFn K (.ref f) = true
  kp : PySem.W.keepIn K (.ref f) = true
section
variable {X : Cx} {pins : List (Addr × Obj)} {σ : St} {H : Hp} {s : Shared} {a C dx : Addr} {fs : List (Str × V)} {f : Str} {v : V} {A : Around} {E : Value → Shared → Prop}
theorem getattr_ok {b : Bool} {Q : Value → Shared → Prop} (I : Inv X pins σ H s) (e : H a = some (.ins C dx fs)) (c : Cls X.K C) (n : NoAttr X.K C f) (l : fs.lookup f = some v)
    (h : ∀ u s', Inv X pins σ H s' → RelV v u → Q u s') : wpAny (model X.prog X.w) A (getAttr (.ref a) f b) Q E s := by
  obtain ⟨mA, O, r, _, _, _⟩ := ins_get I.hok e
  obtain ⟨u, hu, ru⟩ := RelO.some_of (v := v) (o := mA f) (by rw [← l]; exact r f)
  exact get_map I.kIn O (c.get f) c.hd n hu (handed_of ru) (h u _ (I.tok _) ru)
theorem getmeth_ok {m : Str} {g : Addr} {pl : Sem Bool} {Q : Value × List Value → Shared → Prop} (I : Inv X pins σ H s) (e : H a = some (.ins C dx fs)) (c : Cls X.K C) (k : Meth X.K C m g) (l : fs.lookup m = none)
    (h : Q (.ref g, [.ref a]) s) : wpAny (model X.prog X.w) A (getMethod (.ref a) m pl) Q E s := by
  obtain ⟨mA, O, r, _, _, _⟩ := ins_get I.hok e
  have hn : mA m = none := RelO.none_of (by rw [← l]; exact r m)
  exact get_meth I.kIn O (c.get m) k.at_ k.fn hn h
theorem setattr_ok {y : V} {u : Value} {Q : Unit → Shared → Prop} (I : Inv X pins σ H s) (e : H a = some (.ins C dx fs)) (c : Cls X.K C) (n : NoAttr X.K C f) (hl : fs.length < 1000) (ry : RelV y u)
    (h : ∀ s', Inv X pins σ (upd H a (.ins C dx (putF f y fs))) s' → Q () s') : wpAny (model X.prog X.w) A (setAttr (.ref a) f u) Q E s := by
  obtain ⟨mA, O, r, wi, _, ho⟩ := ins_get I.hok e
  have hz : (fs.map (·.1)).length ≤ sizeLine := by rw [List.length_map, sizeLine_eq]; omega
  refine set_map I.kIn O c.sa c.po n.taker c.hd wi hz fun h' O' sb => h _ ?_
  have hd : ∃ o, h'.get? dx = some o := let ⟨o, _, _, e', _⟩ := O'.ns; ⟨o, e'⟩
  refine I.write (x := a) (e := dx) (by rw [e]; exact True.intro) (.inr ho) (fun b q hb z => (sb.2 b hb).trans z) hd ?_
  refine ⟨by rw [upd_ne O.ne]; exact ho, ?_, O.ne, O'.obj, _, O'.ns, fun g => ?_, fun g hg => ?_⟩
  · have := length_putF f y fs; omega
  · show RelO ((putF f y fs).lookup g) (if g = f then some u else mA g)
    rw [lookup_putF]
    by_cases q : g = f
    · rw [if_pos q, if_pos q]; exact ry
    · rw [if_neg q, if_neg q]; exact r g
  · by_cases q : g = f
    · rw [q]; exact (keys_putF f y fs).1
    · refine (keys_putF f y fs).2 g (wi g fun z => hg ?_)
      show (if g = f then some u else mA g) = none
      rw [if_neg q]; exact z
theorem Inv.made (I : Inv X pins σ H s) : Inv X pins σ (upd (upd H s.heap.objs.size (.own (s.heap.objs.size + 1))) (s.heap.objs.size + 1) (.ins C s.heap.objs.size []))
    { s with heap := (s.heap.push PySem.W.emptyDict).push (PySem.W.instObj C s.heap.objs.size) } := by
  have e1 : (s.heap.push PySem.W.emptyDict).get? s.heap.objs.size = some PySem.W.emptyDict := Heap.get?_push_size s.heap rfl
  have e2 : ((s.heap.push PySem.W.emptyDict).push (PySem.W.instObj C s.heap.objs.size)).get? (s.heap.objs.size + 1) = some (PySem.W.instObj C s.heap.objs.size) := by
    have := Heap.get?_push_size (s.heap.push PySem.W.emptyDict) (o := PySem.W.instObj C s.heap.objs.size) rfl
    rwa [Heap.size_push] at this
  have e3 : (s.heap.push PySem.W.emptyDict).Ns s.heap.objs.size (fun _ => none) := ⟨PySem.W.emptyDict, #[], _, e1, rfl, (fun e he => absurd he (by simp)), fun _ => rfl⟩
  have I1 := I.laid (a := s.heap.objs.size) (o := .own (s.heap.objs.size + 1)) (h' := s.heap.push PySem.W.emptyDict) (t' := s.toks) (fun b u q => Heap.get?_push_of_some _ q) (Nat.le_refl _) ⟨_, e1⟩
  refine I1.laid (a := s.heap.objs.size + 1) (o := .ins C s.heap.objs.size []) (t' := s.toks) (fun b u q => Heap.get?_push_of_some _ q) (Nat.le_of_eq (Heap.size_push _ _)) ?_
  have ne : s.heap.objs.size ≠ s.heap.objs.size + 1 := Nat.ne_of_lt (Nat.lt_succ_self _)
  refine ⟨by rw [upd_ne ne, upd_same], Nat.zero_le _, ne, e2, fun _ => none, (Heap.Ns1.of_empty e3).at fun o q => Heap.get?_push_of_some _ q, fun _ => True.intro, fun y hy => absurd rfl hy⟩
theorem attr_of {prog : Program} {w : World} {env : Env} {e : Expr} {f : Str} {pos : Pos} {s : Shared} {Q : Value → Shared → Prop} (hb : attributeBase e f env (eval e env) = eval e env)
    (h : wpAny (model prog w) A (eval e env) (fun o s₁ => wpAny (model prog w) A (getAttr o f true) Q E s₁) E s) : wpAny (model prog w) A (eval (.Attribute e f pos) env) Q E s :=
  Attribute_any_ h (by rw [arm_eval_Attribute, hb])
end
def tFld (K : PySem.W.Frag) (ta : TE) (f : Str) : TE := fun σ H Q => ta σ H fun x H1 => ∃ a C dx fs v, x = .ref a ∧ H1 a = some (.ins C dx fs) ∧ Cls K C ∧ NoAttr K C f ∧ fs.lookup f = some v ∧ Q v H1
def sFld (K : PySem.W.Frag) (ta tv : TE) (f : Str) : TS := fun D σ H => tv σ H fun y H1 => ta σ H1 fun x H2 => ∃ a C dx fs, x = .ref a ∧ H2 a = some (.ins C dx fs) ∧ Cls K C ∧ NoAttr K C f ∧ fs.length < 1000 ∧
  D.nx σ (upd H2 a (.ins C dx (putF f y fs)))
def InOp (X : Cx) (op : Operator) (rd : V → V → Hp → VK → Prop) : Prop :=
  ∀ (pins : List (Addr × Obj)) (s : Shared) (σ : St) (H : Hp) (x y : V) (u v : Value) (Q : VK), Inv X pins σ H s → RelV x u → RelV y v → rd x y H Q → wpAny (model X.prog X.w) X.A (inplaceOp op u v) (EP X pins σ Q) X.xe s
def sFldAug (K : PySem.W.Frag) (ta tv : TE) (rd : V → V → Hp → VK → Prop) (f : Str) : TS := fun D σ H => ta σ H fun x H1 => ∃ a C dx fs v, x = .ref a ∧ H1 a = some (.ins C dx fs) ∧ Cls K C ∧ NoAttr K C f ∧ fs.lookup f = some v ∧
  tv σ H1 fun y H2 => rd v y H2 fun z H3 => ∃ dx' fs', H3 a = some (.ins C dx' fs') ∧ fs'.length < 1000 ∧ D.nx σ (upd H3 a (.ins C dx' (putF f z fs')))
section
variable {X : Cx} {o e value : Expr} {f : Str} {pos pos' tpos : Pos} {ta tv : TE}
theorem pe_fld (he : PE X e ta) (hb : attributeBase e f X.env (eval e X.env) = eval e X.env) : PE X (.Attribute e f pos) (tFld X.K ta f) := by
  intro pins s σ H Q I h
  refine attr_of hb (thn (he pins s σ H _ I h) fun u s1 ⟨x, H1, I1, rx, a, C, dx, fs, v, ex, ea, c, n, l, q⟩ => ?_)
  subst ex
  obtain rfl : u = Value.ref a := rx
  exact getattr_ok I1 ea c n l fun u' s2 I2 ru => ⟨v, H1, I2, ru, q⟩
theorem ps_fld (ha : PE X o ta) (hv : PE X value tv) (hs : swapsWith value (some (.Attribute o f pos')) pos.line X.env = pure false) : PS X (.Assign [.Attribute o f pos'] value pos) (sFld X.K ta tv f) := by
  intro pins s σ H D I h
  refine plainObj_wpAny_Assign_Attribute (thn (hv pins s σ H _ I h) fun u s1 ⟨y, H1, I1, ry, q⟩ => thn (ha pins s1 σ H1 _ I1 q) fun ov s2 ⟨x, H2, I2, rx, a, C, dx, fs, ex, ea, c, n, l, q2⟩ => ?_) hs
  subst ex
  obtain rfl : ov = Value.ref a := rx
  exact setattr_ok I2 ea c n l ry fun s3 I3 => ⟨σ, _, I3, q2⟩
theorem ps_fldaug {op : Operator} {rd : V → V → Hp → VK → Prop} (ha : PE X o ta) (hv : PE X value tv) (hop : InOp X op rd) : PS X (.AugAssign (.Attribute o f tpos) op value pos) (sFldAug X.K ta tv rd f) := by
  intro pins s σ H D I h
  refine wpAny_AugAssign_AttributeAny (thn (ha pins s σ H _ I h) fun ov s1 ⟨x, H1, I1, rx, a, C, dx, fs, v, ex, ea, c, n, l, q⟩ => ?_)
  subst ex
  obtain rfl : ov = Value.ref a := rx
  refine getattr_ok I1 ea c n l fun u s2 I2 ru => thn (hv pins s2 σ H1 _ I2 q) fun w3 s3 ⟨y, H2, I3, ry, q3⟩ => thn (hop pins s3 σ H2 v y u w3 _ I3 ru ry q3) fun w4 s4 ⟨z, H3, I4, rz, dx', fs', ea', l', q4⟩ => ?_
  exact setattr_ok I4 ea' c n l' rz fun s5 I5 => ⟨σ, _, I5, q4⟩
def rAdd : V → V → Hp → VK → Prop := fun x y H Q => ∃ i j, x = .int i ∧ y = .int j ∧ Q (.int (i + j)) H
theorem in_add : InOp X .Add rAdd := by
  rintro pins s σ H x y u v Q I rx ry ⟨i, j, rfl, rfl, q⟩
  obtain ⟨t, rfl⟩ := (show ∃ t, u = Value.int i t from rx)
  obtain ⟨t', rfl⟩ := (show ∃ t', v = Value.int j t' from ry)
  exact PyProof.Rows.iadd_int ⟨.int (i + j), H, I.tok _, ⟨_, rfl⟩, q⟩
end
section
variable {X : Cx} {pins : List (Addr × Obj)} {σ : St} {H : Hp} {s : Shared} {A : Around} {E : Value → Shared → Prop} {Q : Value → Shared → Prop} {c : Value} {b : Bool}
inductive TyOf (K : PySem.W.Frag) (H : Hp) : V → Value → Prop where
  | non : TyOf K H .non (.type "NoneType")
  | bl (x : Bool) : TyOf K H (.bl x) (.type "bool")
  | int (i : Int) : TyOf K H (.int i) (.type "int")
  | str (x : Str) : TyOf K H (.str x) (.type "str")
  | flt (x : UInt64) : TyOf K H (.flt x) (.type "float")
  | lst {a : Addr} {xs : List V} (e : H a = some (.lst xs)) : TyOf K H (.ref a) (.type "list")
  | frz {a : Addr} {o : Obj} {xs : List V} (e : H a = some (.frz o (.lst xs))) : TyOf K H (.ref a) (.type "list")
  | tup {a : Addr} {xs : List V} (e : H a = some (.tup xs)) : TyOf K H (.ref a) (.type "tuple")
  | dK {a : Addr} {kvs : List (Key × V)} (e : H a = some (.dK kvs)) : TyOf K H (.ref a) (.type "dict")
  | dT {a : Addr} {kvs : List (List Key × V)} (e : H a = some (.dT kvs)) : TyOf K H (.ref a) (.type "dict")
  | ins {a C dx : Addr} {fs : List (Str × V)} (e : H a = some (.ins C dx fs)) (cl : Cls K C) (ha : PySem.W.findIn K (.ref C) "__class__" = some (some (.builtin "object.__class__")))
      (hn : PySem.W.specialIn K (.builtin "object.__class__") "__get__" = some (some (.builtin "getset_descriptor.__get__"))) (htk : PySem.W.takesIn K (.builtin "object.__class__") = some true)
      (hm : PySem.W.mroIn K C (.type "object") = some true) : TyOf K H (.ref a) (.ref C)
theorem isinst_ok {x : V} {u t : Value} (I : Inv X pins σ H s) (rx : RelV x u) (ty : TyOf X.K H x t) (e : PySem.W.kitOne X.K t c = some b) (h : ∀ tk, Q (.bool b) { s with toks := tk }) :
    wpAny (model X.prog X.w) A (call (.builtin "isinstance") [u, c]) Q E s := by
  cases ty with
  | non => cases (show u = Value.none from rx); exact PySem.W.kia_one PySem.W.kitx_none I.kIn True.intro e (fun z => nomatch z) h
  | bl y => cases (show u = Value.bool y from rx); exact PySem.W.kia_one PySem.W.kitx_bool I.kIn True.intro e (fun z => nomatch z) h
  | int i => obtain ⟨t, q⟩ := (show ∃ t, u = Value.int i t from rx); cases q; exact PySem.W.kia_one PySem.W.kitx_int I.kIn True.intro e (fun z => nomatch z) h
  | str y => obtain ⟨t, q⟩ := (show ∃ t, u = Value.str y t from rx); cases q; exact PySem.W.kia_one PySem.W.kitx_str I.kIn True.intro e (fun z => nomatch z) h
  | flt y => obtain ⟨t, q⟩ := (show ∃ t, u = Value.float y t from rx); cases q; exact PySem.W.kia_one PySem.W.kitx_float I.kIn True.intro e (fun z => nomatch z) h
  | @lst a xs ea =>
    cases (show u = Value.ref a from rx)
    obtain ⟨_, _, n, _, h1⟩ := (show ObjOk X.prog X.w H s.heap a (.lst xs) from I.hok a _ ea)
    exact PySem.W.kia_one PySem.W.kitx_list I.kIn ⟨_, h1, rfl⟩ e (fun z => nomatch z) h
  | @frz a ob xs ea =>
    cases (show u = Value.ref a from rx)
    obtain ⟨_, _, _, n, _, h1⟩ := (show ObjOk X.prog X.w H s.heap a (.frz ob (.lst xs)) from I.hok a _ ea)
    exact PySem.W.kia_one PySem.W.kitx_list I.kIn ⟨_, h1, rfl⟩ e (fun z => nomatch z) h
  | @tup a xs ea =>
    cases (show u = Value.ref a from rx)
    obtain ⟨_, _, _, p⟩ := (show ObjOk X.prog X.w H s.heap a (.tup xs) from I.hok a _ ea)
    obtain ⟨o, h1, h2, _⟩ := p
    exact PySem.W.kia_one PySem.W.kitx_tuple I.kIn ⟨o, h1, h2⟩ e (fun z => nomatch z) h
  | @dK a kvs ea =>
    cases (show u = Value.ref a from rx)
    obtain ⟨_, _, vs, _, p⟩ := (show ObjOk X.prog X.w H s.heap a (.dK kvs) from I.hok a _ ea)
    obtain ⟨o, es, ep, h1, h2, _⟩ := p
    exact PySem.W.kia_one PySem.W.kitx_dict I.kIn ⟨o, h1, h2.1⟩ e (fun z => nomatch z) h
  | @dT a kvs ea =>
    cases (show u = Value.ref a from rx)
    obtain ⟨_, _, xs, _, o, es, ep, h1, h2, _⟩ := (show ObjOk X.prog X.w H s.heap a (.dT kvs) from I.hok a _ ea)
    exact PySem.W.kia_one PySem.W.kitx_dict I.kIn ⟨o, h1, h2.1⟩ e (fun z => nomatch z) h
  | @ins a C dx fs ea cl ha hn htk hm =>
    cases (show u = Value.ref a from rx)
    obtain ⟨mA, O, _⟩ := ins_get I.hok ea
    obtain ⟨od, J, _⟩ := O.look
    exact PySem.W.kia_one (PySem.W.kitx_own (cl.get _) cl.hd ha hn htk hm) I.kIn J e (fun z => nomatch z) h
end
end L2
namespace L2
open PySem PySem.Spec PyProof.Rows
structure Room (k : Nat) (A : Around) : Prop where
  hd : A.handled = none
  dp : A.depth + 3 * k + 5 < recursionLimit
  un : A.units + 16 * k + 200 < cLine
theorem Room.mono {j k : Nat} {A : Around} (r : Room k A) (h : j ≤ k) : Room j A := ⟨r.hd, by have := r.dp; omega, by have := r.un; omega⟩
theorem Room.deeper {k : Nat} {A : Around} (r : Room (k + 1) A) (env : Env) : Room k (A.deeper env) :=
  ⟨r.hd, by have := r.dp; show A.depth + 1 + 3 * k + 5 < _; omega, by have := r.un; show A.units + 3 + 16 * k + 200 < _; omega⟩
theorem Room.in1 {k : Nat} {A : Around} (r : Room (k + 1) A) : Room k A.in1 :=
  ⟨r.hd, by have := r.dp; show A.depth + 3 * k + 5 < _; omega, by have := r.un; show A.units + 1 + 16 * k + 200 < _; omega⟩
theorem make_depth {A : Around} {C : Addr} {us : List Value} {kw : List (Str × Value)} : (A.under (.builtin "type.__call__" ⟨.ref C :: us, kw⟩)).depth = A.depth + 1 := by
  first | rfl | simp [Around.under, Code.weight, Code.isCreation, Code.isGuard, Code.isCaller, Code.frames, Code.isFrame, guardIds]
theorem make_units {A : Around} {C : Addr} {us : List Value} {kw : List (Str × Value)} : (A.under (.builtin "type.__call__" ⟨.ref C :: us, kw⟩)).units = A.units + 1 := by
  first | rfl | simp [Around.under, Code.cUnits, Code.frames, Code.isFrame]
theorem Room.make {k : Nat} {A : Around} (r : Room (k + 1) A) (C : Addr) (us : List Value) (kw : List (Str × Value)) : Room k (A.under (.builtin "type.__call__" ⟨.ref C :: us, kw⟩)) :=
  ⟨r.hd, by have := r.dp; rw [make_depth]; omega, by have := r.un; rw [make_units]; omega⟩
theorem Room.depth {k : Nat} {A : Around} (r : Room k A) : A.depth < recursionLimit := by have := r.dp; omega
theorem Room.units {k : Nat} {A : Around} (r : Room k A) : A.units + 64 < cLine := by have := r.un; omega
def tNil : TA := fun _ H Q => Q [] H
def tCons (ta : TE) (tr : TA) : TA := fun σ H Q => ta σ H fun x H1 => tr σ H1 fun xs H2 => Q (x :: xs) H2
section
variable {X : Cx} {e : Expr} {es : List Expr} {te : TE} {t : TA} {pos : Pos}
theorem pa_nil : PA X [] tNil := fun _ _ _ _ H Q I h => Calls.spliced_nil ⟨[], H, I, .nil, h⟩
theorem pa_cons (ha : PE X e te) (hr : PA X es t) (hs : starEach (e :: es) X.env = (false, eval e X.env) :: starEach es X.env := by rfl) : PA X (e :: es) (tCons te t) := by
  intro pos pins s σ H Q I h
  rw [hs]
  show wpAny _ _ (spliced ((false, eval e X.env) :: backTo pos (starEach es X.env))) _ _ s
  refine Calls.spliced_cons (thn (ha pins s σ H _ I h) fun u s1 ⟨x, H1, I1, r1, q1⟩ => ?_)
  exact thn (hr pos pins s1 σ H1 _ I1 q1) fun us s2 ⟨xs, H2, I2, r2, q2⟩ => ⟨x :: xs, H2, I2, .cons r1 r2, q2⟩
def tTup (t : TA) : TE := fun σ H Q => t σ H fun xs H1 => xs.length ≤ sizeLine ∧ ∀ p, H1 p = none → Q (.ref p) (upd H1 p (.tup xs))
def tLst (t : TA) : TE := fun σ H Q => t σ H fun xs H1 => xs.length ≤ sizeLine ∧ ∀ p, H1 p = none → Q (.ref p) (upd H1 p (.lst xs))
theorem pe_tup {x1} (h : PA X es t) : PE X (.Tuple es x1 pos) (tTup t) := by
  intro pins s σ H Q I hq
  refine wpAny_Tuple_spliced (thn (h pos pins s σ H _ I hq) fun us s1 ⟨xs, H1, I1, r, z, q⟩ => ⟨by rw [← r.length]; exact z, ?_⟩)
  have hf : H1 s1.heap.objs.size = none := I1.hok.fresh (Nat.le_refl _)
  refine ⟨.ref s1.heap.objs.size, upd H1 s1.heap.objs.size (.tup xs), I1.laid (t' := s1.toks) (fun b u e => Heap.get?_push_of_some _ e) (Nat.le_refl _) ?_, rfl, q _ hf⟩
  exact ⟨z, us, r, ⟨_, Heap.get?_push_size _ rfl, rfl, _, rfl⟩⟩
theorem pe_lst (h : PA X es t) : PE X (.List es pos) (tLst t) := by
  intro pins s σ H Q I hq
  refine wpAny_List_spliced (thn (h pos pins s σ H _ I hq) fun us s1 ⟨xs, H1, I1, r, z, q⟩ => ⟨by rw [← r.length]; exact z, ?_⟩)
  have hf : H1 s1.heap.objs.size = none := I1.hok.fresh (Nat.le_refl _)
  refine ⟨.ref s1.heap.objs.size, upd H1 s1.heap.objs.size (.lst xs), I1.laid (t' := s1.toks) (fun b u e => Heap.get?_push_of_some _ e) (Nat.le_refl _) ?_, rfl, q _ hf⟩
  exact ⟨z, us, 0, r, Heap.get?_push_size _ rfl⟩
end
abbrev Sp := List V → Hp → VK → XK → Prop
abbrev CXT := List Env → Hp → Shared → XK → Value → Shared → Prop
structure Env0 (P : Program) (w : World) (K : PySem.W.Frag) (mg : Str → Option Value) (base : Heap) (A : Around) (outer : List Env) (s : Shared) (H : Hp) : Prop where
  frames : A.frames = some outer
  mod : Mod K mg base
  bs : ∀ b o, base.get? b = some o → s.heap.get? b = some o ∧ H b = none
  bsz : base.objs.size ≤ s.heap.objs.size
  funs : s.heap.FunFrames base outer
  frf : ∀ b ∈ frs outer, H b = none
  hok : HOk P w H s.heap
  bare : AllBare s.gens
def CE (outer : List Env) (P : Program) (w : World) (H : Hp) (s : Shared) (Q : VK) (u : Value) (s' : Shared) : Prop :=
  ∃ v H', s'.os = s.os ∧ AllBare s'.gens ∧ Un (frs outer) [] H H' s.heap s'.heap ∧ HOk P w H' s'.heap ∧ RelV v u ∧ Q v H'
def CR (CX : CXT) (outer : List Env) (P : Program) (w : World) (H : Hp) (s : Shared) (Q : VK) (E : XK) (r : Result) (s' : Shared) : Prop :=
  match r with
  | .ok (.ret u) => CE outer P w H s Q u s'
  | .ok _ => False
  | .error e => CX outer H s E e s'
structure FnOk (P : Program) (w : World) (K : PySem.W.Frag) (mg : Str → Option Value) (base : Heap) (CX : CXT) (k : Nat) (f : Addr) (fd : FuncData) (ps : List Str) (sp : Sp) : Prop where
  len : ∀ vs H Q E, sp vs H Q E → vs.length = ps.length
  run : ∀ (A : Around) (outer : List Env) (s : Shared) (H : Hp) (args : Args) (us : List Value) (vs : List V) (Q : VK) (E : XK), Room k A → Env0 P w K mg base A outer s H → BindsTo s fd args (ps.zip us) → Vals vs us → sp vs H Q E →
    codeAny (model P w) A (.call (.ref f) args) (CR CX outer P w H s Q E) s
theorem FnOk.mono {P : Program} {w : World} {K : PySem.W.Frag} {mg : Str → Option Value} {base : Heap} {CX : CXT} {j k : Nat} {f : Addr} {fd : FuncData} {ps : List Str} {sp : Sp} (F : FnOk P w K mg base CX j f fd ps sp) (h : j ≤ k) :
    FnOk P w K mg base CX k f fd ps sp := ⟨F.len, fun A outer s H args us vs Q E hr => F.run A outer s H args us vs Q E (hr.mono h)⟩
theorem Env0.make {P : Program} {w : World} {K : PySem.W.Frag} {mg : Str → Option Value} {base : Heap} {A : Around} {outer : List Env} {s : Shared} {H : Hp} (e : Env0 P w K mg base A outer s H) (C : Addr) (us : List Value) (kw : List (Str × Value)) :
    Env0 P w K mg base (A.under (.builtin "type.__call__" ⟨.ref C :: us, kw⟩)) outer s H := ⟨by first | exact e.frames | (simpa [Around.under, Code.envs, Code.isFrame, pushEnvs] using e.frames), e.mod, e.bs, e.bsz, e.funs, e.frf, e.hok, e.bare⟩
theorem Env0.in1 {P : Program} {w : World} {K : PySem.W.Frag} {mg : Str → Option Value} {base : Heap} {A : Around} {outer : List Env} {s : Shared} {H : Hp} (e : Env0 P w K mg base A outer s H) :
    Env0 P w K mg base A.in1 outer s H := ⟨e.frames, e.mod, e.bs, e.bsz, e.funs, e.frf, e.hok, e.bare⟩
section
variable {X : Cx} {pins : List (Addr × Obj)} {σ : St} {H : Hp} {s s' : Shared}
theorem Inv.env0 (I : Inv X pins σ H s) : Env0 X.prog X.w X.K X.mg X.base X.A X.stack s H :=
  ⟨I.ok.frames, I.ok.mod, I.bs, Nat.le_trans I.ok.bsz I.sz, I.stack, I.stkFree, I.hok, I.bare⟩
theorem Inv.after {Q : VK} {u : Value} (I : Inv X pins σ H s) (h : CE X.stack X.prog X.w H s Q u s') : EP X pins σ Q u s' := by
  obtain ⟨v, H', os, bare, un, hok, r, q⟩ := h
  obtain ⟨hh, g, d, t, os'⟩ := s'
  obtain rfl : os' = s.os := os
  exact ⟨v, H', I.call (h' := hh) (g' := g) (d' := d) (t' := t) (ch := []) un hok bare (fun b z => absurd z (by simp)), r, q⟩
end
def tCall (sp : Sp) (dvs : List V) (E : XK) (t : TA) : TE := fun σ H Q => t σ H fun vs H1 => sp (vs ++ dvs) H1 Q E
def tMeth (C : Addr) (m : Str) (sp : Sp) (dvs : List V) (E : XK) (ta : TE) (t : TA) : TE := fun σ H Q => ta σ H fun x H1 => ∃ a dx fs, x = .ref a ∧ H1 a = some (.ins C dx fs) ∧ fs.lookup m = none ∧
  t σ H1 fun vs H2 => sp (x :: (vs ++ dvs)) H2 Q E
def tMake (C : Addr) (sp : Sp) (dvs : List V) (E : XK) (t : TA) : TE := fun σ H Q => t σ H fun vs H1 => ∀ x dx, H1 x = none → H1 dx = none → dx ≠ x →
  sp (.ref x :: (vs ++ dvs)) (upd (upd H1 dx (.own x)) x (.ins C dx [])) (fun v H2 => v = .non ∧ Q (.ref x) H2) E
def Binds (K : PySem.W.Frag) (fd : FuncData) (ps : List Str) (ds : List Value) : Prop :=
  ∀ (s : Shared) (us : List Value), K.In s.heap → (us ++ ds).length = ps.length → BindsTo s fd ⟨us, []⟩ (ps.zip (us ++ ds))
theorem Binds.all {K : PySem.W.Frag} {fd : FuncData} {ps : List Str} (h : ∀ us : List Value, us.length = ps.length → bindArgs fd ⟨us, []⟩ = pure (ps.zip us)) : Binds K fd ps [] := fun s us _ hl => by
  rw [List.append_nil] at hl ⊢
  exact .of_eq (h us hl)
def Passes (CX : CXT) (X : Cx) (E : XK) : Prop := ∀ (pins : List (Addr × Obj)) (σ : St) (H : Hp) (s : Shared) (e : Value) (s' : Shared), Inv X pins σ H s → CX X.stack H s E e s' → X.xe e s'
section
variable {X : Cx} {CX : CXT} {k : Nat} {f C : Addr} {fd : FuncData} {ps : List Str} {sp : Sp} {dvs : List V} {ds : List Value} {E : XK} {x m : Str} {p pos apos : Pos} {e o : Expr} {es : List Expr} {ta : TE} {t : TA}
theorem run_fn {pins : List (Addr × Obj)} {σ : St} {H : Hp} {s : Shared} {Q : VK} {us : List Value} {vs : List V} (F : FnOk X.prog X.w X.K X.mg X.base CX k f fd ps sp) (hr : Room k X.A) (hb : Binds X.K fd ps ds) (hd : Vals dvs ds) (hx : Passes CX X E)
    (I : Inv X pins σ H s) (r : Vals vs us) (h : sp (vs ++ dvs) H Q E) : wpAny (model X.prog X.w) X.A (call (.ref f) us) (EP X pins σ Q) X.xe s := by
  have r2 : Vals (vs ++ dvs) (us ++ ds) := r.append hd
  have hl : (us ++ ds).length = ps.length := by rw [← r2.length]; exact F.len _ _ _ _ h
  refine wpAny_call (codeAny_mono (F.run X.A X.stack s H ⟨us, []⟩ (us ++ ds) (vs ++ dvs) Q E hr I.env0 (hb s us I.kIn hl) r2 h) fun r s' hq => ?_)
  cases r with
  | error e => exact hx pins σ H s e s' I hq
  | ok fl =>
    cases fl with
    | ret u => exact I.after hq
    | next => exact False.elim hq
    | brk => exact False.elim hq
    | cont => exact False.elim hq
theorem pe_call (F : FnOk X.prog X.w X.K X.mg X.base CX k f fd ps sp) (hr : Room k X.A) (hg : Gl X x) (hm : X.mg x = some (.ref f)) (hk : PySem.W.keepIn X.K (.ref f) = true) (hb : Binds X.K fd ps ds) (hd : Vals dvs ds) (hx : Passes CX X E)
    (ha : PA X (e :: es) t) (hdb : (x == ("__debug__" : Str)) = false := by decide) (he : starEach (e :: es) X.env = (false, eval e X.env) :: starEach es X.env := by rfl) (hpl : (backTo pos (starEach es X.env)).any (·.1) = false := by rfl) :
    PE X (.Call (.Name x p) (e :: es) [] pos) (tCall sp dvs E t) := by
  intro pins s σ H Q I h
  refine wpAny_Call_Name_kw (ld_glob I hg hm ?_ hdb)
  refine PySem.W.callWith_K (h₀ := X.base) I.ok.mod.kin hk (thn (ha pos pins s σ H _ I h) fun us s1 ⟨vs, H1, I1, r, q⟩ => ⟨I1.kIn, ?_⟩) he hpl
  exact run_fn F hr hb hd hx I1 r q
theorem pe_meth {pl : Sem Bool} (he : PE X o ta) (c : Cls X.K C) (hm : Meth X.K C m f) (F : FnOk X.prog X.w X.K X.mg X.base CX k f fd ps sp) (hr : Room k X.A) (hb : Binds X.K fd ps ds) (hd : Vals dvs ds) (hx : Passes CX X E) (ha : PA X (e :: es) t)
    (hst : starEach (e :: es) X.env = (false, eval e X.env) :: starEach es X.env := by rfl) (hpl : (backTo pos (starEach es X.env)).any (·.1) = false := by rfl)
    (ht : eval (.Call (.Attribute o m apos) (e :: es) [] pos) X.env = (do
      let ov ← eval o X.env
      standAt apos.atName
      let (f, first) ← holding [ov] (getMethod ov m pl)
      callWith pos f first (backTo pos (starEach (e :: es) X.env)) (backToKw pos (keywordEach [] X.env))) := by rfl) :
    PE X (.Call (.Attribute o m apos) (e :: es) [] pos) (tMeth C m sp dvs E ta t) := by
  intro pins s σ H Q I h
  refine PySem.W.methodCall_KW (pl := pl) (thn (he pins s σ H _ I h) fun u s1 ⟨x, H1, I1, rx, a, dx, fs, ex, ea, l, q⟩ => ?_) ht
  subst ex
  obtain rfl : u = Value.ref a := rx
  refine getmeth_ok I1 ea c hm l ?_
  refine PySem.W.callWith_K (first := [.ref a]) (h₀ := X.base) I.ok.mod.kin hm.kp (thn (ha pos pins s1 σ H1 _ I1 q) fun us s2 ⟨vs, H2, I2, r, q2⟩ => ⟨I2.kIn, ?_⟩) hst hpl
  exact run_fn (us := .ref a :: us) (vs := .ref a :: vs) F hr hb hd hx I2 (.cons rfl r) q2
structure Mk (K : PySem.W.Frag) (C f : Addr) : Prop where
  makes : PySem.W.makesIn K C = true
  init : PySem.W.findIn K (.ref C) "__init__" = some (some (.ref f))
  fn : PySem.W.isFn K (.ref f) = true
  kp : PySem.W.keepIn K (.ref C) = true
theorem run_make {pins : List (Addr × Obj)} {σ : St} {H : Hp} {s : Shared} {Q : VK} {us : List Value} {vs : List V} (M : Mk X.K C f) (F : FnOk X.prog X.w X.K X.mg X.base CX k f fd ps sp) (hr : Room (k + 1) X.A) (hb : Binds X.K fd ps ds) (hd : Vals dvs ds)
    (hx : Passes CX X E) (I : Inv X pins σ H s) (r : Vals vs us)
    (h : ∀ x dx, H x = none → H dx = none → dx ≠ x → sp (.ref x :: (vs ++ dvs)) (upd (upd H dx (.own x)) x (.ins C dx [])) (fun v H2 => v = .non ∧ Q (.ref x) H2) E) :
    wpAny (model X.prog X.w) X.A (call (.ref C) us) (EP X pins σ Q) X.xe s := by
  have hq := h (s.heap.objs.size + 1) s.heap.objs.size (I.hok.fresh (Nat.le_succ _)) (I.hok.fresh (Nat.le_refl _)) (Nat.ne_of_lt (Nat.lt_succ_self _))
  have I2 := Inv.made (C := C) I
  have r2 : Vals (V.ref (s.heap.objs.size + 1) :: (vs ++ dvs)) (Value.ref (s.heap.objs.size + 1) :: (us ++ ds)) := .cons rfl (r.append hd)
  have hl : (Value.ref (s.heap.objs.size + 1) :: us ++ ds).length = ps.length := by
    have e := r2.length
    rw [F.len _ _ _ _ hq] at e
    exact e.symm
  refine wpAny_call (make_map (f := f) I.kIn M.makes M.init (beq_iff_eq.mp M.fn) (codeAny_mono (F.run _ X.stack _ _ ⟨Value.ref (s.heap.objs.size + 1) :: us, []⟩ (Value.ref (s.heap.objs.size + 1) :: (us ++ ds)) _ _ E (hr.make C us [])
    (I2.env0.make C us []) (hb _ (Value.ref (s.heap.objs.size + 1) :: us) I2.kIn hl) r2 hq) fun r s' hq' => ?_))
  cases r with
  | error e => exact hx pins σ _ _ e s' I2 hq'
  | ok fl =>
    cases fl with
    | ret u =>
      obtain ⟨v, H', I3, rv, ev, q3⟩ := I2.after hq'
      subst ev
      exact ⟨rv, ⟨V.ref (s.heap.objs.size + 1), H', I3, rfl, q3⟩⟩
    | next => exact False.elim hq'
    | brk => exact False.elim hq'
    | cont => exact False.elim hq'
theorem pe_make (M : Mk X.K C f) (F : FnOk X.prog X.w X.K X.mg X.base CX k f fd ps sp) (hr : Room (k + 1) X.A) (hg : Gl X x) (hm : X.mg x = some (.ref C)) (hb : Binds X.K fd ps ds) (hd : Vals dvs ds) (hx : Passes CX X E)
    (ha : PA X (e :: es) t) (hdb : (x == ("__debug__" : Str)) = false := by decide) (he : starEach (e :: es) X.env = (false, eval e X.env) :: starEach es X.env := by rfl) (hpl : (backTo pos (starEach es X.env)).any (·.1) = false := by rfl) :
    PE X (.Call (.Name x p) (e :: es) [] pos) (tMake C sp dvs E t) := by
  intro pins s σ H Q I h
  refine wpAny_Call_Name_kw (ld_glob I hg hm ?_ hdb)
  refine PySem.W.callWith_K (h₀ := X.base) I.ok.mod.kin M.kp (thn (ha pos pins s σ H _ I h) fun us s1 ⟨vs, H1, I1, r, q⟩ => ⟨I1.kIn, ?_⟩) he hpl
  exact run_make M F hr hb hd hx I1 r q
end
section
variable {X : Cx} {CX : CXT} {k : Nat} {f C : Addr} {fd : FuncData} {ps ks : List Str} {sp : Sp} {E : XK} {x m : Str} {p pos apos kpos : Pos} {e o : Expr} {es : List Expr} {kws : List Keyword} {te ta : TE} {t tk : TA} {nm : Option Str}
structure KBinds (K : PySem.W.Frag) (fd : FuncData) (ps ks : List Str) (g : List Value → List Value → List Value) (gV : List V → List V → List V) : Prop where
  to : ∀ (s : Shared) (us ws : List Value), K.In s.heap → (g us ws).length = ps.length → BindsTo s fd ⟨us, ks.zip ws⟩ (ps.zip (g us ws))
  rel : ∀ {vs : List V} {us : List Value} {zs : List V} {ws : List Value}, Vals vs us → Vals zs ws → Vals (gV vs zs) (g us ws)
variable {g : List Value → List Value → List Value} {gV : List V → List V → List V}
end
structure FnScope (N P : List Str) (sc : Scope) : Prop where
  kind : sc.kind = .function
  co : sc.isCoroutine = false
  gen : sc.isGenerator = false
  nd : N.Nodup
  pre : N.take P.length = P
  par : ∀ x ∈ P, sc.names.lookup x = some .local ∨ sc.names.lookup x = some .cell
  nofree : ∀ y ∈ sc.names, y.2 ≠ .free
theorem bindL_out {kindOf : Str → Option NameKind} {x : Str} : ∀ {binds : List (Str × Value)} {m : Str → Option Value}, (∀ v, (x, v) ∉ binds) → bindL kindOf binds m x = m x
  | [], _, _ => rfl
  | (n, v) :: r, m, h => by
    unfold bindL
    rw [bindL_out fun w hw => h w (List.mem_cons_of_mem _ hw)]
    split
    · have : x ≠ n := by rintro rfl; exact h v List.mem_cons_self
      simp [this]
    · rfl
theorem bindC_out {kindOf : Str → Option NameKind} {x : Str} : ∀ {binds : List (Str × Value)} {m : Str → Option Value}, (∀ v, (x, v) ∉ binds) → bindC kindOf binds m x = m x
  | [], _, _ => rfl
  | (n, v) :: r, m, h => by
    unfold bindC
    rw [bindC_out fun w hw => h w (List.mem_cons_of_mem _ hw)]
    split
    · rfl
    · have : x ≠ n := by rintro rfl; exact h v List.mem_cons_self
      simp [this]
theorem bindL_get {kindOf : Str → Option NameKind} {x : Str} {v : Value} : ∀ {P : List Str} {vs : List Value} {i : Nat} {m : Str → Option Value}, P.Nodup → P[i]? = some x → vs[i]? = some v → kindOf x = some .local →
    bindL kindOf (P.zip vs) m x = some v
  | [], _, _, _, _, h, _, _ => by simp at h
  | _ :: _, [], _, _, _, _, h, _ => by simp at h
  | p :: P, w :: vs, 0, m, nd, h1, h2, hk => by
    simp at h1 h2; subst h1; subst h2
    show bindL kindOf ((p, w) :: P.zip vs) m p = _
    unfold bindL
    rw [bindL_out fun v hv => (List.nodup_cons.mp nd).1 (List.of_mem_zip hv).1, if_pos hk]
    simp
  | p :: P, w :: vs, i + 1, m, nd, h1, h2, hk => by
    show bindL kindOf ((p, w) :: P.zip vs) m x = _
    unfold bindL
    exact bindL_get (i := i) (List.nodup_cons.mp nd).2 (by simpa using h1) (by simpa using h2) hk
theorem bindC_get {kindOf : Str → Option NameKind} {x : Str} {v : Value} : ∀ {P : List Str} {vs : List Value} {i : Nat} {m : Str → Option Value}, P.Nodup → P[i]? = some x → vs[i]? = some v → kindOf x ≠ some .local →
    bindC kindOf (P.zip vs) m x = some v
  | [], _, _, _, _, h, _, _ => by simp at h
  | _ :: _, [], _, _, _, _, h, _ => by simp at h
  | p :: P, w :: vs, 0, m, nd, h1, h2, hk => by
    simp at h1 h2; subst h1; subst h2
    show bindC kindOf ((p, w) :: P.zip vs) m p = _
    unfold bindC
    rw [bindC_out fun v hv => (List.nodup_cons.mp nd).1 (List.of_mem_zip hv).1, if_neg hk]
    simp
  | p :: P, w :: vs, i + 1, m, nd, h1, h2, hk => by
    show bindC kindOf ((p, w) :: P.zip vs) m x = _
    unfold bindC
    exact bindC_get (i := i) (List.nodup_cons.mp nd).2 (by simpa using h1) (by simpa using h2) hk
def start (N : List Str) (vs : List V) : St := vs.map some ++ List.replicate (N.length - vs.length) none
def cxOf (CX : CXT) (P : Program) (w : World) (K : PySem.W.Frag) (mg : Str → Option Value) (base : Heap) (N : List Str) (qual : Str) (scope : Scope) (f : Addr) (cd : Value) (A : Around) (outer : List Env) (s : Shared) (H : Hp) (E : XK) : Cx where
  prog := P
  w := w
  K := K
  mg := mg
  base := base
  A := A.deeper (envOfC qual scope s.heap.objs.size f cd)
  N := N
  s_0 := s
  H_0 := H
  env := envOfC qual scope s.heap.objs.size f cd
  outer := outer
  stack := envOfC qual scope s.heap.objs.size f cd :: outer
  ex := []
  calm := true
  fn := fun _ => true
  pn := []
  xe := fun e s' => wpAny (model P w) (A.deeper (envOfC qual scope s.heap.objs.size f cd)) (leaving (envOfC qual scope s.heap.objs.size f cd) e) (fun _ s'' => CX outer H s E e s'') (fun e' s'' => CX outer H s E e' s'') s'
theorem cell_has {sc : Scope} {n : Nat} {x : Str} (h : sc.names.lookup x = some .cell) : ∃ c, (cellsFrom n sc.names []).lookup x = some c := by
  have q := PySem.W.cellsFrom_some sc.names n [] (.inl h)
  exact Option.isSome_iff_exists.mp q
theorem inv_start {CX : CXT} {P : Program} {w : World} {K : PySem.W.Frag} {mg : Str → Option Value} {base : Heap} {N ps : List Str} {qual : Str} {scope : Scope} {f : Addr} {cd : Value} {A : Around} {outer : List Env} {s s1 : Shared} {H : Hp} {E : XK} {us : List Value} {vs : List V}
    (S : FnScope N ps scope) (hd : A.handled = none) (e0 : Env0 P w K mg base A outer s H) (hl : vs.length = ps.length) (r : Vals vs us)
    (x : InCallC s s.heap.objs.size (bindL (envOfC qual scope s.heap.objs.size f cd).kindOf (ps.zip us) fun _ => none) (cellsFrom (s.heap.objs.size + 1) scope.names []) (bindC (envOfC qual scope s.heap.objs.size f cd).kindOf (ps.zip us) fun _ => none) s1) :
    Inv (cxOf CX P w K mg base N qual scope f cd A outer s H E) [] (start N vs) H s1 := by
  have hpl : ps.length ≤ N.length := by have := congrArg List.length S.pre; rw [List.length_take] at this; omega
  obtain ⟨h1, tk, rfl, hk⟩ := x.done
  have noA : ∀ b : Addr, b ∉ (cxOf CX P w K mg base N qual scope f cd A outer s H E).ex := fun b z => absurd (show b ∈ ([] : List Addr) from z) (by simp)
  refine ⟨⟨e0.mod, S.kind, rfl, rfl, Nat.le_refl _, fun y z c h1 h2 => ?_, fun y hy => ?_, fun y c _ h => ?_, fun _ => hd, Around.frames_deeper e0.frames, .inr ⟨rfl, rfl⟩, fun b z => absurd z (noA b), e0.bs, e0.bsz, fun b _ _ => noA b, fun b z => absurd z (noA b), e0.funs, e0.frf⟩,
    rfl, e0.bare, Un.kept hk, ⟨_, x.toInCall.ns, fun i y v h1 h2 h3 => ?_⟩, fun y c h => ⟨_, x.cell y c h⟩, e0.hok.fresh (Nat.le_refl _), fun y c h => ?_, fun p hp => absurd (show p ∈ ([] : List (Addr × Obj)) from hp) (by simp), e0.hok.kept hk, ?_⟩
  · exact name_of_addr x.apart (PySem.mem_of_lookup h1) (PySem.mem_of_lookup h2)
  · have hy : scope.names.lookup y = some .cell ∨ scope.names.lookup y = some .free := hy
    rcases hy with hy | hy
    · exact cell_has hy
    · exact absurd rfl (S.nofree _ (PySem.mem_of_lookup hy))
  · exact Nat.le_of_lt (x.above y c (PySem.mem_of_lookup h))
  · have hi : i < vs.length := by
      unfold start at h2
      by_cases hi : i < vs.length
      · exact hi
      · rw [List.getElem?_append_right (by simpa using hi)] at h2
        rw [List.getElem?_replicate] at h2
        split at h2 <;> cases h2
    have ha : vs[i]? = some v := by
      unfold start at h2
      rw [List.getElem?_append_left (by simpa using hi), List.getElem?_map] at h2
      cases e : vs[i]? with
      | none => rw [e] at h2; cases h2
      | some a => rw [e] at h2; cases h2; rfl
    obtain ⟨u, hu, rv⟩ := r.get ha
    have hp : ps[i]? = some y := by
      rw [← S.pre, List.getElem?_take_of_lt (by omega)]; exact h1
    have ndP : ps.Nodup := by rw [← S.pre]; exact S.nd.sublist (List.take_sublist _ _)
    refine ⟨u, rv, ?_⟩
    rcases S.par y (List.mem_of_getElem? hp) with k | k
    · exact .inl ⟨k, bindL_get ndP hp hu k⟩
    · obtain ⟨c, e⟩ := cell_has (n := s.heap.objs.size + 1) k
      refine .inr ⟨.inl k, c, e, ?_⟩
      have q := x.cell y c e
      rw [bindC_get ndP hp hu (by show scope.names.lookup y ≠ _; rw [k]; decide)] at q
      exact q
  · exact e0.hok.fresh (Nat.le_of_lt (x.above y c (PySem.mem_of_lookup h)))
  · unfold start
    show _ = N.length
    rw [List.length_append, List.length_map, List.length_replicate]
    omega
theorem fn_of {CX : CXT} {P : Program} {w : World} {K : PySem.W.Frag} {mg : Str → Option Value} {base : Heap} {k : Nat} {f : Addr} {name qual : Str} {params : Arguments} {body : List Stmt} {scope : Scope} {dV kV doc pm cdv ct oc : Value} {an od : Option Addr}
    {osl : Array (Option Value)} {N ps : List Str} {sp : Sp} (lk : K.lookup f = some ⟨oc, od, .func (PySem.W.fnOf name qual params body scope dV kV doc pm an cdv ct), osl⟩) (hcd : PySem.W.codeIn K cdv qual = true) (S : FnScope N ps scope)
    (len : ∀ vs H Q E, sp vs H Q E → vs.length = ps.length)
    (hbody : ∀ (A : Around) (outer : List Env) (s : Shared) (H : Hp) (vs : List V) (Q : VK) (E : XK), Room k (A.deeper (envOfC qual scope s.heap.objs.size f cdv)) → sp vs H Q E →
      ∃ t, PSs (cxOf CX P w K mg base N qual scope f cdv A outer s H E) body t ∧ t { nx := fun _ H' => Q .non H', rt := Q } (start N vs) H) :
    FnOk P w K mg base CX (k + 1) f (PySem.W.fnOf name qual params body scope dV kV doc pm an cdv ct) ps sp := by
  refine ⟨len, fun A outer s H args us vs Q E hr e0 hb r hsp => ?_⟩
  have hl := len _ _ _ _ hsp
  have KX : K.In s.heap := e0.mod.kin.keeps fun b o e => (e0.bs b o e).1
  have lim : s.heap.NoLimit := e0.mod.nolimit.keeps fun b o e => (e0.bs b o e).1
  have hkind : ∀ y ∈ ps.zip us, scope.names.lookup y.1 = some .local ∨ (scope.names.lookup y.1 = some .cell ∧ ((cellsFrom (s.heap.objs.size + 1) scope.names []).lookup y.1).isSome = true) := fun ⟨n, v⟩ hy => by
    rcases S.par n (List.of_mem_zip hy).1 with q | q
    · exact .inl q
    · exact .inr ⟨q, PySem.W.cellsFrom_some _ _ _ (.inl q)⟩
  refine codeAny_call_function hr.depth (KX _ _ lk) rfl S.co S.gen rfl (PySem.W.codeRec_of KX hcd) (hb _ _ _ _ ?_)
  refine wpAny_newFunctionEnv_cells S.kind hkind fun env he s1 x => ?_
  subst he
  refine ⟨lim.keeps x.toInCall.keep, codeAny_func ?_⟩
  obtain ⟨t, ht, hq⟩ := hbody A outer s H vs Q E (hr.deeper _) hsp
  have I : Inv (cxOf CX P w K mg base N qual scope f cdv A outer s H E) [] (start N vs) H s1 := inv_start S hr.hd e0 hl r x
  refine wpAny_mono (ht [] s1 (start N vs) H _ I hq) (fun fl s' hs => ?_) fun e s' hs => hs
  have fin : ∀ {σ' : St} {H' : Hp} {v : V} {u : Value}, Inv (cxOf CX P w K mg base N qual scope f cdv A outer s H E) [] σ' H' s' → RelV v u → Q v H' → CE outer P w H s Q u s' :=
    fun {σ' H' v u} J rv q => ⟨v, H', J.os, J.bare, J.base, J.hok, rv, q⟩
  cases fl with
  | ret u =>
    obtain ⟨v, σ', H', J, rv, q⟩ := hs
    exact fin J rv q
  | next =>
    obtain ⟨σ', H', J, q⟩ := hs
    exact fin (v := V.non) (u := Value.none) J rfl q
  | brk =>
    obtain ⟨_, _, _, q⟩ := hs
    exact False.elim q
  | cont =>
    obtain ⟨_, _, _, q⟩ := hs
    exact False.elim q
end L2
namespace L2
open PySem PySem.Spec PyProof.Rows
section
variable {X : Cx} {x : Str} {p pos : Pos} {e : Expr} {es : List Expr} {t : TA} {id T : String} {r : List V → Hp → VK → Prop}
def tCB (r : List V → Hp → VK → Prop) (t : TA) : TE := fun σ H Q => t σ H fun vs H1 => r vs H1 Q
theorem pe_callB (hc : CallR X (.builtin id) r) (hg : Gl X x) (hm : X.mg x = none) (hv : bootBuiltins x = some (.builtin id)) (ha : PA X (e :: es) t) (hn : x ≠ "__name__" := by decide) (hdb : (x == ("__debug__" : Str)) = false := by decide)
    (he : starEach (e :: es) X.env = (false, eval e X.env) :: starEach es X.env := by rfl) (hpl : (backTo pos (starEach es X.env)).any (·.1) = false := by rfl) : PE X (.Call (.Name x p) (e :: es) [] pos) (tCB r t) := by
  intro pins s σ H Q I h
  refine wpAny_Call_Name_kw (ld_blt I hg hm hv ?_ hn hdb)
  exact PyProof.Rows.callWith_builtin1 (thn (ha pos pins s σ H _ I h) fun us s1 ⟨vs, H1, I1, r1, q1⟩ => hc pins s1 σ H1 vs us Q I1 r1 q1) he hpl
theorem pe_callTy (hc : CallR X (.type T) r) (hg : Gl X x) (hm : X.mg x = none) (hv : bootBuiltins x = some (.type T)) (ha : PA X (e :: es) t) (hn : x ≠ "__name__" := by decide) (hdb : (x == ("__debug__" : Str)) = false := by decide)
    (he : starEach (e :: es) X.env = (false, eval e X.env) :: starEach es X.env := by rfl) (hpl : (backTo pos (starEach es X.env)).any (·.1) = false := by rfl) : PE X (.Call (.Name x p) (e :: es) [] pos) (tCB r t) := by
  intro pins s σ H Q I h
  refine wpAny_Call_Name_kw (ld_blt I hg hm hv ?_ hn hdb)
  exact PyProof.Rows.callWith_type1 (thn (ha pos pins s σ H _ I h) fun us s1 ⟨vs, H1, I1, r1, q1⟩ => hc pins s1 σ H1 vs us Q I1 r1 q1) he hpl
end
end L2
namespace HT
open PySem PyProof.Rows
section
open PySem.SeqAt
open PySem.AutoSeq1 (wpAny_loadPart')
open PySem.MeetsSeq PySem.MeetsSeq2 PySem.MeetsSeq3
end
section
variable {prog : Program} {w : World} {A : Around} {E : Value → Shared → Prop} {s : Shared}
theorem cat_tup {t b : Addr} {vs ws : List Value} {Q : Value → Shared → Prop} (ht : IsTup s.heap t vs.toArray) (hb : IsTup s.heap b ws.toArray) (hv : vs ≠ [])
    (h1 : ws = [] → Q (.ref t) s) (h2 : ws ≠ [] → Q (.ref s.heap.objs.size) { s with heap := s.heap.push { cls := .type "tuple", data := .seq (vs ++ ws).toArray } })
    (hsz : vs.length + ws.length ≤ sizeLine) : wpAny (model prog w) A (binaryOp .Add (.ref t) (.ref b)) Q E s := by
  obtain ⟨⟨cls, dd, data, sl⟩, ho, hc, n, hd⟩ := id ht
  obtain ⟨⟨cls2, dd2, data2, sl2⟩, ho2, hc2, n2, hd2⟩ := id hb
  simp only at hc hd hc2 hd2
  subst hc hd hc2 hd2
  have e : vs.toArray ++ ws.toArray = (vs ++ ws).toArray := by simp
  by_cases hw : ws = []
  · exact concat_meets ⟨_, ho, rfl⟩ ⟨_, ho2, rfl⟩ noFill_tuple_add seq_tuple_add PySem.F.slot_tuple_add PySem.F.entry_tuple_add (PySem.F.args_tuple_add_2 _ _)
      (tuple_addW1 t b vs.toArray ws.toArray n n2 dd dd2 sl sl2 (by simpa using hv) (by simp [hw])) ⟨ho, ho2, h1 hw⟩
  · refine concat_meets ⟨_, ho, rfl⟩ ⟨_, ho2, rfl⟩ noFill_tuple_add seq_tuple_add PySem.F.slot_tuple_add PySem.F.entry_tuple_add (PySem.F.args_tuple_add_2 _ _)
      (tuple_addW2 t b vs.toArray ws.toArray n n2 dd dd2 sl sl2 (by simpa using hv) (by simpa using hw) (by rw [List.size_toArray, List.size_toArray]; exact hsz)) ⟨ho, ho2, ?_⟩
    rw [e]
    exact h2 hw
def sIx (n d : Nat) : Option Int → Nat
  | none => d
  | some v => if v < 0 then (v + (n : Int)).toNat else min v.toNat n
theorem sIx_le (n d : Nat) (hd : d ≤ n) (o : Option Int) : sIx n d o ≤ n := by
  cases o with
  | none => exact hd
  | some v =>
    show (if v < 0 then (v + (n : Int)).toNat else min v.toNat n) ≤ n
    by_cases hv : v < 0
    · rw [if_pos hv]; omega
    · rw [if_neg hv]; exact Nat.min_le_right _ _
theorem clip_eq (v : Int) (n d : Nat) : (if v < 0 then max (v + (n : Int)) 0 else min v (n : Int)) = ((sIx n d (some v) : Nat) : Int) := by
  show (if v < 0 then max (v + (n : Int)) 0 else min v (n : Int)) = (((if v < 0 then (v + (n : Int)).toNat else min v.toNat n) : Nat) : Int)
  by_cases hv : v < 0
  · simp only [if_pos hv]; omega
  · simp only [if_neg hv]; omega
theorem adjust_gen (lo hi : Option Int) (n : Nat) : Builtin.Slice.sliceAdjust lo hi 1 (n : Int) = (((sIx n 0 lo : Nat) : Int), ((sIx n n hi : Nat) : Int)) := by
  have h1 : ¬ ((1 : Int) < 0) := by omega
  unfold Builtin.Slice.sliceAdjust
  simp only [h1, if_false]
  refine Prod.ext ?_ ?_
  · cases lo with
    | none => rfl
    | some v => exact clip_eq v n 0
  · cases hi with
    | none => rfl
    | some v => exact clip_eq v n n
theorem places_gen (i j : Nat) : Builtin.Slice.slicePlaces (i : Int) (j : Int) 1 = j - i := by
  unfold Builtin.Slice.slicePlaces
  have h1 : (1 : Int) > 0 := by omega
  simp only [h1, if_true, Int.ediv_one]
  split <;> omega
theorem slicePart_ {v : Value} {o : Option Int} {Q : Option Int → Shared → Prop} (p : IsPart v o) (h : Q o s) : wpAny (model prog w) A (Builtin.Slice.slicePartIndex v) Q E s := by
  cases p with
  | none => exact slicePart_none h
  | int i t => exact slicePart_int h
theorem sliceApplied_gen {sl : Addr} {vl vu : Value} {lo hi : Option Int} {n : Nat} {Q : Int × Int × Nat → Shared → Prop} (hs : s.heap.IsSliceOf sl vl vu .none) (pl : IsPart vl lo) (pu : IsPart vu hi)
    (h : Q (((sIx n 0 lo : Nat) : Int), 1, sIx n n hi - sIx n 0 lo) s) : wpAny (model prog w) A (Builtin.Slice.sliceApplied (.ref sl) (pure (n : Int))) Q E s := by
  obtain ⟨os, hos, hcs, hds⟩ := id hs
  unfold Builtin.Slice.sliceApplied Builtin.Slice.sliceFields
  refine wpAny_bind (wpAny_bind (wpAny_field hos hds (x := vl) rfl (wpAny_bind (wpAny_field hos hds (x := vu) rfl (wpAny_bind (wpAny_field hos hds (x := .none) rfl (wpAny_pure ?_)))))))
  refine wpAny_bind (slicePart_none ?_)
  show wpAny _ _ (if ((1 : Int) == 0) = true then _ else _) _ _ s
  rw [if_neg (by decide)]
  refine wpAny_bind (slicePart_ pl (wpAny_bind (slicePart_ pu (wpAny_bind (wpAny_pure ?_)))))
  show wpAny _ _ (match Builtin.Slice.sliceAdjust lo hi 1 (n : Int) with | (lo, hi) => pure (lo, (1 : Int), Builtin.Slice.slicePlaces lo hi 1)) _ _ s
  rw [adjust_gen lo hi n]
  show wpAny _ _ (pure (((sIx n 0 lo : Nat) : Int), (1 : Int), Builtin.Slice.slicePlaces ((sIx n 0 lo : Nat) : Int) ((sIx n n hi : Nat) : Int) 1)) _ _ s
  rw [places_gen]
  exact wpAny_pure h
theorem pick_gen (xs : Array Value) (i k : Nat) : ((List.range k).filterMap fun (m : Nat) => xs[((i : Int) + (m : Int) * 1).toNat]?).toArray = ((xs.toList.drop i).take k).toArray := by
  have e : (fun (m : Nat) => xs[((i : Int) + (m : Int) * 1).toNat]?) = fun m => xs[i + m]? := by
    funext m
    have : ((i : Int) + (m : Int) * 1).toNat = i + m := by omega
    rw [this]
  rw [e]
  have := pick_run xs i k
  rw [List.filterMap_map] at this
  have e2 : ((fun x => xs[x]?) ∘ fun x => i + x) = fun m => xs[i + m]? := rfl
  rw [e2] at this
  rw [this]
theorem getItem_tuple_cut {t sl : Addr} {items : Array Value} {vl vu : Value} {lo hi : Option Int} {Q : Value → Shared → Prop} (ht : IsTup s.heap t items) (hs : s.heap.IsSliceOf sl vl vu .none) (pl : IsPart vl lo) (pu : IsPart vu hi)
    (hw : ¬ (sIx items.size 0 lo = 0 ∧ sIx items.size items.size hi = items.size))
    (h : Q (.ref s.heap.objs.size) { s with heap := s.heap.push { cls := .type "tuple", data := .seq ((items.toList.drop (sIx items.size 0 lo)).take (sIx items.size items.size hi - sIx items.size 0 lo)).toArray } })
    (hsz : items.size ≤ sizeLine) : wpAny (model prog w) A (getItem (.ref t) (.ref sl)) Q E s := by
  have htake : sizeOk (.seq ((items.toList.drop (sIx items.size 0 lo)).take (sIx items.size items.size hi - sIx items.size 0 lo)).toArray) := by
    show ((items.toList.drop (sIx items.size 0 lo)).take (sIx items.size items.size hi - sIx items.size 0 lo)).toArray.size ≤ sizeLine
    rw [List.size_toArray, List.length_take, List.length_drop, Array.length_toList]
    omega
  have hj : sIx items.size items.size hi ≤ items.size := sIx_le _ _ (Nat.le_refl _) hi
  obtain ⟨os, hos, hcs, hds⟩ := id hs
  have hTs : s.TypeIs (.ref sl) "slice" := ⟨os, hos, hcs⟩
  unfold getItem
  try with_reducible refine wpAny_holding ?_
  first | refine wpAny_bind (wpAny_pure ?_) | skip
  refine wpAny_bind (wpAny_sequenceKey ht.typeIs (by decide) ?_)
  refine wpAny_bind (wpAny_callSpecial?_slot (name := Str.ofString "__getitem__") ht.typeIs PyProof.Rows.slot_tuple_getitem
    (wpAny_call_entry PyProof.Rows.slot_tuple_getitem ht.typeIs entry_tuple_getitem ?_ (args_tuple_getitem _ _)))
  show wpAny _ _ (Builtin.Tuple.tupleItemsOf (.ref t) >>= _) _ _ s
  refine wpAny_bind (tupleItemsOf_ ht ?_)
  refine wpAny_bind (wpAny_typeOf hTs ?_)
  rw [if_pos (by decide)]
  refine wpAny_bind (sliceApplied_gen hs pl pu ?_)
  have hno : ¬ ((((sIx items.size 0 lo : Nat) : Int) == 0 && (1 : Int) == 1 && (sIx items.size items.size hi - sIx items.size 0 lo) == items.size) = true) := by
    intro q
    rw [Bool.and_eq_true, Bool.and_eq_true] at q
    have q1 : ((sIx items.size 0 lo : Nat) : Int) = 0 := eq_of_beq q.1.1
    have q2 : sIx items.size items.size hi - sIx items.size 0 lo = items.size := eq_of_beq q.2
    exact hw ⟨by omega, by omega⟩
  show wpAny _ _ (if (((sIx items.size 0 lo : Nat) : Int) == 0 && (1 : Int) == 1 && (sIx items.size items.size hi - sIx items.size 0 lo) == items.size) = true then _ else _) _ _ s
  rw [if_neg hno, pick_gen]
  first
    | exact wpAny_bind (m := Builtin.Tuple.tupleExact _) (wpAny_newObj_type (wpAny_pure ⟨_, rfl, wpAny_pure h⟩) htake)
    | exact wpAny_bind (m := Builtin.Tuple.tupleExact _) (wpAny_newObj_type (wpAny_bind (wpAny_pure (wpAny_pure ⟨_, rfl, wpAny_pure h⟩))) htake)
    | exact wpAny_bind (wpAny_bind (m := Builtin.Tuple.tupleExact _) (wpAny_newObj_type (wpAny_pure (wpAny_pure ⟨_, rfl, wpAny_pure h⟩)) htake))
    | exact wpAny_bind (wpAny_bind (m := Builtin.Tuple.tupleExact _) (wpAny_newObj_type (wpAny_pure ⟨_, rfl, wpAny_pure h⟩) htake))
end
end HT
namespace L2
open PySem PySem.Spec PyProof.Rows
abbrev TO := St → Hp → (Option Int → Hp → Prop) → Prop
def PO (X : Cx) (e : Option Expr) (t : TO) : Prop :=
  ∀ (pins : List (Addr × Obj)) (s : Shared) (σ : St) (H : Hp) (Q : Option Int → Hp → Prop), Inv X pins σ H s → t σ H Q →
    wpAny (model X.prog X.w) X.A (evalPart e X.env) (fun u s' => ∃ o H', Inv X pins σ H' s' ∧ IsPart u o ∧ Q o H') X.xe s
def tNoPart : TO := fun _ H Q => Q none H
def tPart (t : TE) : TO := fun σ H Q => t σ H fun x H1 => ∃ i, x = .int i ∧ Q (some i) H1
section
variable {X : Cx} {e : Expr} {te : TE} {lo hi : Option Expr} {tl th : TO} {pos p2 : Pos}
theorem po_none : PO X none tNoPart := by
  intro pins s σ H Q I h
  rw [evalPart_none]
  exact wpAny_pure ⟨none, H, I, .none, h⟩
theorem po_some (h : PE X e te) : PO X (some e) (tPart te) := by
  intro pins s σ H Q I hw
  rw [evalPart_some]
  refine thn (h pins s σ H _ I hw) fun u s1 ⟨x, H1, I1, r1, q1⟩ => ?_
  obtain ⟨i, rfl, q⟩ := q1
  obtain ⟨t, rfl⟩ := r1
  exact ⟨some i, H1, I1, .int i t, q⟩
def SlR (X : Cx) (r : V → Option Int → Option Int → Hp → VK → Prop) : Prop :=
  ∀ (pins : List (Addr × Obj)) (s : Shared) (σ : St) (H : Hp) (x : V) (v vl vu : Value) (lo hi : Option Int) (sl : Addr) (Q : VK), Inv X pins σ H s → RelV x v → s.heap.IsSliceOf sl vl vu .none → IsPart vl lo → IsPart vu hi → r x lo hi H Q →
    ∃ T id, typeLookup (.type T) "__getitem__" = pure (some (.builtin id)) ∧ s.TypeIs v T ∧ wpAny (model X.prog X.w) X.A (getItem v (.ref sl)) (EP X pins σ Q) X.xe s
theorem SlR.or {r r' : V → Option Int → Option Int → Hp → VK → Prop} (h : SlR X r) (h' : SlR X r') : SlR X (fun x lo hi H Q => r x lo hi H Q ∨ r' x lo hi H Q) := by
  intro pins s σ H x v vl vu lo hi sl Q I rx hs pl pu q
  rcases q with q | q
  · exact h pins s σ H x v vl vu lo hi sl Q I rx hs pl pu q
  · exact h' pins s σ H x v vl vu lo hi sl Q I rx hs pl pu q
def tSl (r : V → Option Int → Option Int → Hp → VK → Prop) (te : TE) (tl th : TO) : TE := fun σ H Q => te σ H fun x H1 => tl σ H1 fun l H2 => th σ H2 fun u H3 => r x l u H3 Q
theorem pe_slice {r : V → Option Int → Option Int → Hp → VK → Prop} (hr : SlR X r) (he : PE X e te) (hl : PO X lo tl) (hu : PO X hi th) : PE X (.Subscript e (.Slice lo hi none p2) pos) (tSl r te tl th) := by
  intro pins s σ H Q I h
  refine Subscript_ (thn (he pins s σ H _ I h) fun v s1 ⟨x, H1, I1, r1, q1⟩ => ?_)
  refine wpAny_Slice (thn (hl pins s1 σ H1 _ I1 q1) fun vl s2 ⟨l, H2, I2, pl, q2⟩ => thn (hu pins s2 σ H2 _ I2 q2) fun vu s3 ⟨u, H3, I3, pu, q3⟩ => ?_)
  rw [evalPart_none]
  refine wpAny_pure ?_
  have I4 : Inv X pins σ H3 { s3 with heap := s3.heap.push { cls := .type "slice", data := .fields #[vl, vu, .none] } } := I3.kept (t' := s3.toks) fun b ob q => Heap.get?_push_of_some _ q
  obtain ⟨T, id, hT, ht, hg⟩ := hr pins { s3 with heap := s3.heap.push { cls := .type "slice", data := .fields #[vl, vu, .none] } } σ H3 x v vl vu l u s3.heap.objs.size Q I4 r1 (Heap.IsSliceOf.new ..) pl pu q3
  show wpAny (model X.prog X.w) X.A (subscriptTail e (.Slice lo hi none p2) v (.ref s3.heap.objs.size)) (EP X pins σ Q) X.xe { s3 with heap := s3.heap.push { cls := .type "slice", data := .fields #[vl, vu, .none] } }
  exact tail_any (ops := [.ref s3.heap.objs.size, v]) ht hT hg (by with_unfolding_all rfl)
def cutV (xs : List V) (lo hi : Option Int) : List V := (xs.drop (HT.sIx xs.length 0 lo)).take (HT.sIx xs.length xs.length hi - HT.sIx xs.length 0 lo)
theorem cutV_length (xs : List V) (lo hi : Option Int) : (cutV xs lo hi).length ≤ xs.length := by
  unfold cutV
  rw [List.length_take, List.length_drop]
  omega
def rSlT (K : PySem.W.Frag) : V → Option Int → Option Int → Hp → VK → Prop := fun x lo hi H Q => ∃ a xs, x = .ref a ∧ SqT K H a xs ∧
  ¬ (HT.sIx xs.length 0 lo = 0 ∧ HT.sIx xs.length xs.length hi = xs.length) ∧ ∀ p, H p = none → Q (.ref p) (upd H p (.tup (cutV xs lo hi)))
theorem sl_tup : SlR X (rSlT X.K) := by
  intro pins s σ H x v vl vu lo hi sl Q I rx hs pl pu h
  obtain ⟨a, xs, rfl, hx, hw, q⟩ := h
  cases rx
  obtain ⟨its, r, ht, hz⟩ := I.tuple hx
  have hlen : its.toArray.size = xs.length := by rw [List.size_toArray]; exact r.length.symm
  refine ⟨"tuple", _, PyProof.Rows.slot_tuple_getitem.lookup, ht.typeIs, ?_⟩
  refine HT.getItem_tuple_cut ht hs pl pu (by rw [hlen]; exact hw) ?_ (by rw [hlen]; exact hz)
  rw [hlen]
  refine ⟨.ref s.heap.objs.size, _, I.laid (t' := s.toks) (o := .tup (cutV xs lo hi)) (fun b ob q => Heap.get?_push_of_some _ q) (Nat.le_refl _) ?_, rfl, q _ (I.hok.fresh (Nat.le_refl _))⟩
  exact ⟨Nat.le_trans (cutV_length xs lo hi) hz, _, (r.drop (HT.sIx xs.length 0 lo)).take (HT.sIx xs.length xs.length hi - HT.sIx xs.length 0 lo), IsTup.new _ _⟩
def rCatT (K : PySem.W.Frag) : R2 := fun x y H Q => ∃ a b xs ys, x = .ref a ∧ y = .ref b ∧ SqT K H a xs ∧ SqT K H b ys ∧ xs ≠ [] ∧ xs.length + ys.length ≤ sizeLine ∧
  (ys = [] → Q (.ref a) H) ∧ (ys ≠ [] → ∀ p, H p = none → Q (.ref p) (upd H p (.tup (xs ++ ys))))
theorem Vals.nil_iff {xs : List V} {us : List Value} (r : Vals xs us) : us = [] ↔ xs = [] := by
  cases r with
  | nil => simp
  | cons _ _ => simp
theorem op_catT : OpR X (binaryOp .Add) (rCatT X.K) := by
  intro pins s σ H x y v u Q I rx ry h
  obtain ⟨a, b, xs, ys, rfl, rfl, ha, hb, hx, hz, q1, q2⟩ := h
  cases rx
  cases ry
  obtain ⟨its, r1, p1, _⟩ := I.tuple ha
  obtain ⟨its2, r2, p2, _⟩ := I.tuple hb
  refine HT.cat_tup p1 p2 (fun z => hx (r1.nil_iff.mp z)) (fun z => ⟨.ref a, H, I, rfl, q1 (r2.nil_iff.mp z)⟩) (fun z => ?_) (by rw [← r1.length, ← r2.length]; exact hz)
  refine ⟨.ref s.heap.objs.size, _, I.laid (t' := s.toks) (o := .tup (xs ++ ys)) (fun b ob q => Heap.get?_push_of_some _ q) (Nat.le_refl _) ?_, rfl, q2 (fun w => z (r2.nil_iff.mpr w)) _ (I.hok.fresh (Nat.le_refl _))⟩
  exact ⟨by rw [List.length_append]; exact hz, _, r1.append r2, IsTup.new _ _⟩
end
end L2
namespace L2
open PySem PySem.Spec PyProof.Rows
def ixN (n : Nat) (i : Int) : Option Nat := if 0 ≤ i then (if i < n then some i.toNat else none) else if -(n : Int) ≤ i then some (i + n).toNat else none
def atI {α : Type} (xs : List α) (i : Int) : Option α := (ixN xs.length i).bind fun j => xs[j]?
theorem ixN_seq {n : Nat} {i : Int} {j : Nat} (h : ixN n i = some j) : seqIndex? i n = some j ∧ j < n ∧ -(n : Int) ≤ i ∧ i < n := by
  unfold ixN at h
  by_cases h0 : 0 ≤ i
  · rw [if_pos h0] at h
    by_cases h1 : i < n
    · rw [if_pos h1] at h
      have e : i.toNat = j := Option.some.inj h
      exact ⟨by rw [seqIndex_of h0 h1, e], by omega, by omega, h1⟩
    · rw [if_neg h1] at h; cases h
  · rw [if_neg h0] at h
    by_cases h1 : -(n : Int) ≤ i
    · rw [if_pos h1] at h
      have e : (i + n).toNat = j := Option.some.inj h
      exact ⟨by rw [seqIndex_neg (by omega) h1, e], by omega, h1, by omega⟩
    · rw [if_neg h1] at h; cases h
theorem atI_get {α : Type} {xs : List α} {i : Int} {v : α} (h : atI xs i = some v) : ∃ j, seqIndex? i xs.length = some j ∧ xs[j]? = some v ∧ j < xs.length ∧ -(xs.length : Int) ≤ i ∧ i < xs.length := by
  unfold atI at h
  cases e : ixN xs.length i with
  | none => rw [e] at h; cases h
  | some j =>
    rw [e] at h
    obtain ⟨h1, h2, h3, h4⟩ := ixN_seq e
    exact ⟨j, h1, h, h2, h3, h4⟩
theorem atI_nat {α : Type} {xs : List α} {j : Nat} {v : α} (h : xs[j]? = some v) : atI xs (j : Int) = some v := by
  have hj : j < xs.length := (List.getElem?_eq_some_iff.mp h).1
  have e : ixN xs.length (j : Int) = some j := by
    unfold ixN
    rw [if_pos (by omega), if_pos (by omega)]; simp
  unfold atI; rw [e]; exact h
def PlainIx (b : Expr) : Prop := ∀ o i, subscripted b false o i = operate [o, i] (getItem o i)
def IxR (X : Cx) (r : R2) : Prop :=
  ∀ (value slice : Expr) (pins : List (Addr × Obj)) (s : Shared) (σ : St) (H : Hp) (x y : V) (v u : Value) (Q : VK), Inv X pins σ H s → RelV x v → RelV y u → r x y H Q →
    subscripted slice false v u = operate [v, u] (getItem v u) → wpAny (model X.prog X.w) X.A (subscriptTail value slice v u) (EP X pins σ Q) X.xe s
def MtR (X : Cx) (id : String) (r : V → List V → Hp → VK → Prop) : Prop :=
  ∀ (pins : List (Addr × Obj)) (s : Shared) (σ : St) (H : Hp) (x : V) (xs : List V) (v : Value) (us : List Value) (Q : VK), Inv X pins σ H s → RelV x v → Vals xs us → r x xs H Q →
    wpAny (model X.prog X.w) X.A (call (.builtin id) (v :: us)) (EP X pins σ Q) X.xe s
section
variable {X : Cx} {a b : Expr} {ta tb : TE} {pos : Pos}
theorem IxR.or {r r' : R2} (h : IxR X r) (h' : IxR X r') : IxR X (fun x y H Q => r x y H Q ∨ r' x y H Q) := by
  intro value slice pins s σ H x y v u Q I rx ry q hs
  rcases q with q | q
  · exact h value slice pins s σ H x y v u Q I rx ry q hs
  · exact h' value slice pins s σ H x y v u Q I rx ry q hs
theorem MtR.or {id : String} {r r' : V → List V → Hp → VK → Prop} (h : MtR X id r) (h' : MtR X id r') : MtR X id (fun x xs H Q => r x xs H Q ∨ r' x xs H Q) := by
  intro pins s σ H x xs v us Q I rx rs q
  rcases q with q | q
  · exact h pins s σ H x xs v us Q I rx rs q
  · exact h' pins s σ H x xs v us Q I rx rs q
theorem pe_ix {r : R2} (hr : IxR X r) (ha : PE X a ta) (hb : PE X b tb) (hs : PlainIx b) : PE X (.Subscript a b pos) (tOp r ta tb) := by
  intro pins s σ H Q I h
  exact Subscript_ (binT ha hb I h fun v u s2 x y H2 I2 rx ry q => hr a b pins s2 σ H2 x y v u Q I2 rx ry q (hs _ _))
def rIxL (K : PySem.W.Frag) : R2 := fun x y H Q => ∃ p xs i v, x = .ref p ∧ y = .int i ∧ SqL K H p xs ∧ atI xs i = some v ∧ Q v H
def rIxT (K : PySem.W.Frag) : R2 := fun x y H Q => ∃ p xs i v, x = .ref p ∧ y = .int i ∧ SqT K H p xs ∧ atI xs i = some v ∧ Q v H
def rIxS : R2 := fun x y H Q => ∃ z i c, x = .str z ∧ y = .int i ∧ z.length ≤ sizeLine ∧ atI z.cps.toList i = some c ∧ Q (.str ⟨#[c]⟩) H
theorem ix_list : IxR X (rIxL X.K) := by
  intro value slice pins s σ H x y v u Q I rx ry h hs
  obtain ⟨p, xs, i, z, rfl, rfl, hq, he, q⟩ := h
  cases rx
  obtain ⟨t, rfl⟩ := ry
  obtain ⟨its, r, pl, hz⟩ := I.list hq
  obtain ⟨j, h1, h2, h3, h4, h5⟩ := atI_get he
  obtain ⟨w, ew, rw'⟩ := r.get h2
  have hl := r.length
  have hn := line63
  have fin : EP X pins σ Q w s := ⟨z, H, I, rw', q⟩
  by_cases h0 : 0 ≤ i
  · have hj : i.toNat = j := by
      rw [seqIndex_of h0 h5] at h1
      exact Option.some.inj h1
    exact item_listR pl.isList h0 (by omega) (by rw [hj]; simpa using ew) fin hs
  · have hj : (i + (its.toArray.size : Int)).toNat = j := by
      rw [seqIndex_neg (by omega) h4] at h1
      rw [List.size_toArray, ← hl]
      exact Option.some.inj h1
    exact subscriptTail_builtinR (x := w) pl.isList.typeIs slot_list_getitem.lookup
      (wpAny_getItem_list_neg (Q := fun r s' => r = w ∧ EP X pins σ Q r s') pl.isList (by omega) (by rw [List.size_toArray] <;> omega) (by omega) (by rw [hj]; simpa using ew) ⟨rfl, fin⟩) hs
theorem ix_tup : IxR X (rIxT X.K) := by
  intro value slice pins s σ H x y v u Q I rx ry h hs
  obtain ⟨p, xs, i, z, rfl, rfl, hq, he, q⟩ := h
  cases rx
  obtain ⟨t, rfl⟩ := ry
  obtain ⟨its, r, pl, hz⟩ := I.tuple hq
  obtain ⟨j, h1, h2, h3, h4, h5⟩ := atI_get he
  obtain ⟨w, ew, rw'⟩ := r.get h2
  have hl := r.length
  have hn := line63
  have fin : EP X pins σ Q w s := ⟨z, H, I, rw', q⟩
  exact subscriptTail_builtinR (x := w) pl.typeIs slot_tuple_getitem.lookup
    (getItem_tuple (j := j) (Q := fun r s' => r = w ∧ EP X pins σ Q r s') pl (by omega) (by omega) (by rw [List.size_toArray, ← hl]; exact h1) (by simpa using ew) ⟨rfl, fin⟩) hs
theorem ix_str : IxR X rIxS := by
  intro value slice pins s σ H x y v u Q I rx ry h hs
  obtain ⟨z, i, c, rfl, rfl, hz, he, q⟩ := h
  obtain ⟨t, rfl⟩ := rx
  obtain ⟨t', rfl⟩ := ry
  obtain ⟨j, h1, h2, h3, h4, h5⟩ := atI_get he
  have hl : z.cps.toList.length = z.length := by simp [Str.length]
  rw [hl] at h1 h4 h5
  have hn := line63
  exact tail_any (typeIs_str s z t) slot_str_getitem.lookup (getItem_str (c := c) (by
    have e1 : decide (i < -(2 ^ 63 : Int)) = false := decide_eq_false (by omega)
    have e2 : decide (i ≥ 2 ^ 63) = false := decide_eq_false (by omega)
    rw [e1, e2, Bool.or_false]) (by rw [h1]; simpa using h2) ⟨.str ⟨#[c]⟩, H, I.tok _, ⟨_, rfl⟩, q⟩) hs
def rIx (K : PySem.W.Frag) : R2 := fun x y H Q => rIxL K x y H Q ∨ rIxT K x y H Q ∨ rIxS x y H Q
theorem ix_seq : IxR X (rIx X.K) := ix_list.or (ix_tup.or ix_str)
theorem mapSeq_set (its : List Value) (n j : Nat) (u : Value) : Obj.mapSeq (·.setIfInBounds j u) { cls := .type "list", data := .seq its.toArray n } = { cls := .type "list", data := .seq (its.set j u).toArray n } := by
  simp [Obj.mapSeq]
theorem Inv.lst {pins : List (Addr × Obj)} {σ : St} {H : Hp} {s : Shared} {p : Addr} {xs : List V} (I : Inv X pins σ H s) (h : H p = some (.lst xs)) :
    ∃ (its : List Value) (n : Nat), Vals xs its ∧ s.heap.get? p = some { cls := .type "list", data := .seq its.toArray n } ∧ xs.length ≤ sizeLine := by
  obtain ⟨z, its, n, r, e⟩ := I.hok p _ h
  exact ⟨its, n, r, e, z⟩
theorem Inv.lstUpd {pins : List (Addr × Obj)} {σ : St} {H : Hp} {s : Shared} {p : Addr} {xs ys : List V} {its its' : List Value} {n n' : Nat} {f : Obj → Obj} (I : Inv X pins σ H s) (h : H p = some (.lst xs))
    (ho : s.heap.get? p = some { cls := .type "list", data := .seq its.toArray n }) (hf : f { cls := .type "list", data := .seq its.toArray n } = { cls := .type "list", data := .seq its'.toArray n' }) (r : Vals ys its') (hz : ys.length ≤ sizeLine) (t : Nat) :
    Inv X pins σ (upd H p (.lst ys)) { s with heap := s.heap.update p f, toks := t } := by
  have e : (s.heap.update p f).get? p = some { cls := .type "list", data := .seq its'.toArray n' } := by
    rw [Heap.get?_update_self f ho (by rw [hf] <;> rfl), hf]
  refine I.write (x := p) (e := p) (by rw [h]; trivial) (.inl rfl) (fun b u hb q => (Heap.get?_update_other _ _ (Ne.symm hb)).trans q) ⟨_, e⟩ ?_
  exact ⟨hz, its', n', r, e⟩
def rSetL : V → V → V → Hp → (Hp → Prop) → Prop := fun o i v H Q => ∃ p xs k j, o = .ref p ∧ i = .int k ∧ H p = some (.lst xs) ∧ ixN xs.length k = some j ∧ Q (upd H p (.lst (xs.set j v)))
theorem set_list : PSet X rSetL := by
  intro pins s σ H o i v ov iv u Q I ro ri rv h
  obtain ⟨p, xs, k, j, rfl, rfl, hp, hj, q⟩ := h
  cases ro
  obtain ⟨t, rfl⟩ := ri
  obtain ⟨its, n, r, ho, hz⟩ := I.lst hp
  obtain ⟨h1, h2, h3, h4⟩ := ixN_seq hj
  have hl := r.length
  have hn := line63
  have I' : Inv X pins σ (upd H p (.lst (xs.set j v))) { s with heap := s.heap.update p (Obj.mapSeq (·.setIfInBounds j u)) } :=
    I.lstUpd hp ho (mapSeq_set its n j u) (r.set rv j) (by rw [List.length_set]; exact hz) s.toks
  by_cases h0 : 0 ≤ k
  · have hk : k.toNat = j := by
      rw [seqIndex_of h0 h4] at h1
      exact Option.some.inj h1
    exact PySem.W.ki_setAt ho h0 (by omega) (by rw [List.size_toArray, ← hl]; exact h4) (by rw [hk]; exact ⟨_, I', q⟩)
  · have hk : (k + (its.toArray.size : Int)).toNat = j := by
      rw [seqIndex_neg (by omega) h3] at h1
      rw [List.size_toArray, ← hl]
      exact Option.some.inj h1
    exact PySem.W.ki_setBack ho (by omega) (by rw [List.size_toArray, ← hl]; exact h3) (by omega) (by rw [hk]; exact ⟨_, I', q⟩)
theorem slice_bounds (lo hi : Option Int) (n : Nat) : (sliceBounds lo hi none n).1 = ((HT.sIx n 0 lo : Nat) : Int) ∧ (sliceBounds lo hi none n).2.1 = ((HT.sIx n n hi : Nat) : Int) ∧ (sliceBounds lo hi none n).2.2 = 1 := by
  refine ⟨?_, ?_, rfl⟩
  · cases lo with
    | none => simp [sliceBounds, HT.sIx]
    | some i =>
      simp only [sliceBounds, HT.sIx, Option.getD_none, show (1 : Int) > 0 by decide, if_true]
      by_cases h : i < 0
      · simp only [h, if_true] <;> omega
      · simp only [h, if_false] <;> omega
  · cases hi with
    | none => simp [sliceBounds, HT.sIx]
    | some i =>
      simp only [sliceBounds, HT.sIx, Option.getD_none, show (1 : Int) > 0 by decide, if_true]
      by_cases h : i < 0
      · simp only [h, if_true] <;> omega
      · simp only [h, if_false] <;> omega
theorem slicePick_cut (its : List Value) (lo hi : Option Int) : slicePick its.toArray lo hi none = ((its.drop (HT.sIx its.length 0 lo)).take (HT.sIx its.length its.length hi - HT.sIx its.length 0 lo)).toArray := by
  obtain ⟨h1, h2, h3⟩ := slice_bounds lo hi its.toArray.size
  unfold slicePick
  rw [h1, h2, h3]
  simp only [sliceRange_one, pick_run, List.size_toArray] <;> rfl
def rSlL (K : PySem.W.Frag) : V → Option Int → Option Int → Hp → VK → Prop := fun x lo hi H Q => ∃ a xs, x = .ref a ∧ SqL K H a xs ∧ ∀ p, H p = none → Q (.ref p) (upd H p (.lst (cutV xs lo hi)))
theorem sl_list : SlR X (rSlL X.K) := by
  intro pins s σ H x v vl vu lo hi sl Q I rx hs pl pu h
  obtain ⟨a, xs, rfl, hx, q⟩ := h
  cases rx
  obtain ⟨its, r, ht, hz⟩ := I.list hx
  have hlen := r.length
  refine ⟨"list", _, slot_list_getitem.lookup, ht.isList.typeIs, ?_⟩
  refine wpAny_getItem_list_slice ht.isList hs pl pu .none (by simp) ?_ (by rw [List.size_toArray] <;> omega)
  rw [slicePick_cut, ← hlen]
  refine ⟨.ref s.heap.objs.size, _, I.laid (t' := s.toks) (o := .lst (cutV xs lo hi)) (fun b ob q => Heap.get?_push_of_some _ q) (Nat.le_refl _) ?_, rfl, q _ (I.hok.fresh (Nat.le_refl _))⟩
  exact ⟨Nat.le_trans (cutV_length xs lo hi) hz, _, 0, (r.drop (HT.sIx xs.length 0 lo)).take (HT.sIx xs.length xs.length hi - HT.sIx xs.length 0 lo), Heap.get?_push_size _ rfl⟩
def flatV : V → Bool
  | .non => true
  | .bl _ => true
  | .int _ => true
  | .str _ => true
  | _ => false
def eqV : V → V → Bool
  | .non, .non => true
  | .bl a, .bl b => a == b
  | .bl a, .int b => (if a then 1 else 0) == b
  | .int a, .bl b => a == (if b then 1 else 0)
  | .int a, .int b => a == b
  | .str a, .str b => a == b
  | _, _ => false
theorem eqAt_V {A : Around} {s : Shared} {y x : V} {u v : Value} (ry : RelV y u) (rx : RelV x v) (fy : flatV y = true) (fx : flatV x = true) : SeqAt.EqAt A s u v (eqV y x) := by
  cases y with
  | non =>
    cases ry
    cases x with
    | non => cases rx; exact SeqAt.EqAt.same _
    | bl b => cases rx; exact SeqAt.EqAt.none_bool b
    | int b => obtain ⟨t, rfl⟩ := rx; exact SeqAt.EqAt.none_int b t
    | str b => obtain ⟨t, rfl⟩ := rx; exact SeqAt.EqAt.none_str b t
    | _ => exact absurd (show false = true from fx) Bool.false_ne_true
  | bl a =>
    cases ry
    cases x with
    | non => cases rx; exact SeqAt.EqAt.bool_none a
    | bl b => cases rx; exact SeqAt.EqAt.bool_bool a b
    | int b => obtain ⟨t, rfl⟩ := rx; exact SeqAt.EqAt.bool_int a b t
    | str b => obtain ⟨t, rfl⟩ := rx; exact SeqAt.EqAt.bool_str a b t
    | _ => exact absurd (show false = true from fx) Bool.false_ne_true
  | int a =>
    obtain ⟨t', rfl⟩ := ry
    cases x with
    | non => cases rx; exact SeqAt.EqAt.int_none a t'
    | bl b => cases rx; exact SeqAt.EqAt.int_bool a t' b
    | int b => obtain ⟨t, rfl⟩ := rx; exact SeqAt.EqAt.int_int a t' b t
    | str b => obtain ⟨t, rfl⟩ := rx; exact SeqAt.EqAt.int_str a t' b t
    | _ => exact absurd (show false = true from fx) Bool.false_ne_true
  | str a =>
    obtain ⟨t', rfl⟩ := ry
    cases x with
    | non => cases rx; exact SeqAt.EqAt.str_none a t'
    | bl b => cases rx; exact SeqAt.EqAt.str_bool a t' b
    | int b => obtain ⟨t, rfl⟩ := rx; exact SeqAt.EqAt.str_int a t' b t
    | str b => obtain ⟨t, rfl⟩ := rx; exact SeqAt.EqAt.str_str a t' b t
    | _ => exact absurd (show false = true from fx) Bool.false_ne_true
  | _ => exact absurd (show false = true from fy) Bool.false_ne_true
def eqU (x : V) (u : Value) : Bool := match u with
  | .none => eqV .non x
  | .bool b => eqV (.bl b) x
  | .int i _ => eqV (.int i) x
  | .str z _ => eqV (.str z) x
  | _ => false
theorem eqU_of {x y : V} {u : Value} (r : RelV y u) (f : flatV y = true) : eqU x u = eqV y x := by
  cases y with
  | non => cases r; rfl
  | bl b => cases r; rfl
  | int i => obtain ⟨t, rfl⟩ := r; rfl
  | str z => obtain ⟨t, rfl⟩ := r; rfl
  | _ => exact absurd (show false = true from f) Bool.false_ne_true
theorem any_eqU {x : V} : ∀ {xs : List V} {us : List Value}, Vals xs us → xs.all flatV = true → us.any (eqU x) = xs.any fun y => eqV y x
  | _, _, .nil, _ => rfl
  | y :: xs, u :: us, .cons r t, f => by
    rw [List.all_cons, Bool.and_eq_true] at f
    rw [List.any_cons, List.any_cons, eqU_of r f.1, any_eqU t f.2]
theorem mem_eqAt {A : Around} {s : Shared} {x : V} {v : Value} (rx : RelV x v) (fx : flatV x = true) : ∀ {xs : List V} {us : List Value}, Vals xs us → xs.all flatV = true → ∀ u ∈ us, SeqAt.EqAt A s u v (eqU x u)
  | _, _, .nil, _ => fun u hu => by cases hu
  | y :: xs, u :: us, .cons r t, f => fun u' hu => by
    rw [List.all_cons, Bool.and_eq_true] at f
    rcases List.mem_cons.mp hu with rfl | hu
    · rw [eqU_of r f.1]; exact eqAt_V r rx f.1 fx
    · exact mem_eqAt rx fx t f.2 u' hu
def inV (x : V) (xs : List V) : Bool := xs.any fun y => eqV y x
def rIn (K : PySem.W.Frag) (neg : Bool) : R2 := fun x y H Q => ∃ p xs, y = .ref p ∧ (SqL K H p xs ∨ SqT K H p xs) ∧ flatV x = true ∧ xs.all flatV = true ∧ Q (.bl (if neg then !inV x xs else inV x xs)) H
theorem op_in_seq : OpR X (compareOp .In) (rIn X.K false) := by
  intro pins s σ H x y v u Q I rx ry h
  obtain ⟨p, xs, rfl, hq, fx, fs, q⟩ := h
  cases ry
  rcases hq with hq | hq
  · obtain ⟨its, r, pl, hz⟩ := I.list hq
    refine SeqAt.in_listAt (eqU x) pl.isList (fun w hw => mem_eqAt rx fx r fs w (by simpa using hw)) ⟨.bl _, H, I, rfl, ?_⟩
    rw [show its.toArray.any (eqU x) = its.any (eqU x) by simp, any_eqU r fs]
    exact q
  · obtain ⟨its, r, pl, hz⟩ := I.tuple hq
    refine SeqAt.in_tupleAt (eqU x) pl (fun w hw => mem_eqAt rx fx r fs w (by simpa using hw)) ⟨.bl _, H, I, rfl, ?_⟩
    rw [show its.toArray.any (eqU x) = its.any (eqU x) by simp, any_eqU r fs]
    exact q
theorem op_notIn_seq : OpR X (compareOp .NotIn) (rIn X.K true) := by
  intro pins s σ H x y v u Q I rx ry h
  obtain ⟨p, xs, rfl, hq, fx, fs, q⟩ := h
  cases ry
  rcases hq with hq | hq
  · obtain ⟨its, r, pl, hz⟩ := I.list hq
    refine SeqAt.notIn_listAt (eqU x) pl.isList (fun w hw => mem_eqAt rx fx r fs w (by simpa using hw)) ⟨.bl _, H, I, rfl, ?_⟩
    rw [show its.toArray.any (eqU x) = its.any (eqU x) by simp, any_eqU r fs]
    exact q
  · obtain ⟨its, r, pl, hz⟩ := I.tuple hq
    refine SeqAt.notIn_tupleAt (eqU x) pl (fun w hw => mem_eqAt rx fx r fs w (by simpa using hw)) ⟨.bl _, H, I, rfl, ?_⟩
    rw [show its.toArray.any (eqU x) = its.any (eqU x) by simp, any_eqU r fs]
    exact q
theorem call_len_seq : CallR X (.builtin "len") (fun xs H Q => ∃ p ys, xs = [.ref p] ∧ (SqL X.K H p ys ∨ SqT X.K H p ys) ∧ Q (.int ys.length) H) := by
  intro pins s σ H xs us Q I r h
  obtain ⟨p, ys, rfl, hq, q⟩ := h
  obtain ⟨u, rfl, rx⟩ := vals1 r
  cases rx
  have hn := line63
  rcases hq with hq | hq
  · obtain ⟨its, r', pl, hz⟩ := I.list hq
    have hlen := r'.length
    exact Calls.call_len_list pl.isList (by simp only [List.size_toArray] <;> omega) ⟨.int ys.length, H, I.tok _, ⟨s.toks + 1, by rw [List.size_toArray, hlen]⟩, q⟩
  · obtain ⟨its, r', pl, hz⟩ := I.tuple hq
    have hlen := r'.length
    exact len_tuple pl (by simp only [List.size_toArray] <;> omega) ⟨.int ys.length, H, I.tok _, ⟨s.toks + 1, by rw [List.size_toArray, hlen]⟩, q⟩
theorem CallR.or {f : Value} {r r' : List V → Hp → VK → Prop} (h : CallR X f r) (h' : CallR X f r') : CallR X f (fun xs H Q => r xs H Q ∨ r' xs H Q) := by
  intro pins s σ H xs us Q I rs q
  rcases q with q | q
  · exact h pins s σ H xs us Q I rs q
  · exact h' pins s σ H xs us Q I rs q
theorem call_list_of : CallR X (.type "list") (fun xs H Q => ∃ p ys, xs = [.ref p] ∧ (SqL X.K H p ys ∨ SqT X.K H p ys) ∧ ∀ l, H l = none → Q (.ref l) (upd H l (.lst ys))) := by
  intro pins s σ H xs us Q I r h
  obtain ⟨p, ys, rfl, hq, q⟩ := h
  obtain ⟨u, rfl, rx⟩ := vals1 r
  cases rx
  have fin : ∀ (its : List Value), Vals ys its → ys.length ≤ sizeLine → ∀ (h' : Heap) (c' : Nat), (∀ b o', s.heap.get? b = some o' → h'.get? b = some o') →
      h'.get? s.heap.objs.size = some { cls := .type "list", dict := none, data := .seq its.toArray c', slots := #[] } → EP X pins σ Q (.ref s.heap.objs.size) { s with heap := h' } := fun its r' hz h' c' kp e =>
    ⟨.ref s.heap.objs.size, _, I.laid (t' := s.toks) kp (Nat.le_refl _) (show ObjOk X.prog X.w _ h' _ (.lst ys) from ⟨hz, its, c', r', e⟩), rfl, q _ (I.hok.fresh (Nat.le_refl _))⟩
  rcases hq with hq | hq
  · obtain ⟨its, r', pl, hz⟩ := I.list hq
    have hlen := r'.length
    obtain ⟨o, ho, hc, n, hd⟩ := pl.isList
    exact call_list_seq p (.inl rfl) ho hc hd (fun h' c' kp e => fin its r' hz h' c' kp e) (by simp only [List.size_toArray] <;> omega)
  · obtain ⟨its, r', pl, hz⟩ := I.tuple hq
    have hlen := r'.length
    obtain ⟨o, ho, hc, n, hd⟩ := pl
    exact call_list_seq p (.inr rfl) ho hc hd (fun h' c' kp e => fin its r' hz h' c' kp e) (by simp only [List.size_toArray] <;> omega)
theorem call_tuple_of : CallR X (.type "tuple") (fun xs H Q => ∃ p ys, xs = [.ref p] ∧ ((SqL X.K H p ys ∧ ∀ l, H l = none → Q (.ref l) (upd H l (.tup ys))) ∨ (SqT X.K H p ys ∧ Q (.ref p) H))) := by
  intro pins s σ H xs us Q I r h
  obtain ⟨p, ys, rfl, h⟩ := h
  obtain ⟨u, rfl, rx⟩ := vals1 r
  cases rx
  rcases h with ⟨hq, q⟩ | ⟨hq, q⟩
  · obtain ⟨its, r', pl, hz⟩ := I.list hq
    have hlen := r'.length
    refine call_tuple_list pl.isList (fun h' kp => ?_) (by simp only [List.size_toArray] <;> omega)
    have I1 : Inv X pins σ H { s with heap := h' } := I.kept (t' := s.toks) kp
    have I2 : Inv X pins σ (upd H h'.objs.size (.tup ys)) { s with heap := h'.push { cls := .type "tuple", data := .seq its.toArray } } :=
      I1.laid (t' := s.toks) (fun b o e => Heap.get?_push_of_some _ e) (Nat.le_refl _) (show ObjOk X.prog X.w _ _ _ (.tup ys) from ⟨hz, its, r', IsTup.new _ _⟩)
    exact ⟨.ref h'.objs.size, _, I2, rfl, q _ (I1.hok.fresh (Nat.le_refl _))⟩
  · obtain ⟨its, r', pl, hz⟩ := I.tuple hq
    exact call_tuple_same pl ⟨.ref p, H, I, rfl, q⟩
def tyV (K : PySem.W.Frag) (T : String) (x : V) (H : Hp) : Prop := match x with
  | .str _ => T = "str"
  | .int _ => T = "int"
  | .ref p => (T = "list" ∧ ∃ xs, SqL K H p xs) ∨ (T = "tuple" ∧ ∃ o, K.lookup p = some o ∧ o.cls = .type "tuple" ∧ o.dict = none) ∨
      (T = "dict" ∧ ((∃ kvs, H p = some (.dK kvs)) ∨ ∃ kvs, H p = some (.dT kvs))) ∨ (T = "set" ∧ ∃ S n, H p = some (.set S n))
  | _ => False
theorem tyV_is {pins : List (Addr × Obj)} {σ : St} {H : Hp} {s : Shared} {T : String} {x : V} {v : Value} (I : Inv X pins σ H s) (r : RelV x v) (ty : tyV X.K T x H) :
    s.TypeIs v T ∧ ∀ a, v = .ref a → ∃ ob, s.heap.get? a = some ob ∧ ob.dict = none := by
  cases x with
  | str z =>
    obtain ⟨t, rfl⟩ := r
    cases (show T = "str" from ty)
    exact ⟨typeIs_str s z t, fun _ e => nomatch e⟩
  | int i =>
    obtain ⟨t, rfl⟩ := r
    cases (show T = "int" from ty)
    exact ⟨typeIs_int s i t, fun _ e => nomatch e⟩
  | ref p =>
    cases r
    rcases ty with ⟨rfl, xs, hq⟩ | ⟨rfl, o, hk, hc, hd⟩ | ⟨rfl, hk⟩ | ⟨rfl, S, n, hk⟩
    · obtain ⟨its, _, pl, _⟩ := I.list hq
      refine ⟨pl.isList.typeIs, fun a e => ?_⟩
      cases e
      obtain ⟨o, n, e, c, hd, _⟩ := pl
      exact ⟨o, e, hd⟩
    · refine ⟨⟨o, I.kIn p o hk, hc⟩, fun a e => ?_⟩
      cases e
      exact ⟨o, I.kIn _ o hk, hd⟩
    · have z : ∃ o, s.heap.get? p = some o ∧ o.ExactDict := by
        rcases hk with ⟨kvs, hk⟩ | ⟨kvs, hk⟩
        · obtain ⟨_, _, _, _, o, _, _, e, ex, _⟩ := I.hok p _ hk
          exact ⟨o, e, ex⟩
        · obtain ⟨_, _, _, _, o, _, _, e, ex, _⟩ := I.hok p _ hk
          exact ⟨o, e, ex⟩
      obtain ⟨o, e, ex⟩ := z
      refine ⟨⟨o, e, ex.1⟩, fun a e2 => ?_⟩
      cases e2
      exact ⟨o, e, ex.2.1⟩
    · obtain ⟨o, _, _, _, e, ex, _⟩ := I.hok p _ hk
      refine ⟨⟨o, e, ex.1⟩, fun a e2 => ?_⟩
      cases e2
      exact ⟨o, e, ex.2.1⟩
  | _ => exact False.elim ty
def tBM0 (K : PySem.W.Frag) (T : String) (r : V → List V → Hp → VK → Prop) (to : TE) : TE := fun σ H Q => to σ H fun x H1 => tyV K T x H1 ∧ r x [] H1 Q
def tBM (K : PySem.W.Frag) (T : String) (r : V → List V → Hp → VK → Prop) (to : TE) (t : TA) : TE := fun σ H Q => to σ H fun x H1 => tyV K T x H1 ∧ t σ H1 fun xs H2 => r x xs H2 Q
variable {o e : Expr} {es : List Expr} {to : TE} {t : TA} {name : Str} {apos cpos : Pos} {T id : String} {r : V → List V → Hp → VK → Prop}
theorem pe_bm0 (pa : PlainAttrs T) (slot : Slot T name id) (hty : typeOf (.builtin id) = pure (.type "method_descriptor")) (hm : MtR X id r) (ho : PE X o to)
    (hbase : attributeBase o name X.env (eval o X.env) = eval o X.env := by rfl) (hline : (apos.endLine == cpos.line) = true := by rfl) : PE X (.Call (.Attribute o name apos) [] [] cpos) (tBM0 X.K T r to) := by
  intro pins s σ H Q I h
  refine wpAny_Call_method0_late hbase hline (thn (ho pins s σ H _ I h) fun v s1 ⟨x, H1, I1, r1, ty, q1⟩ => ?_)
  obtain ⟨h1, h2⟩ := tyV_is I1 r1 ty
  exact ⟨T, id, pa, slot, hty, h1, h2, Calls.callWith_builtin rfl (PySem.evalArgs_none (hm pins s1 σ H1 x [] v [] Q I1 r1 .nil q1))⟩
theorem pe_bm (pa : PlainAttrs T) (slot : Slot T name id) (hty : typeOf (.builtin id) = pure (.type "method_descriptor")) (hm : MtR X id r) (ho : PE X o to) (ha : PA X (e :: es) t)
    (hbase : attributeBase o name X.env (eval o X.env) = eval o X.env := by rfl)
    (hfew : ((backTo cpos (starEach (e :: es) X.env)).all (fun x => !x.1) && (backToKw cpos (keywordEach [] X.env)).all (fun x => x.1.isSome)
      && decide ((e :: es).length + ([] : List Keyword).length + (if ([] : List Keyword).isEmpty then 0 else 1) < 30)) = true := by rfl)
    (hline : (apos.endLine == cpos.line) = true := by rfl) (hs : starEach (e :: es) X.env = (false, eval e X.env) :: starEach es X.env := by rfl) (hplain : (backTo cpos (starEach es X.env)).any (·.1) = false := by rfl) :
    PE X (.Call (.Attribute o name apos) (e :: es) [] cpos) (tBM X.K T r to t) := by
  intro pins s σ H Q I h
  refine wpAny_Call_method_late hbase hfew hline rfl (thn (ho pins s σ H _ I h) fun v s1 ⟨x, H1, I1, r1, ty, q1⟩ => ?_)
  obtain ⟨h1, h2⟩ := tyV_is I1 r1 ty
  refine ⟨T, id, pa, slot, hty, h1, h2, ?_⟩
  have hA := ha cpos pins s1 σ H1 _ I1 q1
  rw [hs] at hA ⊢
  refine Calls.callWith_builtin (by show (false || (backTo cpos (starEach es X.env)).any (·.1)) = false; rw [hplain] <;> rfl) (Calls.evalArgs_plain ?_)
  exact thn hA fun us s2 ⟨vs, H2, I2, r2, q2⟩ => hm pins s2 σ H2 x vs v us Q I2 r1 r2 q2
end
end L2
namespace L2
open PySem PySem.Spec PyProof.Rows
def MtM (X : Cx) (id : String) (r : V → List V → Hp → VK → Prop) : Prop :=
  ∀ (pins : List (Addr × Obj)) (s : Shared) (σ : St) (H : Hp) (x : V) (xs : List V) (v : Value) (us : List Value) (Q : VK), Inv X pins σ H s → RelV x v → Vals xs us → r x xs H Q →
    wpAny (model X.prog X.w) X.A (call (.builtin id) (v :: us)) (EP X pins σ Q) X.xe s
theorem Vals.one : ∀ {x : V} {us : List Value}, Vals [x] us → ∃ u, us = [u] ∧ RelV x u
  | _, _, .cons r .nil => ⟨_, rfl, r⟩
theorem Vals.two : ∀ {x y : V} {us : List Value}, Vals [x, y] us → ∃ u v, us = [u, v] ∧ RelV x u ∧ RelV y v
  | _, _, _, .cons r (.cons q .nil) => ⟨_, _, rfl, r, q⟩
theorem Vals.zero : ∀ {us : List Value}, Vals [] us → us = []
  | _, .nil => rfl
theorem Vals.reverse {xs : List V} {us : List Value} (h : Vals xs us) : Vals xs.reverse us.reverse := by
  induction h with
  | nil => exact .nil
  | cons r t ih => rw [List.reverse_cons, List.reverse_cons]; exact Vals.append ih (.cons r .nil)
theorem Vals.rep {xs : List V} {us : List Value} (h : Vals xs us) : ∀ k : Nat, Vals (List.replicate k xs).flatten (List.replicate k us).flatten
  | 0 => .nil
  | k + 1 => by
    rw [List.replicate_succ, List.replicate_succ, List.flatten_cons, List.flatten_cons]
    exact Vals.append h (Vals.rep h k)
theorem foldl_rep (its : List Value) : ∀ (k : Nat) (acc : List Value),
    List.foldl (fun x1 x2 => x1 ++ x2) acc.toArray (List.replicate k its.toArray) = (acc ++ (List.replicate k its).flatten).toArray
  | 0, acc => by simp
  | k + 1, acc => by
    have e : acc.toArray ++ its.toArray = (acc ++ its).toArray := by simp
    have e2 : (acc ++ its) ++ (List.replicate k its).flatten = acc ++ (List.replicate (k + 1) its).flatten := by
      rw [List.replicate_succ, List.flatten_cons, List.append_assoc]
    rw [← e2, ← foldl_rep its k (acc ++ its), ← e, List.replicate_succ, List.foldl_cons]
section
variable {X : Cx} {pins : List (Addr × Obj)} {σ : St} {H : Hp} {s : Shared} {l b : Addr} {xs ys zs : List V}
theorem Inv.lset {its its' : List Value} {n : Nat} {f : Array Value → Array Value} {t' : Nat} (I : Inv X pins σ H s) (hH : H l = some (.lst xs))
    (e : s.heap.get? l = some { cls := .type "list", data := .seq its.toArray n }) (hf : f its.toArray = its'.toArray) (hv : Vals ys its') (hz : ys.length ≤ sizeLine) :
    Inv X pins σ (upd H l (.lst ys)) { s with heap := s.heap.update l (Obj.mapSeq f), toks := t' } := by
  have q := PySem.IsL.update e f
  rw [hf] at q
  refine I.write (x := l) (e := l) (by rw [hH]; exact trivial) (.inl rfl) (fun b' u hb hu => (Heap.get?_update_other s.heap (Obj.mapSeq f) (Ne.symm hb)).trans hu) ⟨_, q⟩ ?_
  exact ⟨hz, its', _, hv, q⟩
theorem Inv.lnew {its : List Value} {t' : Nat} (I : Inv X pins σ H s) (hv : Vals ys its) (hz : ys.length ≤ sizeLine) :
    Inv X pins σ (upd H s.heap.objs.size (.lst ys)) { s with heap := s.heap.push { cls := .type "list", data := .seq its.toArray }, toks := t' } :=
  I.laid (fun _ _ q => Heap.get?_push_of_some _ q) (Nat.le_refl _) ⟨hz, its, 0, hv, Heap.get?_push_size _ rfl⟩
theorem Inv.fresh (I : Inv X pins σ H s) : H s.heap.objs.size = none := I.hok.fresh (Nat.le_refl _)
theorem Inv.lstM (I : Inv X pins σ H s) (hH : H l = some (.lst xs)) : xs.length ≤ sizeLine ∧ ∃ (its : List Value) (n : Nat), Vals xs its ∧ xs.length = its.length ∧ s.heap.get? l = some { cls := .type "list", data := .seq its.toArray n } := by
  obtain ⟨z, its, n, r, e⟩ := I.hok l _ hH
  exact ⟨z, its, n, r, r.length, e⟩
theorem notLongL {n : Nat} (h : n ≤ sizeLine) : Builtin.List.listTooLong n = false := by
  unfold Builtin.List.listTooLong
  exact decide_eq_false (by omega)
end
section
variable {X : Cx}
def rAppend : V → List V → Hp → VK → Prop := fun x vs H Q => ∃ l xs y, x = .ref l ∧ vs = [y] ∧ H l = some (.lst xs) ∧ xs.length < sizeLine ∧ Q .non (upd H l (.lst (xs ++ [y])))
theorem mt_append : MtM X "list.append" rAppend := by
  intro pins s σ H x vs v us Q I rx rv h
  obtain ⟨l, xs, y, rfl, rfl, hH, hz, q⟩ := h
  cases rx
  obtain ⟨u, rfl, ru⟩ := rv.one
  obtain ⟨z, its, n, r, hl, e⟩ := I.lstM hH
  refine call_meets F.slot_list_append ⟨_, e, rfl⟩ F.entry_list_append (F.args_list_append_2 _ _) (PySem.list_append l its.toArray n u (by rw [List.size_toArray]; omega)) ⟨e, ?_⟩
  refine ⟨.non, _, I.lset (its' := its ++ [u]) hH e (by simp) (r.append (.cons ru .nil)) ?_, rfl, q⟩
  rw [List.length_append, List.length_singleton]
  omega
def rClear : V → List V → Hp → VK → Prop := fun x vs H Q => ∃ l xs, x = .ref l ∧ vs = [] ∧ H l = some (.lst xs) ∧ Q .non (upd H l (.lst []))
theorem mt_clear : MtM X "list.clear" rClear := by
  intro pins s σ H x vs v us Q I rx rv h
  obtain ⟨l, xs, rfl, rfl, hH, q⟩ := h
  cases rx
  have hus := rv.zero
  subst hus
  obtain ⟨z, its, n, r, hl, e⟩ := I.lstM hH
  refine call_meets F.slot_list_clear ⟨_, e, rfl⟩ F.entry_list_clear (F.args_list_clear_1 _) (AutoSeq1.list_clear_list_0 l its.toArray n (by rw [List.size_toArray]; omega)) ⟨e, ?_⟩
  exact ⟨.non, _, I.lset (its' := []) (ys := []) hH e rfl .nil (Nat.zero_le _), rfl, q⟩
def rCat : R2 := fun x y H Q => ∃ l b xs zs, x = .ref l ∧ y = .ref b ∧ H l = some (.lst xs) ∧ H b = some (.lst zs) ∧ xs.length + zs.length ≤ sizeLine ∧ ∀ p, H p = none → Q (.ref p) (upd H p (.lst (xs ++ zs)))
theorem op_cat : OpR X (binaryOp .Add) rCat := by
  intro pins s σ H x y v u Q I rx ry h
  obtain ⟨l, b, xs, zs, rfl, rfl, hH, hB, hz, q⟩ := h
  cases rx
  cases ry
  obtain ⟨z, its, n, r, hl, e⟩ := I.lstM hH
  obtain ⟨z2, its2, n2, r2, hl2, e2⟩ := I.lstM hB
  refine PySem.P.add_list e e2 ?_ (by rw [List.size_toArray, List.size_toArray]; omega)
  have ea : its.toArray ++ its2.toArray = (its ++ its2).toArray := by simp
  rw [ea]
  exact ⟨.ref _, _, I.lnew (t' := s.toks) (r.append r2) (by rw [List.length_append]; omega), rfl, q _ I.fresh⟩
def rRep : R2 := fun x y H Q => ∃ l k xs, x = .ref l ∧ y = .int k ∧ H l = some (.lst xs) ∧ -(2 ^ 63) ≤ k ∧ k < 2 ^ 63 ∧ xs.length * k.toNat ≤ sizeLine ∧
  ∀ p, H p = none → Q (.ref p) (upd H p (.lst (List.replicate k.toNat xs).flatten))
theorem len_rep {α : Type} (xs : List α) (k : Nat) : (List.replicate k xs).flatten.length = k * xs.length := by
  induction k with
  | zero => simp
  | succ k ih => rw [List.replicate_succ, List.flatten_cons, List.length_append, ih, Nat.succ_mul, Nat.add_comm]
theorem op_rep : OpR X (binaryOp .Mult) rRep := by
  intro pins s σ H x y v u Q I rx ry h
  obtain ⟨l, k, xs, rfl, rfl, hH, h1, h2, hz, q⟩ := h
  cases rx
  obtain ⟨t, rfl⟩ := ry
  obtain ⟨z, its, n, r, hl, e⟩ := I.lstM hH
  have hlen : its.toArray.size * k.toNat ≤ sizeLine := by rw [List.size_toArray, ← hl]; exact hz
  have hcap : ¬ its.toArray.size * k.toNat > (2 ^ 63 - 1) / 8 := by
    have : (sizeLine : Nat) ≤ (2 ^ 63 - 1) / 8 := by decide
    omega
  have hfit : ¬ (!Builtin.List.listFitsIndex k) = true := by
    rw [fitsIndex_both h1 h2]
    exact Bool.false_ne_true
  have hlong : ¬ Builtin.List.listTooLong (its.toArray.size * k.toNat) = true := by
    rw [notLongL hlen]
    exact Bool.false_ne_true
  have hnew : List.foldl (fun x1 x2 => x1 ++ x2) #[] (List.replicate (if its.toArray.isEmpty = true then 0 else k.toNat) its.toArray) = (List.replicate k.toNat its).flatten.toArray := by
    have f0 : ∀ m : Nat, List.foldl (fun x1 x2 => x1 ++ x2) #[] (List.replicate m its.toArray) = (List.replicate m its).flatten.toArray := fun m => by
      have := foldl_rep its m []
      rw [List.nil_append] at this
      exact this
    rw [f0]
    cases its with
    | nil => simp
    | cons a r' => rw [if_neg (by simp)]
  refine wpAny_binaryOp_repeat_ref (T := "list") (U := "int") (by decide) ⟨_, e, rfl⟩ (fun s' => typeIs_int s' k t) noFill_list_mul F.fills_int_mul F.slot_int_rmul repeat_list F.slot_int_index.lookup
    (call_meets F.slot_int_rmul (typeIs_int s k t) F.entry_int_rmul (F.args_int_rmul_2 _ _) (int___rmul___int_list k t l its.toArray n)
      ⟨e, rfl, ⟨_, e, rfl⟩, call_meets F.slot_list_mul ⟨_, e, rfl⟩ F.entry_list_mul (F.args_list_mul_2 _ _) (AutoListH.list___mul___list_int_3 l its.toArray n k t hfit hcap hlong) ⟨e, ?_⟩⟩)
  rw [hnew]
  exact ⟨.ref _, _, I.lnew (t' := s.toks) (r.rep k.toNat) (by rw [len_rep, Nat.mul_comm]; exact hz), rfl, q _ I.fresh⟩
end
section
variable {prog : Program} {w : World} {A : Around} {E : Value → Shared → Prop} {s : Shared}
end
section
variable {X : Cx}
end
end L2
namespace L2
open PySem PySem.Spec PyProof.Rows
theorem Vals.strs : ∀ {xs : List Str} {us : List Value}, Vals (xs.map V.str) us → StrsAre us xs
  | [], us, h => by
    rw [List.map_nil] at h
    cases h
    exact StrsAre.nil
  | x :: xs, us, h => by
    rw [List.map_cons] at h
    cases h with
    | cons r t =>
      obtain ⟨k, rfl⟩ := r
      exact StrsAre.cons x k (Vals.strs t)
section
variable {prog : Program} {w : World} {A : Around} {E : Value → Shared → Prop} {s : Shared} {l : Addr} {its : List Value} {ns : List Int} {Q : Value → Shared → Prop}
end
section
variable {X : Cx}
def rSum (K : PySem.W.Frag) : List V → Hp → VK → Prop := fun vs H Q => ∃ (a : Addr) (ns : List Int), vs = [V.ref a] ∧ SqL K H a (ns.map V.int) ∧ Q (.int ns.sum) H
end
section
variable {X : Cx}
end
section
variable {X : Cx}
end
section
variable {X : Cx}
end
mutual
inductive Dp (K : PySem.W.Frag) (H : Hp) : V → PyData → Prop
  | non : Dp K H .non .none
  | bl (b : Bool) : Dp K H (.bl b) (.bool b)
  | int (i : Int) : Dp K H (.int i) (.int i)
  | str (x : Str) : Dp K H (.str x) (.str x)
  | lst {a : Addr} {xs : List V} {ds : List PyData} : SqL K H a xs → DpAll K H xs ds → Dp K H (.ref a) (.list ds)
  | tup {a : Addr} {xs : List V} {ds : List PyData} : SqT K H a xs → DpAll K H xs ds → Dp K H (.ref a) (.tuple ds)
inductive DpAll (K : PySem.W.Frag) (H : Hp) : List V → List PyData → Prop
  | nil : DpAll K H [] []
  | cons {v : V} {vs : List V} {d : PyData} {ds : List PyData} : Dp K H v d → DpAll K H vs ds → DpAll K H (v :: vs) (d :: ds)
end
section
variable {X : Cx} {pins : List (Addr × Obj)} {σ : St} {H : Hp} {s : Shared}
mutual
theorem Dp.reads (I : Inv X pins σ H s) : ∀ (d : PyData) (v : V) (u : Value), Dp X.K H v d → RelV v u → ∃ as, Reads s.heap u d as
  | .none, _, _, h, r => by
    cases h
    cases r
    exact ⟨_, Reads.none⟩
  | .bool b, _, _, h, r => by
    cases h
    cases r
    exact ⟨_, Reads.bool b⟩
  | .int i, _, _, h, r => by
    cases h
    obtain ⟨t, rfl⟩ := r
    exact ⟨_, Reads.int i t⟩
  | .str x, _, _, h, r => by
    cases h
    obtain ⟨t, rfl⟩ := r
    exact ⟨_, Reads.str x t⟩
  | .list ds, _, _, h, r => by
    cases h with
    | lst hs ha =>
      cases r
      obtain ⟨its, rv, ⟨o, n, ho, hc, _, hd⟩, _⟩ := I.list hs
      obtain ⟨as, hr⟩ := Dp.readsAll I ds _ its ha rv
      exact ⟨_, Reads.list ho hc hd hr⟩
  | .tuple ds, _, _, h, r => by
    cases h with
    | tup hs ha =>
      cases r
      obtain ⟨its, rv, ⟨o, ho, hc, n, hd⟩, _⟩ := I.tuple hs
      obtain ⟨as, hr⟩ := Dp.readsAll I ds _ its ha rv
      exact ⟨_, Reads.tuple ho hc hd hr⟩
  | .dict _, _, _, h, _ => by cases h
theorem Dp.readsAll (I : Inv X pins σ H s) : ∀ (ds : List PyData) (vs : List V) (us : List Value), DpAll X.K H vs ds → Vals vs us → ∃ as, ReadsAll s.heap us ds as
  | [], _, _, h, r => by
    cases h
    cases r
    exact ⟨_, ReadsAll.nil⟩
  | d :: ds, _, _, h, r => by
    cases h with
    | cons h1 h2 =>
      cases r with
      | cons r1 r2 =>
        obtain ⟨as, q1⟩ := Dp.reads I d _ _ h1 r1
        obtain ⟨bs, q2⟩ := Dp.readsAll I ds _ _ h2 r2
        exact ⟨_, ReadsAll.cons q1 q2⟩
end
end
section
variable {X : Cx}
def rNeD (K : PySem.W.Frag) : R2 := fun x y H Q => ∃ d e, Dp K H x d ∧ Dp K H y e ∧ SeqAt.shaped d = true ∧ SeqAt.shaped e = true ∧ Q (.bl (!PyData.eqv d e)) H
theorem op_neD (hu : X.A.units + 64 < cLine) : OpR X (compareOp .NotEq) (rNeD X.K) := by
  intro pins s σ H x y v u Q I rx ry h
  obtain ⟨d, e, hd, he, sd, se, q⟩ := h
  obtain ⟨as, r1⟩ := Dp.reads I d x v hd rx
  obtain ⟨bs, r2⟩ := Dp.reads I e y u he ry
  exact SeqAt.compareNe_shaped r1 r2 sd se hu ⟨.bl _, H, I, rfl, q⟩
end
end L2
namespace L2
open PySem PySem.Spec PyProof.Rows
abbrev CellAt (h : Heap) (c : Addr) (v : Option Value) : Prop := h.IsCell c v
def relS (scope sc : Scope) : Scope :=
  { scope with names := scope.names.map fun (n, k) => if (k == .free && sc.kind == .function && sc.names.lookup n == some .cell) then (n, .cell) else (n, k) }
def cloFrom (cells : List (Str × Addr)) : List (Str × NameKind) → List (Str × Addr) → List (Str × Addr)
  | [], acc => acc
  | (n, k) :: r, acc => if k == .free then cloFrom cells r ((n, (cells.lookup n).getD 0) :: acc) else cloFrom cells r acc
theorem closure_loop (env : Env) (f : Str × NameKind → List (Str × Addr) → Sem (ForInStep (List (Str × Addr))))
    (hf : ∀ n k c, f (n, k) c = if k == .free then (do let a ← cellOf env n; pure (.yield ((n, a) :: c))) else pure (.yield c)) :
    ∀ (names : List (Str × NameKind)) (acc : List (Str × Addr)), (∀ y ∈ names, y.2 = .free → ∃ c, env.cells.lookup y.1 = some c) → forIn names acc f = pure (cloFrom env.cells names acc)
  | [], acc, _ => by rw [List.forIn_nil]; rfl
  | (n, k) :: r, acc, h => by
    rw [List.forIn_cons, hf]
    have ih := fun acc => closure_loop env f hf r acc fun y hy => h y (List.mem_cons_of_mem _ hy)
    unfold cloFrom
    by_cases hk : (k == NameKind.free) = true
    · rw [if_pos hk, if_pos hk]
      obtain ⟨c, hc⟩ := h (n, k) List.mem_cons_self (by simpa using hk)
      have e : cellOf env n = pure c := by unfold cellOf; rw [hc]
      rw [e]
      have e2 : (env.cells.lookup n).getD 0 = c := by rw [hc]; rfl
      rw [e2]
      exact ih _
    · rw [if_neg hk, if_neg hk]
      exact ih _
theorem closure_ok {scope : Scope} {env : Env} (h : ∀ y ∈ scope.names, y.2 = .free → ∃ c, env.cells.lookup y.1 = some c) : closureFor scope env = pure (cloFrom env.cells scope.names []) := by
  simp only [closureFor]
  rw [closure_loop env _ (fun n k c => rfl) scope.names [] h]
  rfl
theorem mem_lookup {α : Type} : ∀ {l : List (Str × α)} {n : Str} {c : α}, (n, c) ∈ l → ∃ c', l.lookup n = some c'
  | (k, v) :: r, n, c, h => by
    rw [List.lookup_cons]
    cases hb : n == k with
    | true => exact ⟨_, rfl⟩
    | false =>
      rcases List.mem_cons.mp h with e | h
      · cases e; simp at hb
      · exact mem_lookup h
theorem cloFrom_mem {cells : List (Str × Addr)} : ∀ {names : List (Str × NameKind)} {acc : List (Str × Addr)} {n : Str} {c : Addr}, (n, c) ∈ cloFrom cells names acc → (n, c) ∈ acc ∨ ((n, .free) ∈ names ∧ c = (cells.lookup n).getD 0)
  | [], _, _, _, h => .inl h
  | (m, k) :: r, acc, n, c, h => by
    unfold cloFrom at h
    split at h
    · rename_i hk
      have hk : k = .free := by simpa using hk
      rcases cloFrom_mem h with h | ⟨h1, h2⟩
      · rcases List.mem_cons.mp h with e | h
        · cases e; exact .inr ⟨hk ▸ List.mem_cons_self, rfl⟩
        · exact .inl h
      · exact .inr ⟨List.mem_cons_of_mem _ h1, h2⟩
    · rcases cloFrom_mem h with h | ⟨h1, h2⟩
      · exact .inl h
      · exact .inr ⟨List.mem_cons_of_mem _ h1, h2⟩
theorem cloFrom_acc {cells : List (Str × Addr)} : ∀ {names : List (Str × NameKind)} {acc : List (Str × Addr)} {p : Str × Addr}, p ∈ acc → p ∈ cloFrom cells names acc
  | [], _, _, h => h
  | (m, k) :: r, acc, p, h => by
    unfold cloFrom
    split
    · exact cloFrom_acc (List.mem_cons_of_mem _ h)
    · exact cloFrom_acc h
theorem cloFrom_has {cells : List (Str × Addr)} : ∀ {names : List (Str × NameKind)} {acc : List (Str × Addr)} {n : Str}, (n, .free) ∈ names → (n, (cells.lookup n).getD 0) ∈ cloFrom cells names acc
  | (m, k) :: r, acc, n, h => by
    unfold cloFrom
    rcases List.mem_cons.mp h with e | h
    · cases e
      exact cloFrom_acc List.mem_cons_self
    · split
      · exact cloFrom_has h
      · exact cloFrom_has h
theorem cells_mem : ∀ {names : List (Str × NameKind)} {h : Heap} {acc : List (Str × Addr)} {x : Str} {c : Addr}, (x, c) ∈ cellsFrom h.objs.size names acc →
    (x, c) ∈ acc ∨ ((x, .cell) ∈ names ∧ h.objs.size ≤ c ∧ CellAt (pushCells h names) c none)
  | [], _, _, _, _, h => .inl h
  | (n, k) :: r, h, acc, x, c, hm => by
    unfold cellsFrom at hm
    unfold pushCells
    split at hm
    · rename_i hk
      rw [if_pos hk]
      have hk : k = .cell := by simpa using hk
      rw [← Heap.size_push h { cls := .type "cell", data := .cell none }] at hm
      rcases cells_mem hm with hm | ⟨h1, h2, h3⟩
      · rcases List.mem_cons.mp hm with e | hm
        · cases e
          exact .inr ⟨hk ▸ List.mem_cons_self, Nat.le_refl _, _, pushCells_keeps r _ _ _ (Heap.get?_push_size _ rfl), rfl⟩
        · exact .inl hm
      · rw [Heap.size_push] at h2
        exact .inr ⟨List.mem_cons_of_mem _ h1, Nat.le_of_succ_le h2, h3⟩
    · rename_i hk
      rw [if_neg hk]
      rcases cells_mem hm with hm | ⟨h1, h2, h3⟩
      · exact .inl hm
      · exact .inr ⟨List.mem_cons_of_mem _ h1, h2, h3⟩
theorem cells_acc : ∀ {names : List (Str × NameKind)} {n : Nat} {acc : List (Str × Addr)} {p : Str × Addr}, p ∈ acc → p ∈ cellsFrom n names acc
  | [], _, _, _, h => h
  | (m, k) :: r, n, acc, p, h => by
    unfold cellsFrom
    split
    · exact cells_acc (List.mem_cons_of_mem _ h)
    · exact cells_acc h
theorem cells_has : ∀ {names : List (Str × NameKind)} {n : Nat} {acc : List (Str × Addr)} {x : Str}, (x, .cell) ∈ names → ∃ c, (x, c) ∈ cellsFrom n names acc
  | (m, k) :: r, n, acc, x, h => by
    unfold cellsFrom
    rcases List.mem_cons.mp h with e | h
    · cases e
      exact ⟨n, cells_acc List.mem_cons_self⟩
    · split
      · exact cells_has h
      · exact cells_has h
theorem cells_inj : ∀ {names : List (Str × NameKind)} {h : Heap} {acc : List (Str × Addr)} {x y : Str} {c : Addr}, (∀ p ∈ acc, p.2 < h.objs.size) → (∀ x y c, (x, c) ∈ acc → (y, c) ∈ acc → x = y) →
    (x, c) ∈ cellsFrom h.objs.size names acc → (y, c) ∈ cellsFrom h.objs.size names acc → x = y
  | [], _, _, _, _, _, _, hi, h1, h2 => hi _ _ _ h1 h2
  | (n, k) :: r, h, acc, x, y, c, hl, hi, h1, h2 => by
    unfold cellsFrom at h1 h2
    split at h1
    · rename_i hk
      rw [if_pos hk] at h2
      rw [← Heap.size_push h { cls := .type "cell", data := .cell none }] at h1 h2
      refine cells_inj (h := h.push _) (fun p hp => ?_) (fun x y c a b => ?_) h1 h2
      · rw [Heap.size_push]
        rcases List.mem_cons.mp hp with rfl | hp
        · exact Nat.lt_succ_self _
        · exact Nat.lt_succ_of_lt (hl p hp)
      · rcases List.mem_cons.mp a with e | a <;> rcases List.mem_cons.mp b with e' | b
        · cases e; cases e'; rfl
        · cases e; exact absurd (hl _ b) (Nat.lt_irrefl _)
        · cases e'; exact absurd (hl _ a) (Nat.lt_irrefl _)
        · exact hi _ _ _ a b
    · rename_i hk
      rw [if_neg hk] at h2
      exact cells_inj hl hi h1 h2
theorem newEnv_comp {M : Model} {A : Around} {E : Value → Shared → Prop} {s : Shared} {scope : Scope} {globals : Addr} {closure : List (Str × Addr)} {qual : Str} {func : Option Addr} {code : Value} {around : Env} {builtins : Addr} {Q : Env → Shared → Prop}
    (h : Q (newEnv scope s.heap.objs.size globals (cellsFrom (s.heap.objs.size + 1) scope.names closure) qual func code (some around) builtins)
      { s with heap := pushCells (s.heap.push { cls := .type "dict", data := .dict #[] }) scope.names }) :
    wpAny M A (newFunctionEnv scope globals closure [] qual func code (some around) builtins) Q E s := by
  simp only [newFunctionEnv, Option.isSome_some, if_true]
  refine wpAny_bind (wpAny_alloc ?_)
  refine wpAny_bind (wpAny_layCells _ (fun n k c => rfl) scope.names closure _ _ ?_)
  rw [show ({ s with heap := s.heap.push { cls := .type "dict", data := .dict #[] } } : Shared).heap.objs.size = s.heap.objs.size + 1 from Heap.size_push ..]
  rw [List.forIn_nil]
  exact wpAny_bind (wpAny_pure (wpAny_pure h))
theorem lookup_relS {sc : Scope} : ∀ {names : List (Str × NameKind)} {x : Str} {k : NameKind},
    (names.map fun (n, k) => if (k == NameKind.free && sc.kind == .function && sc.names.lookup n == some .cell) then (n, NameKind.cell) else (n, k)).lookup x = some k →
    ∃ k', names.lookup x = some k' ∧ (k = k' ∨ (k' = .free ∧ k = .cell))
  | [], _, _, h => by simp at h
  | (n, k₀) :: r, x, k, h => by
    have ih := @lookup_relS sc r x k
    have h' : List.lookup x ((if (k₀ == NameKind.free && sc.kind == .function && sc.names.lookup n == some .cell) = true then (n, NameKind.cell) else (n, k₀)) :: (r.map _)) = some k := h
    cases hx : x == n with
    | true =>
      simp only [List.lookup_cons, hx]
      by_cases hc : (k₀ == NameKind.free && sc.kind == .function && sc.names.lookup n == some .cell) = true
      · rw [if_pos hc] at h'
        simp only [List.lookup_cons, hx] at h'
        cases h'
        simp only [Bool.and_eq_true, beq_iff_eq] at hc
        exact ⟨k₀, rfl, .inr ⟨hc.1.1, rfl⟩⟩
      · rw [if_neg hc] at h'
        simp only [List.lookup_cons, hx] at h'
        cases h'
        exact ⟨_, rfl, .inl rfl⟩
    | false =>
      simp only [List.lookup_cons, hx]
      by_cases hc : (k₀ == NameKind.free && sc.kind == .function && sc.names.lookup n == some .cell) = true
      · rw [if_pos hc] at h'
        simp only [List.lookup_cons, hx] at h'
        exact ih h'
      · rw [if_neg hc] at h'
        simp only [List.lookup_cons, hx] at h'
        exact ih h'
structure BlkOk (N : List Str) (sc scope : Scope) (own : List (Str × Nat)) : Prop where
  kind : scope.kind = .function
  uniq : ∀ y ∈ scope.names, scope.names.lookup y.1 = some y.2
  ix : ∀ p ∈ own, N[p.2]? = some p.1
  free : ∀ y ∈ scope.names, y.2 = .free → sc.names.lookup y.1 = some .cell ∨ sc.names.lookup y.1 = some .free
  own : ∀ y ∈ scope.names, y.2 = .local ∨ y.2 = .cell → y.1 ∈ own.map (·.1) ∨ y.1 ∉ N
def wipe (σ : St) : List Nat → St
  | [] => σ
  | v :: vs => (wipe σ vs).set v none
theorem wipe_length (σ : St) : ∀ vs : List Nat, (wipe σ vs).length = σ.length
  | [] => rfl
  | v :: vs => by unfold wipe; rw [List.length_set, wipe_length σ vs]
theorem wipe_some {σ : St} {i : Nat} {x : V} : ∀ {vs : List Nat}, (wipe σ vs)[i]? = some (some x) → σ[i]? = some (some x) ∧ i ∉ vs
  | [], h => ⟨h, by simp⟩
  | v :: vs, h => by
    unfold wipe at h
    by_cases hi : v = i
    · subst hi
      by_cases hv : v < (wipe σ vs).length
      · rw [List.getElem?_set_self hv] at h; cases h
      · rw [List.getElem?_eq_none (by simpa using hv)] at h; cases h
    · rw [List.getElem?_set_ne hi] at h
      obtain ⟨h1, h2⟩ := wipe_some h
      exact ⟨h1, by simp only [List.mem_cons, not_or]; exact ⟨fun e => hi e.symm, h2⟩⟩
abbrev Cx.blk (X : Cx) (s : Shared) (H : Hp) (scope : Scope) (cenv : Env) (fp : List Addr) : Cx := { X with s_0 := s, H_0 := H, env := cenv, outer := X.stack, ex := fp, fn := fun x => scope.names.lookup x == some .cell, pn := [], xe := fun _ _ => False }
section
variable {X : Cx} {pins : List (Addr × Obj)} {σ : St} {H : Hp} {s : Shared}
theorem block_start {scope : Scope} {own : List (Str × Nat)} {fp : List Addr} (I : Inv X pins σ H s) (ok : BlkOk X.N X.env.scope scope own) (hN : X.N.Nodup) (hfp : ∀ b ∈ fp, FpOk X pins H b ∧ b < s.heap.objs.size) :
    Inv (X.blk s H scope (compEnvC scope (cellsFrom (s.heap.objs.size + 1) scope.names (cloFrom X.env.cells scope.names [])) s.heap.objs.size X.env) fp) [] (wipe σ (own.map (·.2))) H { s with heap := pushCells (s.heap.push { cls := .type "dict", data := .dict #[] }) scope.names } := by
  have hfree : ∀ y ∈ scope.names, y.2 = .free → ∃ c, X.env.cells.lookup y.1 = some c := fun y hy e => by
    rcases ok.free y hy e with k | k
    · exact I.ok.has _ (.inl k)
    · exact I.ok.has _ (.inr k)
  generalize hcenv : compEnvC scope (cellsFrom (s.heap.objs.size + 1) scope.names (cloFrom X.env.cells scope.names [])) s.heap.objs.size X.env = cenv
  have kp : ∀ b o, s.heap.get? b = some o → (pushCells (s.heap.push { cls := .type "dict", data := .dict #[] }) scope.names).get? b = some o := fun b o e => pushCells_keeps _ _ _ _ (Heap.get?_push_of_some _ e)
  have hL : cenv.locals = s.heap.objs.size := by rw [← hcenv]; rfl
  have hcl : cenv.cells = cellsFrom (s.heap.objs.size + 1) scope.names (cloFrom X.env.cells scope.names []) := by rw [← hcenv]; rfl
  have hsc : cenv.scope = relS scope X.env.scope := by rw [← hcenv]; rfl
  rw [← Heap.size_push s.heap { cls := .type "dict", data := .dict #[] }] at hcl
  have cm : ∀ {y c}, (y, c) ∈ cloFrom X.env.cells scope.names [] → X.env.cells.lookup y = some c ∧ c < s.heap.objs.size := fun {y c} hm => by
    rcases cloFrom_mem hm with hm | ⟨h1, rfl⟩
    · cases hm
    · obtain ⟨c, hc⟩ := hfree _ h1 rfl
      rw [hc]
      obtain ⟨w, z⟩ := I.cell _ _ hc
      exact ⟨rfl, z.lt⟩
  have mem : ∀ {y c}, cenv.cells.lookup y = some c → (X.env.cells.lookup y = some c ∧ c < s.heap.objs.size) ∨ (s.heap.objs.size + 1 ≤ c ∧ CellAt (pushCells (s.heap.push { cls := .type "dict", data := .dict #[] }) scope.names) c none) := fun {y c} e => by
    rw [hcl] at e
    rcases cells_mem (PySem.mem_of_lookup e) with hm | ⟨_, h2, h3⟩
    · exact .inl (cm hm)
    · rw [Heap.size_push] at h2; exact .inr ⟨h2, h3⟩
  have look : ∀ {y}, scope.names.lookup y = some .free → ∃ c, cenv.cells.lookup y = some c ∧ X.env.cells.lookup y = some c := fun {y} hl => by
    have hy : (y, NameKind.free) ∈ scope.names := PySem.mem_of_lookup hl
    obtain ⟨c', e'⟩ := mem_lookup (cells_acc (names := scope.names) (n := (s.heap.push { cls := .type "dict", data := .dict #[] }).objs.size) (cloFrom_has (cells := X.env.cells) (acc := []) hy))
    rw [← hcl] at e'
    refine ⟨c', e', ?_⟩
    rw [hcl] at e'
    rcases cells_mem (PySem.mem_of_lookup e') with hm | ⟨h1, _, _⟩
    · exact (cm hm).1
    · have := ok.uniq _ h1
      rw [hl] at this; cases this
  have okB : (X.blk s H scope cenv fp).Ok := by
    refine ⟨I.ok.mod, by show cenv.scope.kind = _; rw [hsc]; exact ok.kind, by show cenv.globals = _; rw [← hcenv]; exact I.ok.glob, by show cenv.builtins = _; rw [← hcenv]; exact I.ok.blt, by show s.heap.objs.size ≤ cenv.locals; rw [hL]; exact Nat.le_refl _,
      fun y z c e1 e2 => ?_, fun y hy => ?_, fun y c z e => ?_, I.ok.hd, I.ok.frames, .inl rfl, fun b hb => ⟨?_, fun y c e z => ?_⟩, I.bs, Nat.le_trans I.ok.bsz I.sz, fun b o e hb => ?_, fun b hb z => ?_, I.stack, I.stkFree⟩
    · have e1 : cenv.cells.lookup y = some c := e1
      have e2 : cenv.cells.lookup z = some c := e2
      rw [hcl] at e1 e2
      refine cells_inj (fun p hp => ?_) (fun y z c a b => I.ok.inj y z c (cm a).1 (cm b).1) (PySem.mem_of_lookup e1) (PySem.mem_of_lookup e2)
      rw [Heap.size_push]
      exact Nat.lt_succ_of_lt (cm (y := p.1) (c := p.2) hp).2
    · show ∃ c, cenv.cells.lookup y = some c
      have key : ∀ k, cenv.kindOf y = some k → (k = .cell ∨ k = .free) → ∃ c, cenv.cells.lookup y = some c := fun k hk hk' => by
        unfold Env.kindOf at hk
        rw [hsc] at hk
        obtain ⟨k', e, r⟩ := lookup_relS hk
        have : k' = .cell ∨ k' = .free := by
          rcases r with rfl | ⟨rfl, _⟩
          · exact hk'
          · exact .inr rfl
        rcases this with rfl | rfl
        · obtain ⟨c, hm⟩ := cells_has (n := (s.heap.push { cls := .type "dict", data := .dict #[] }).objs.size) (acc := cloFrom X.env.cells scope.names []) (PySem.mem_of_lookup e)
          obtain ⟨c', e'⟩ := mem_lookup hm
          exact ⟨c', by rw [hcl]; exact e'⟩
        · obtain ⟨c, h1, _⟩ := look e
          exact ⟨c, h1⟩
      rcases hy with hy | hy
      · exact key _ hy (.inl rfl)
      · exact key _ hy (.inr rfl)
    · have z : (scope.names.lookup y == some NameKind.cell) = true := z
      have z : scope.names.lookup y = some .cell := by simpa using z
      have e : cenv.cells.lookup y = some c := e
      rw [hcl] at e
      rcases cells_mem (PySem.mem_of_lookup e) with hm | ⟨_, h2, _⟩
      · rcases cloFrom_mem hm with hm | ⟨h1, _⟩
        · cases hm
        · have q := ok.uniq _ h1
          rw [z] at q; cases q
      · rw [Heap.size_push] at h2
        exact Nat.le_of_succ_le h2
    · show b ≠ cenv.locals
      rw [hL]; exact Nat.ne_of_lt (hfp b hb).2
    · have e : cenv.cells.lookup y = some c := e
      rcases mem e with ⟨h1, _⟩ | ⟨h1, _⟩
      · exact (hfp b hb).1.2.2.2.2.1 y c h1 z
      · have h2 : s.heap.objs.size + 1 ≤ b := by rw [← z]; exact h1
        exact absurd (Nat.lt_of_lt_of_le (hfp b hb).2 (Nat.le_of_succ_le h2)) (Nat.lt_irrefl _)
    · rcases (hfp b hb).1.2.2.2.1 with z | z
      · exact I.ok.noex b o e z
      · exact absurd (Nat.lt_of_lt_of_le (Heap.lt_size e) (Nat.le_trans I.ok.bsz z)) (Nat.lt_irrefl _)
    · rcases List.mem_cons.mp (I.stkSub b z) with z | z
      · exact (hfp b hb).1.2.1 z
      · exact (hfp b hb).1.2.2.1 z
  refine ⟨okB, rfl, I.bare, Un.kept kp, ⟨fun _ => none, ?_, fun i y av e1 e2 e3 => ?_⟩, fun y c e => ?_, ?_, fun y c e => ?_, fun p hp => ?_, I.hok.kept kp, by rw [wipe_length]; exact I.len⟩
  · show Heap.Ns _ cenv.locals _
    rw [hL]
    exact Heap.Ns.keeps (Heap.Ns.new ..) fun b o e => pushCells_keeps _ _ _ _ e
  · obtain ⟨e2, hne⟩ := wipe_some e2
    have hfr : scope.names.lookup y = some .free ∧ (cenv.kindOf y = some .cell ∨ cenv.kindOf y = some .free) := by
      have key : ∀ k, cenv.scope.names.lookup y = some k → k = .local ∨ k = .cell ∨ k = .free → scope.names.lookup y = some .free ∧ (cenv.kindOf y = some .cell ∨ cenv.kindOf y = some .free) := fun k hk hk' => by
        have hk0 := hk
        rw [hsc] at hk
        obtain ⟨k', e, r⟩ := lookup_relS hk
        have no : ¬ (k' = .local ∨ k' = .cell) := fun hh => by
          rcases ok.own _ (PySem.mem_of_lookup e) hh with e' | e'
          · obtain ⟨p, hp, hpy⟩ := List.mem_map.mp e'
            have e3 := ok.ix p hp
            have : p.1 = y := hpy
            rw [this] at e3
            exact hne (List.mem_map.mpr ⟨p, hp, nodup_ix hN e3 e1⟩)
          · exact e' (List.mem_of_getElem? e1)
        rcases r with rfl | ⟨rfl, rfl⟩
        · rcases hk' with rfl | rfl | rfl
          · exact absurd (.inl rfl) no
          · exact absurd (.inr rfl) no
          · exact ⟨e, .inr hk0⟩
        · exact ⟨e, .inl hk0⟩
      have e3 : Vis cenv.scope y := e3
      rcases e3 with e3 | e3 | e3
      · exact key _ e3 (.inl rfl)
      · exact key _ e3 (.inr (.inl rfl))
      · exact key _ e3 (.inr (.inr rfl))
    obtain ⟨m, hn, hl⟩ := I.loc
    have hvis : Vis X.env.scope y := (ok.free _ (PySem.mem_of_lookup hfr.1) rfl).elim (fun k => .inr (.inl k)) (fun k => .inr (.inr k))
    obtain ⟨w, r, q⟩ := hl i y av e1 e2 hvis
    refine ⟨w, r, .inr ⟨hfr.2, ?_⟩⟩
    obtain ⟨c, h1, h2⟩ := look hfr.1
    rcases q with ⟨k, _⟩ | ⟨_, c', e', z⟩
    · have k : X.env.scope.names.lookup y = some .local := k
      rcases ok.free _ (PySem.mem_of_lookup hfr.1) rfl with k' | k' <;> rw [show X.env.scope.names.lookup y = _ from k'] at k <;> cases k
    · rw [h2] at e'; cases e'
      exact ⟨c, h1, z.keeps kp⟩
  · have e : cenv.cells.lookup y = some c := e
    rcases mem e with ⟨h1, _⟩ | ⟨_, z⟩
    · obtain ⟨w, z⟩ := I.cell y c h1
      exact ⟨w, z.keeps kp⟩
    · exact ⟨_, z⟩
  · show H cenv.locals = none
    rw [hL]; exact I.hok.fresh (Nat.le_refl _)
  · have e : cenv.cells.lookup y = some c := e
    rcases mem e with ⟨h1, _⟩ | ⟨h1, _⟩
    · exact I.freeC y c h1
    · exact I.hok.fresh (Nat.le_of_succ_le h1)
  · exact absurd (show p ∈ ([] : List (Addr × Obj)) ++ [] from hp) (by simp)
theorem app_ok {E : Value → Shared → Prop} {D : Addr} {xs : List V} {y : V} {v : Value} {Q : Value → Shared → Prop} (I : Inv X pins σ H s) (hD : H D = some (.lst xs)) (hz : xs.length < sizeLine) (r : RelV y v)
    (h : ∀ s', Inv X pins σ (upd H D (.lst (xs ++ [y]))) s' → Q .none s') : wpAny (model X.prog X.w) X.A (call (.builtin "list.append") [.ref D, v]) Q E s := by
  obtain ⟨hz', its, n, ri, e⟩ := I.hok D _ hD
  have hl := ri.length
  refine append_at (hsz := by rw [List.size_toArray]; omega) e fun h' sb ho' => ?_
  refine h { s with heap := h' } (I.write (t' := s.toks) (by rw [hD]; trivial) (.inl rfl) (fun b u hb q => (sb.2 b hb).trans q) ⟨_, ho'⟩ ⟨by rw [List.length_append]; exact hz, its ++ [v], n + 1, ri.append (.cons r .nil), ?_⟩)
  rw [ho']
  simp
def PTs (X : Cx) (ifs : List Expr) (t : TT) : Prop :=
  ∀ (pins : List (Addr × Obj)) (s : Shared) (σ : St) (H : Hp) (Q : Bool → Hp → Prop), Inv X pins σ H s → t σ H Q →
    wpAny (model X.prog X.w) X.A (forIn ifs true fun c r => if r = true then do let ok ← isTrue c X.env (eval c X.env); pure (ForInStep.yield ok) else pure (ForInStep.yield r)) (TP X pins σ Q) X.xe s
def tYes : TT := fun _ H Q => Q true H
theorem pts_nil : PTs X [] tYes := fun _ _ _ H _ I h => wpAny_tests_nil ⟨H, I, h⟩
theorem pts_one {c : Expr} {t : TT} (h : PT X c t) : PTs X [c] t := fun pins s σ H Q I hw => wpAny_tests_one (h pins s σ H Q I hw)
end
theorem thnF {α : Type} {t : Sem α} {Q Q' : α → Shared → Prop} {M : Model} {A : Around} {E : Value → Shared → Prop} {s : Shared} (h : wpAny M A t Q (fun _ _ => False) s) (hQ : ∀ a s, Q a s → Q' a s) : wpAny M A t Q' E s := wpAny_mono h hQ fun _ _ z => False.elim z
theorem compLoop_any {prog : Program} {w : World} {A : Around} {R : Result → Shared → Prop} {s : Shared} {elt target iter : Expr} {ifs : List Expr} {scope : Scope} {pos : Pos} {it acc : Value} {env : Env} (I : Nat → Shared → Prop)
    (turn : ∀ n s, I n s → wpAny (model prog w) A (pyNext it) (fun r s₁ => match r with
      | none => R (.ok .next) s₁
      | some v => wpAny (model prog w) A (letOwnedTupleGo target it v) (fun _ s₁' => wpAny (model prog w) A (assign target env v) (fun _ s₂ =>
          wpAny (model prog w) A (forIn ifs true fun c r => if r = true then do let ok ← isTrue c env (eval c env); pure (ForInStep.yield ok) else pure (ForInStep.yield r)) (fun ok s₃ =>
            if ok = true then wpAny (model prog w) A (eval elt env) (fun x s₄ =>
              wpAny (model prog w) A (call (.builtin "list.append") [acc, x]) (fun _ s₅ => ∃ m, m < n ∧ I m s₅) (notedBy (model prog w) A env fun e s' => R (.error e) s') s₄) (notedBy (model prog w) A env fun e s' => R (.error e) s') s₃
            else ∃ m, m < n ∧ I m s₃) (notedBy (model prog w) A env fun e s' => R (.error e) s') s₂) (notedBy (model prog w) A env fun e s' => R (.error e) s') s₁') (notedBy (model prog w) A env fun e s' => R (.error e) s') s₁) (notedBy (model prog w) A env fun e s' => R (.error e) s') s)
    (n : Nat) (h : I n s) :
    codeAny (model prog w) A (.compLoop (.ListComp elt [⟨target, iter, ifs, 0⟩] scope pos) 0 it acc env) R s := by
  refine codeAny_loop rfl I (fun n s hI => ?_) n h
  show wpAny _ A ((compTurn (.ListComp elt [⟨target, iter, ifs, 0⟩] scope pos) 0 it acc env).onRaise (fun x => do noteFrame x env; theTreesLotGoes x)) _ _ s
  refine wpAny_noted ?_
  rw [compTurn_list]
  refine wpAny_bind (wpAny_standAt (wpAny_bind (wpAny_mono (turn n s hI) (fun r s₁ h₁ => ?_) fun _ _ h' => h')))
  cases r with
  | none => exact wpAny_pure h₁
  | some v =>
    refine wpAny_bind (wpAny_mono h₁ (fun _ s₁' h₁' => ?_) fun _ _ h' => h')
    refine wpAny_bind (wpAny_mono h₁' (fun _ s₂ h₂ => wpAny_bind (wpAny_mono h₂ (fun ok s₃ h₃ => ?_) fun _ _ h' => h')) fun _ _ h' => h')
    cases ok with
    | false => exact wpAny_pure ⟨rfl, h₃⟩
    | true =>
      exact wpAny_bind (wpAny_bind (wpAny_mono h₃ (fun x s₄ h₄ => wpAny_bind (wpAny_mono h₄ (fun _ s₅ h₅ => wpAny_pure (wpAny_pure ⟨rfl, h₅⟩)) fun _ _ h' => h')) fun _ _ h' => h'))
section
variable {X : Cx}
def tLc (wi : TI) (g : TG) (tt : TT) (te : TE) (vs : List Nat) : TE := fun σ H Q => wi σ H fun J H1 => ∀ D, H1 D = none → ∃ W : Nat → Nat → Hp → Prop, (∃ m, W 0 m (upd H1 D (.lst []))) ∧ ∀ i m H, W i m H →
  (J.stop i H ∧ Q (.ref D) H) ∨ (J.go i H ∧ ∃ Nx : Hp → Prop, (∀ H', Nx H' → ∃ m', m' < m ∧ W (i + 1) m' H') ∧ ∀ x H', J.yld i H x H' → g x (wipe σ vs) H' fun σ2 H2 => wipe σ2 vs = wipe σ vs ∧ tt σ2 H2 fun b H3 =>
    if b = true then te σ2 H3 fun y H4 => ∃ acc, H4 D = some (.lst acc) ∧ acc.length < sizeLine ∧ Nx (upd H4 D (.lst (acc ++ [y]))) else Nx H3)
theorem lc_core {pins : List (Addr × Obj)} {s : Shared} {σ : St} {H : Hp} {Q : VK} {elt tg iter : Expr} {ifs : List Expr} {scope : Scope} {own : List (Str × Nat)} {pos pos' : Pos} {wi : TI} {g : TG} {tt : TT} {te : TE} {use : Option (Value → Sem Unit)} {Qf : Value → Shared → Prop}
    (hc : X.calm = true) (hN : X.N.Nodup) (I : Inv X pins σ H s) (hi : PI X tg iter wi) (ok : BlkOk X.N X.env.scope scope own)
    (hg : ∀ (s : Shared) (H : Hp) (C : Addr) (cl : List (Str × Addr)) (fp : List Addr), PG (X.blk s H scope (compEnvC scope cl C X.env) fp) tg g) (ht : ∀ (s : Shared) (H : Hp) (C : Addr) (cl : List (Str × Addr)) (fp : List Addr), PTs (X.blk s H scope (compEnvC scope cl C X.env) fp) ifs tt)
    (he : ∀ (s : Shared) (H : Hp) (C : Addr) (cl : List (Str × Addr)) (fp : List Addr), PE (X.blk s H scope (compEnvC scope cl C X.env) fp) elt te) (hs : ∀ x, foldedSetIterable iter X.env x = pure x)
    (h : tLc wi g tt te (own.map (·.2)) σ H Q)
    (hRR : ∀ D C s' m H', Inv X pins σ H' s' → Q (.ref D) H' → s'.heap.Ns C m → FpOk X pins H' C → compPost (model X.prog X.w) X.A X.xe use Qf (.ref D) C (.ok .next) s') :
    wpAny (model X.prog X.w) X.A (comprehension (.ListComp elt [⟨tg, iter, ifs, 0⟩] scope pos) scope X.env pos' (newList []) false (eval iter X.env) use) Qf X.xe s := by
  have hfree : ∀ y ∈ scope.names, y.2 = .free → ∃ c, X.env.cells.lookup y.1 = some c := fun y hy e => by
    rcases ok.free y hy e with k | k
    · exact I.ok.has _ (.inl k)
    · exact I.ok.has _ (.inr k)
  refine wpAny_comprehension_free (use := use) rfl hs (closure_ok hfree) ok.kind (fun y hy e => by rw [ok.uniq y hy, e])
    (thn (hi pins s σ H _ I h) fun xv s1 hx => thn hx fun itv s2 h2 => ?_)
  obtain ⟨it, fp, tn, J, H2, e, I2, T, st2, f2, q⟩ := h2
  subst e
  refine wpAny_newObj_type (newEnv_comp ?_) (by show 0 ≤ sizeLine; decide)
  generalize hD : s2.heap.objs.size = D
  have hDn : H2 D = none := I2.hok.fresh (Nat.le_of_eq hD)
  obtain ⟨W, ⟨m0, w0⟩, turn⟩ := q D hDn
  generalize hs3 : ({ s2 with heap := s2.heap.push { cls := .type "list", data := .seq ([] : List Value).toArray } } : Shared) = s3
  have I3 : Inv X pins σ (upd H2 D (.lst [])) s3 := by
    rw [← hs3]
    refine I2.laid (t' := s2.toks) (fun b o e => Heap.get?_push_of_some _ e) (Nat.le_of_eq hD) ⟨Nat.zero_le _, [], 0, .nil, ?_⟩
    rw [← hD]
    exact Heap.get?_push_size _ rfl
  have h3 : s3.heap = s2.heap.push { cls := .type "list", data := .seq ([] : List Value).toArray } := by rw [← hs3]
  have sz : ∀ b ∈ fp, b < s2.heap.objs.size := fun b hb => by
    obtain ⟨o, e, _⟩ := T.obj _ _ st2 b hb
    exact Heap.lt_size e
  have f3 : ∀ b ∈ fp, FpOk X pins (upd H2 D (.lst [])) b ∧ b < s3.heap.objs.size := fun b hb => by
    have hlt := sz b hb
    refine ⟨⟨?_, (f2 b hb).2⟩, by rw [h3, Heap.size_push]; exact Nat.lt_succ_of_lt hlt⟩
    rw [upd_ne (by rw [← hD]; exact Nat.ne_of_lt hlt)]
    exact (f2 b hb).1
  have st3 : tn 0 s3.heap := T.keep _ _ _ st2 fun b _ o e => by rw [h3]; exact Heap.get?_push_of_some _ e
  have I4 := block_start I3 ok hN f3
  have pg := hg s3 (upd H2 D (.lst [])) s3.heap.objs.size (cellsFrom (s3.heap.objs.size + 1) scope.names (cloFrom X.env.cells scope.names [])) fp
  have pt := ht s3 (upd H2 D (.lst [])) s3.heap.objs.size (cellsFrom (s3.heap.objs.size + 1) scope.names (cloFrom X.env.cells scope.names [])) fp
  have pe := he s3 (upd H2 D (.lst [])) s3.heap.objs.size (cellsFrom (s3.heap.objs.size + 1) scope.names (cloFrom X.env.cells scope.names [])) fp
  show codeAny _ _ (.compStart (.ListComp elt [⟨tg, iter, ifs, 0⟩] scope pos) 0 (.ref it) (.ref D) (compEnvC scope (cellsFrom (s3.heap.objs.size + 1) scope.names (cloFrom X.env.cells scope.names [])) s3.heap.objs.size X.env)) (compPost (model X.prog X.w) X.A X.xe use Qf (.ref D) s3.heap.objs.size) { s3 with heap := pushCells (s3.heap.push { cls := .type "dict", data := .dict #[] }) scope.names }
  have nfp : ∀ b ∈ fp, (upd H2 D (.lst [])) b = none := fun b hb => (f3 b hb).1.1
  generalize hce : compEnvC scope (cellsFrom (s3.heap.objs.size + 1) scope.names (cloFrom X.env.cells scope.names [])) s3.heap.objs.size X.env = ce at I4 pg pt pe ⊢
  have cL : ce.locals = s3.heap.objs.size := by subst hce; rfl
  generalize hH3 : upd H2 D (.lst []) = H3 at I3 I4 pg pt pe w0 nfp f3
  generalize hs4 : ({ s3 with heap := pushCells (s3.heap.push { cls := .type "dict", data := .dict #[] }) scope.names } : Shared) = s4 at I4 ⊢
  have st4 : tn 0 s4.heap := T.keep _ _ _ st3 fun b _ o e => by rw [← hs4]; exact pushCells_keeps _ _ _ _ (Heap.get?_push_of_some _ e)
  have stat : ∀ {σ' : St} {H' : Hp} {s' : Shared}, Inv (X.blk s3 H3 scope ce fp) [] σ' H' s' → (∀ b ∈ fp, H' b = none) → ∀ b ∈ fp, FpOk (X.blk s3 H3 scope ce fp) [] H' b := fun {σ' H' s'} I' hn b hb =>
    ⟨hn b hb, (I'.ok.exf b hb).1, I'.ok.exfs b hb, .inl hb, fun x c e => (I'.ok.exf b hb).2 x c e, fun p hp => absurd (show p ∈ ([] : List (Addr × Obj)) ++ [] from hp) (by simp)⟩
  have loop : codeAny (model X.prog X.w) X.A (.compLoop (.ListComp elt [⟨tg, iter, ifs, 0⟩] scope pos) 0 (.ref it) (.ref D) ce) (compPost (model X.prog X.w) X.A X.xe use Qf (.ref D) s3.heap.objs.size) s4 := by
    refine compLoop_any (fun n s' => ∃ i H', Inv (X.blk s3 H3 scope ce fp) [] (wipe σ (own.map (·.2))) H' s' ∧ tn i s'.heap ∧ (∀ b ∈ fp, H' b = none) ∧ W i n H') ?_ m0 ⟨0, H3, I4, st4, nfp, w0⟩
    rintro n s5 ⟨i, H5, I5, st5, n5, w5⟩
    rcases turn i n H5 w5 with ⟨stop, qq⟩ | ⟨go, Nx, hNx, step⟩
    · have td := T.done (X.blk s3 H3 scope ce fp) rfl rfl rfl hc i [] s5 _ H5 (fun _ _ => False) I5 (stat I5 n5) st5 stop
      refine thnF td fun r s6 ⟨hr, I6⟩ => ?_
      subst hr
      have I7 : Inv X pins σ H5 s6 := I3.call' (ch := fp) I6.os I6.base I6.hok I6.bare fun b hb => ⟨(f3 b hb).1.2.2.2.1, (f3 b hb).1.2.1, (f3 b hb).1.2.2.2.2.1, (f3 b hb).1.2.2.2.2.2⟩
      have nC : H5 s3.heap.objs.size = none := by
        have z : H5 ce.locals = none := I6.free
        rw [cL] at z
        exact z
      obtain ⟨m, hn, _⟩ := I6.loc
      have hn : s6.heap.Ns ce.locals m := hn
      rw [cL] at hn
      exact hRR D s3.heap.objs.size s6 m H5 I7 qq hn (I3.fpOk (Nat.le_refl _) nC)
    · have ti := T.item (X.blk s3 H3 scope ce fp) rfl rfl rfl hc i [] s5 _ H5 (fun _ _ => False) I5 (stat I5 n5) st5 go
      refine thnF ti fun r s6 ⟨u, hr, h6⟩ => ?_
      subst hr
      refine thnF h6 fun _ s7 ⟨x, H7, I7, r7, y7, st7, n7⟩ => ?_
      have I7' := I7.pinned (stat I7 n7) (T.obj _ _ st7)
      refine thnF (pg _ s7 _ H7 x u _ I7' r7 (step x H7 y7)) fun _ s8 ⟨σ8, H8, I8, hw8, q8⟩ => ?_
      refine thnF (pt _ s8 σ8 H8 _ I8 q8) fun b s9 ⟨H9, I9, q9⟩ => ?_
      have fin : ∀ {s' : Shared} {H' : Hp}, Inv (X.blk s3 H3 scope ce fp) ([] ++ pinsAt fp s7.heap) σ8 H' s' → Nx H' → ∃ m, m < n ∧ ∃ i H', Inv (X.blk s3 H3 scope ce fp) [] (wipe σ (own.map (·.2))) H' s' ∧ tn i s'.heap ∧ (∀ b ∈ fp, H' b = none) ∧ W i m H' := fun {s' H'} I' nx => by
        obtain ⟨m', hm, w'⟩ := hNx H' nx
        have pin' : ∀ b ∈ fp, ∀ o, s7.heap.get? b = some o → s'.heap.get? b = some o ∧ H' b = none := fun b hb o e =>
          let z := I'.pin (b, o) (List.mem_append_right _ (List.mem_append_right _ (mem_pinsAt hb e)))
          ⟨z.1, z.2.1⟩
        have hl : (wipe σ (own.map (·.2))).length = σ8.length := by rw [← hw8, wipe_length]
        refine ⟨m', hm, i + 1, H', (I'.unpinned (pins := [])).weak hl (fun j v e => ?_), T.keep _ _ _ st7 fun b hb o e => (pin' b hb o e).1, fun b hb => ?_, w'⟩
        · rw [← hw8] at e
          exact (wipe_some e).1
        · obtain ⟨o, e, _⟩ := T.obj _ _ st7 b hb
          exact (pin' b hb o e).2
      cases b with
      | false =>
        simp only [Bool.false_eq_true, if_false] at q9 ⊢
        exact fin I9 q9
      | true =>
        simp only [if_true] at q9 ⊢
        refine thnF (pe _ s9 σ8 H9 _ I9 q9) fun z s10 ⟨yv, H10, I10, r10, acc, hD10, hz10, nx⟩ => ?_
        exact app_ok (X := X.blk s3 H3 scope ce fp) I10 hD10 hz10 r10 fun s11 I11 => fin I11 nx
  exact codeAny_compStart_list loop (T.self X.A 0 _ _ _ st4 loop)
theorem pe_lc {elt tg iter : Expr} {ifs : List Expr} {scope : Scope} {own : List (Str × Nat)} {pos : Pos} {wi : TI} {g : TG} {tt : TT} {te : TE} (hc : X.calm = true) (hN : X.N.Nodup) (hi : PI X tg iter wi) (ok : BlkOk X.N X.env.scope scope own)
    (hg : ∀ (s : Shared) (H : Hp) (C : Addr) (cl : List (Str × Addr)) (fp : List Addr), PG (X.blk s H scope (compEnvC scope cl C X.env) fp) tg g) (ht : ∀ (s : Shared) (H : Hp) (C : Addr) (cl : List (Str × Addr)) (fp : List Addr), PTs (X.blk s H scope (compEnvC scope cl C X.env) fp) ifs tt)
    (he : ∀ (s : Shared) (H : Hp) (C : Addr) (cl : List (Str × Addr)) (fp : List Addr), PE (X.blk s H scope (compEnvC scope cl C X.env) fp) elt te) (hs : ∀ x, foldedSetIterable iter X.env x = pure x := by intro _; rfl) :
    PE X (.ListComp elt [⟨tg, iter, ifs, 0⟩] scope pos) (tLc wi g tt te (own.map (·.2))) := by
  intro pins s σ H Q I h
  rw [eval_ListComp]
  refine lc_core hc hN I hi ok hg ht he hs h fun D C s' m H' I' q hn f => ⟨m, hn, fun h'' sb => ?_⟩
  obtain ⟨f0, f1, f2, f3, f4, f5⟩ := f
  exact ⟨.ref D, H', I'.turned (t' := s'.toks) (fun b o hb e => (sb.2 b hb).trans e) f0 f1 f3 f4 f5, rfl, q⟩
theorem ps_setLc {i : Nat} {y : Str} {py : Pos} {elt tg iter : Expr} {ifs : List Expr} {scope : Scope} {own : List (Str × Nat)} {pos spos : Pos} {wi : TI} {g : TG} {tt : TT} {te : TE} (hc : X.calm = true) (hN : X.N.Nodup) (hy : X.N[i]? = some y) (hyl : X.env.scope.names.lookup y = some .local)
    (hsw : swapsWith (.ListComp elt [⟨tg, iter, ifs, 0⟩] scope pos) (some (.Name y py)) spos.line X.env = pure true) (hi : PI X tg iter wi) (ok : BlkOk X.N X.env.scope scope own)
    (hg : ∀ (s : Shared) (H : Hp) (C : Addr) (cl : List (Str × Addr)) (fp : List Addr), PG (X.blk s H scope (compEnvC scope cl C X.env) fp) tg g) (ht : ∀ (s : Shared) (H : Hp) (C : Addr) (cl : List (Str × Addr)) (fp : List Addr), PTs (X.blk s H scope (compEnvC scope cl C X.env) fp) ifs tt)
    (he : ∀ (s : Shared) (H : Hp) (C : Addr) (cl : List (Str × Addr)) (fp : List Addr), PE (X.blk s H scope (compEnvC scope cl C X.env) fp) elt te) (hs : ∀ x, foldedSetIterable iter X.env x = pure x := by intro _; rfl) :
    PS X (.Assign [.Name y py] (.ListComp elt [⟨tg, iter, ifs, 0⟩] scope pos) spos) (tAsg (tLc wi g tt te (own.map (·.2))) (gName i)) := by
  intro pins s σ H D I h
  rw [exec_Assign_Name_used _ _ _ _ hsw]
  refine wpAny_bind (wpAny_standAt (wpAny_bind ?_))
  show wpAny _ X.A (do let _ ← comprehension (.ListComp elt [⟨tg, iter, ifs, 0⟩] scope pos) scope X.env (firstIterPos [⟨tg, iter, ifs, 0⟩] pos) (newList []) false (eval iter X.env) (some (assign (.Name y py) X.env))) _ _ s
  have h : tLc wi g tt te (own.map (·.2)) σ H (fun x H1 => gName i x σ H1 D.nx) := h
  refine wpAny_bind (thn (lc_core (Qf := fun _ s' => SP X pins D .next s') hc hN I hi ok hg ht he hs h fun L C s' m H' I' q hn f => ?_) fun _ s' hq => wpAny_pure (wpAny_pure hq))
  show wpAny _ _ (assign (.Name y py) X.env (.ref L)) _ _ _
  refine wpAny_assign_Name (store_ok2 (v := V.ref L) I' hN hy (.inl hyl) rfl (fun s2 I2 ⟨a, sb, ha⟩ => ?_) (.inr hyl))
  obtain ⟨f0, f1, f2, f3, f4, f5⟩ := f
  have haC : C ≠ a := by
    rcases ha with z | z
    · rw [z]; exact f1
    · exact fun e => f4 y a z e.symm
  refine ⟨m, hn.sameBut sb haC, fun h3 sb3 => ?_⟩
  exact ⟨_, H', I2.turned (t' := s2.toks) (fun b o hb e => (sb3.2 b hb).trans e) f0 f1 f3 f4 f5, q⟩
theorem sw_true {elt : Expr} {gs : List Comprehension} {scope : Scope} {pos py : Pos} {y : Str} {l : Nat} {env : Env} (hk : env.scope.kind = .function) (hy : env.scope.names.lookup y = some .local) (hl : (py.line == pos.line) = true)
    (ha : (scope.names.any fun (n, k) => n == y && (k == .local || k == .cell)) = false) : swapsWith (.ListComp elt gs scope pos) (some (.Name y py)) l env = pure true := by
  have ky : env.kindOf y = some .local := hy
  have hb : env.blockKind = .function := by unfold Env.blockKind; rw [hk]; rfl
  unfold swapsWith
  simp only [hb, ky, ha, Expr.pos, hl]
  rfl
end
theorem lc_range {lo : Int} {n : Nat} {g : TG} {tt : TT} {te : TE} {vs : List Nat} {σ : St} {H1 : Hp} {D : Addr} {Qd : Hp → Prop} (Pv : Nat → Hp → Prop) (h0 : Pv 0 (upd H1 D (.lst [])))
    (hs : ∀ i H, i < n → Pv i H → g (.int (lo + i)) (wipe σ vs) H fun σ2 H2 => wipe σ2 vs = wipe σ vs ∧ tt σ2 H2 fun b H3 =>
      if b = true then te σ2 H3 fun y H4 => ∃ acc, H4 D = some (.lst acc) ∧ acc.length < sizeLine ∧ Pv (i + 1) (upd H4 D (.lst (acc ++ [y]))) else Pv (i + 1) H3) (hd : ∀ H, Pv n H → Qd H) :
    ∃ W : Nat → Nat → Hp → Prop, (∃ m, W 0 m (upd H1 D (.lst []))) ∧ ∀ i m H, W i m H →
      ((Itr lo n).stop i H ∧ Qd H) ∨ ((Itr lo n).go i H ∧ ∃ Nx : Hp → Prop, (∀ H', Nx H' → ∃ m', m' < m ∧ W (i + 1) m' H') ∧ ∀ x H', (Itr lo n).yld i H x H' → g x (wipe σ vs) H' fun σ2 H2 => wipe σ2 vs = wipe σ vs ∧ tt σ2 H2 fun b H3 =>
        if b = true then te σ2 H3 fun y H4 => ∃ acc, H4 D = some (.lst acc) ∧ acc.length < sizeLine ∧ Nx (upd H4 D (.lst (acc ++ [y]))) else Nx H3) := by
  refine ⟨fun i m H => m = n - i ∧ i ≤ n ∧ Pv i H, ⟨n, by simp, Nat.zero_le _, h0⟩, ?_⟩
  rintro i m H ⟨rfl, hi, p⟩
  by_cases hlt : i < n
  · refine .inr ⟨hlt, Pv (i + 1), fun H' p' => ⟨n - (i + 1), by omega, rfl, hlt, p'⟩, fun x H' y => ?_⟩
    obtain ⟨e, y⟩ := y
    subst e y
    exact hs i _ hlt p
  · have e : i = n := by omega
    subst e
    exact .inl ⟨Nat.le_refl _, hd H p⟩
theorem lc_list {K : PySem.W.Frag} {a : Addr} {xs : List V} {g : TG} {tt : TT} {te : TE} {vs : List Nat} {σ : St} {H1 : Hp} {D : Addr} {Qd : Hp → Prop} (Pv : Nat → Hp → Prop) (h0 : Pv 0 (upd H1 D (.lst []))) (hl : ∀ i H, i ≤ xs.length → Pv i H → SqL K H a xs)
    (hs : ∀ i x H, xs[i]? = some x → Pv i H → g x (wipe σ vs) H fun σ2 H2 => wipe σ2 vs = wipe σ vs ∧ tt σ2 H2 fun b H3 =>
      if b = true then te σ2 H3 fun y H4 => ∃ acc, H4 D = some (.lst acc) ∧ acc.length < sizeLine ∧ Pv (i + 1) (upd H4 D (.lst (acc ++ [y]))) else Pv (i + 1) H3) (hd : ∀ H, Pv xs.length H → Qd H) :
    ∃ W : Nat → Nat → Hp → Prop, (∃ m, W 0 m (upd H1 D (.lst []))) ∧ ∀ i m H, W i m H →
      ((Itl K a).stop i H ∧ Qd H) ∨ ((Itl K a).go i H ∧ ∃ Nx : Hp → Prop, (∀ H', Nx H' → ∃ m', m' < m ∧ W (i + 1) m' H') ∧ ∀ x H', (Itl K a).yld i H x H' → g x (wipe σ vs) H' fun σ2 H2 => wipe σ2 vs = wipe σ vs ∧ tt σ2 H2 fun b H3 =>
        if b = true then te σ2 H3 fun y H4 => ∃ acc, H4 D = some (.lst acc) ∧ acc.length < sizeLine ∧ Nx (upd H4 D (.lst (acc ++ [y]))) else Nx H3) := by
  refine ⟨fun i m H => m = xs.length - i ∧ i ≤ xs.length ∧ Pv i H, ⟨xs.length, by simp, Nat.zero_le _, h0⟩, ?_⟩
  rintro i m H ⟨rfl, hi, p⟩
  have q := hl i H hi p
  by_cases hlt : i < xs.length
  · refine .inr ⟨⟨xs, xs[i], q, by simp [hlt]⟩, Pv (i + 1), fun H' p' => ⟨xs.length - (i + 1), by omega, rfl, hlt, p'⟩, fun x H' y => ?_⟩
    obtain ⟨e, y⟩ := y
    subst e
    exact hs i x _ (y xs q) p
  · have e : i = xs.length := by omega
    subst e
    exact .inl ⟨⟨xs, q, Nat.le_refl _⟩, hd H p⟩
theorem lc_tup {K : PySem.W.Frag} {a : Addr} {xs : List V} {g : TG} {tt : TT} {te : TE} {vs : List Nat} {σ : St} {H1 : Hp} {D : Addr} {Qd : Hp → Prop} (Pv : Nat → Hp → Prop) (h0 : Pv 0 (upd H1 D (.lst []))) (hl : ∀ i H, i ≤ xs.length → Pv i H → SqT K H a xs)
    (hs : ∀ i x H, xs[i]? = some x → Pv i H → g x (wipe σ vs) H fun σ2 H2 => wipe σ2 vs = wipe σ vs ∧ tt σ2 H2 fun b H3 =>
      if b = true then te σ2 H3 fun y H4 => ∃ acc, H4 D = some (.lst acc) ∧ acc.length < sizeLine ∧ Pv (i + 1) (upd H4 D (.lst (acc ++ [y]))) else Pv (i + 1) H3) (hd : ∀ H, Pv xs.length H → Qd H) :
    ∃ W : Nat → Nat → Hp → Prop, (∃ m, W 0 m (upd H1 D (.lst []))) ∧ ∀ i m H, W i m H →
      ((Itt K a).stop i H ∧ Qd H) ∨ ((Itt K a).go i H ∧ ∃ Nx : Hp → Prop, (∀ H', Nx H' → ∃ m', m' < m ∧ W (i + 1) m' H') ∧ ∀ x H', (Itt K a).yld i H x H' → g x (wipe σ vs) H' fun σ2 H2 => wipe σ2 vs = wipe σ vs ∧ tt σ2 H2 fun b H3 =>
        if b = true then te σ2 H3 fun y H4 => ∃ acc, H4 D = some (.lst acc) ∧ acc.length < sizeLine ∧ Nx (upd H4 D (.lst (acc ++ [y]))) else Nx H3) := by
  refine ⟨fun i m H => m = xs.length - i ∧ i ≤ xs.length ∧ Pv i H, ⟨xs.length, by simp, Nat.zero_le _, h0⟩, ?_⟩
  rintro i m H ⟨rfl, hi, p⟩
  have q := hl i H hi p
  by_cases hlt : i < xs.length
  · refine .inr ⟨⟨xs, xs[i], q, by simp [hlt]⟩, Pv (i + 1), fun H' p' => ⟨xs.length - (i + 1), by omega, rfl, hlt, p'⟩, fun x H' y => ?_⟩
    obtain ⟨e, y⟩ := y
    subst e
    exact hs i x _ (y xs q) p
  · have e : i = xs.length := by omega
    subst e
    exact .inl ⟨⟨xs, q, Nat.le_refl _⟩, hd H p⟩
def blkC (N : List Str) (sc scope : Scope) (own : List (Str × Nat)) : Bool :=
  (match scope.kind with | .function => true | _ => false) && (scope.names.all fun y => decide (scope.names.lookup y.1 = some y.2)) && (own.all fun p => decide (N[p.2]? = some p.1)) &&
    (scope.names.all fun y => match y.2 with
      | .free => (match sc.names.lookup y.1 with | some .cell => true | some .free => true | _ => false)
      | .local => decide (y.1 ∈ own.map (·.1)) || decide (y.1 ∉ N)
      | .cell => decide (y.1 ∈ own.map (·.1)) || decide (y.1 ∉ N)
      | _ => true)
theorem blkOk_by {N : List Str} {sc scope : Scope} {own : List (Str × Nat)} (h : blkC N sc scope own = true) : BlkOk N sc scope own := by
  unfold blkC at h
  simp only [Bool.and_eq_true, List.all_eq_true, decide_eq_true_eq] at h
  obtain ⟨⟨⟨h1, h2⟩, h3⟩, h4⟩ := h
  refine ⟨?_, h2, h3, fun y hy e => ?_, fun y hy e => ?_⟩
  · split at h1
    · assumption
    · cases h1
  · have q := h4 y hy
    simp only [e] at q
    split at q <;> first | exact .inl (by assumption) | exact .inr (by assumption) | cases q
  · have q := h4 y hy
    rcases e with e | e <;> (simp only [e, Bool.or_eq_true, decide_eq_true_eq] at q; exact q)
end L2
namespace L2
open PySem PySem.Spec PyProof.Rows
section
variable {prog : Program} {w : World} {A : Around} {R : Result → Shared → Prop} {s : Shared} {elt t0 i0 t1 i1 : Expr} {ifs0 ifs1 : List Expr} {scope : Scope} {pos : Pos} {it acc : Value} {env : Env}
end
section
variable {X : Cx}
end
end L2
namespace L2
open PySem PySem.Spec PyProof.Rows
section
variable {κ : Type} [DecidableEq κ]
def valV (kvs : List (κ × V)) (k : κ) : Option V := (kvs.find? fun kv => decide (kv.1 = k)).map (·.2)
def putK (kvs : List (κ × V)) (k : κ) (v : V) : List (κ × V) :=
  if (kvs.any fun kv => decide (kv.1 = k)) = true then kvs.map (fun kv => if kv.1 = k then (kv.1, v) else kv) else kvs ++ [(k, v)]
def dropK (kvs : List (κ × V)) (k : κ) : List (κ × V) := kvs.filter fun kv => decide (kv.1 ≠ k)
theorem valV_pos {p : κ × V} {r : List (κ × V)} {k : κ} (e : p.1 = k) : valV (p :: r) k = some p.2 := by simp [valV, List.find?_cons, e]
theorem valV_neg {p : κ × V} {r : List (κ × V)} {k : κ} (e : ¬ p.1 = k) : valV (p :: r) k = valV r k := by simp [valV, List.find?_cons, e]
theorem valV_any (k : κ) : ∀ kvs : List (κ × V), (kvs.any fun kv => decide (kv.1 = k)) = (valV kvs k).isSome
  | [] => rfl
  | p :: r => by
    rw [List.any_cons]
    by_cases e : p.1 = k
    · simp only [valV_pos e, decide_eq_true e, Bool.true_or, Option.isSome_some]
    · rw [valV_neg e, decide_eq_false e, Bool.false_or]; exact valV_any k r
theorem length_putK (kvs : List (κ × V)) (k : κ) (v : V) : (putK kvs k v).length ≤ kvs.length + 1 := by
  unfold putK
  split
  · rw [List.length_map]; omega
  · rw [List.length_append, List.length_cons, List.length_nil]; omega
theorem RelO.isSome_eq {o : Option V} {u : Option Value} (r : RelO o u) : o.isSome = u.isSome := by
  cases o with
  | none => cases u with
    | none => rfl
    | some _ => exact (show False from r).elim
  | some _ => cases u with
    | none => exact (show False from r).elim
    | some _ => rfl
theorem RelO.getD {o : Option V} {u : Option Value} {d : V} {d' : Value} (r : RelO o u) (rd : RelV d d') : RelV (o.getD d) (u.getD d') := by
  cases o with
  | none => cases u with
    | none => exact rd
    | some _ => exact (show False from r).elim
  | some _ => cases u with
    | none => exact (show False from r).elim
    | some _ => exact r
theorem KV.val {kvs : List (κ × V)} {vs : List (κ × Value)} (r : KV kvs vs) (k : κ) : RelO (valV kvs k) (valueAt vs k) := by
  unfold KV at r
  induction r with
  | nil => exact True.intro
  | @cons p q ps qs h t ih =>
    obtain ⟨h1, h2⟩ := h
    by_cases e : p.1 = k
    · have e' : q.1 = k := h1.symm.trans e
      have b : valueAt (q :: qs) k = some q.2 := by simp [valueAt, List.find?_cons, e']
      rw [valV_pos e, b]; exact h2
    · have e' : ¬ q.1 = k := fun z => e (h1.trans z)
      have b : valueAt (q :: qs) k = valueAt qs k := by simp [valueAt, List.find?_cons, e']
      rw [valV_neg e, b]; exact ih
theorem KV.any {kvs : List (κ × V)} {vs : List (κ × Value)} (r : KV kvs vs) (k : κ) : (kvs.any fun kv => decide (kv.1 = k)) = vs.any fun kv => decide (kv.1 = k) := by
  unfold KV at r
  induction r with
  | nil => rfl
  | cons h t ih => rw [List.any_cons, List.any_cons, ih, h.1]
theorem KV.repl {kvs : List (κ × V)} {vs : List (κ × Value)} (r : KV kvs vs) (k : κ) {y : V} {u : Value} (ry : RelV y u) :
    KV (kvs.map fun kv => if kv.1 = k then (kv.1, y) else kv) (vs.map fun kv => if kv.1 = k then (kv.1, u) else kv) := by
  unfold KV at r ⊢
  induction r with
  | nil => exact .nil
  | @cons p q ps qs h t ih =>
    rw [List.map_cons, List.map_cons]
    refine .cons ?_ ih
    obtain ⟨h1, h2⟩ := h
    by_cases e : p.1 = k
    · rw [if_pos e, if_pos (h1.symm.trans e)]; exact ⟨h1, ry⟩
    · rw [if_neg e, if_neg (fun z => e (h1.trans z))]; exact ⟨h1, h2⟩
theorem KV.put {kvs : List (κ × V)} {vs : List (κ × Value)} (r : KV kvs vs) (k : κ) {y : V} {u : Value} (ry : RelV y u) : KV (putK kvs k y) (stored vs k u) := by
  unfold putK stored
  rw [r.any k]
  by_cases e : (vs.any fun kv => decide (kv.1 = k)) = true
  · rw [if_pos e, if_pos e]; exact r.repl k ry
  · rw [if_neg e, if_neg e]; exact Paired.snoc r ⟨rfl, ry⟩
theorem KV.drop {kvs : List (κ × V)} {vs : List (κ × Value)} (r : KV kvs vs) (k : κ) : KV (dropK kvs k) (without vs k) := by
  unfold KV at r ⊢
  unfold dropK without
  induction r with
  | nil => exact .nil
  | @cons p q ps qs h t ih =>
    obtain ⟨h1, h2⟩ := h
    rw [List.filter_cons, List.filter_cons]
    by_cases e : p.1 = k
    · have a : ¬ decide (p.1 ≠ k) = true := by simp [e]
      have b : ¬ decide (q.1 ≠ k) = true := by simp [h1.symm.trans e]
      rw [if_neg a, if_neg b]; exact ih
    · have e' : ¬ q.1 = k := fun z => e (h1.trans z)
      have a : decide (p.1 ≠ k) = true := by simp [e]
      have b : decide (q.1 ≠ k) = true := by simp [e']
      rw [if_pos a, if_pos b]; exact .cons ⟨h1, h2⟩ ih
theorem KV.keys {kvs : List (κ × V)} {vs : List (κ × Value)} (r : KV kvs vs) : kvs.map (·.1) = vs.map (·.1) := by
  unfold KV at r
  induction r with
  | nil => rfl
  | cons h t ih => rw [List.map_cons, List.map_cons, ih, h.1]
theorem KV.length {kvs : List (κ × V)} {vs : List (κ × Value)} (r : KV kvs vs) : kvs.length = vs.length := Paired.length r
end
theorem kV_is {P : Program} {w : World} {k : Key} {u : Value} (r : RelV (kV k) u) : (mixKind P w).is k u = true := by
  cases k with
  | inl i => obtain ⟨t, e⟩ := (show ∃ t, u = Value.int i t from r); subst e; exact mixKind_int P w i t
  | inr x => obtain ⟨t, e⟩ := (show ∃ t, u = Value.str x t from r); subst e; exact mixKind_str P w x t
theorem items_are {P : Program} {w : World} : ∀ {ks : List Key} {us : List Value}, Vals (ks.map kV) us → ItemsAre (mixKind P w) ks us
  | [], _, r => by rw [List.map_nil] at r; cases r; exact .nil
  | k :: ks, _, r => by
    rw [List.map_cons] at r
    cases r with
    | cons h t => exact .cons (kV_is h) (items_are t)
abbrev KT (H : Hp) : List (List Key × V) → List (List Key × Addr × Value) → Prop := Paired fun p q => p.1 = q.1 ∧ H q.2.1 = some (.tup (p.1.map kV)) ∧ RelV p.2 q.2.2
theorem KT.val {H : Hp} {kvs : List (List Key × V)} {xs : List (List Key × Addr × Value)} (r : KT H kvs xs) (k : List Key) : RelO (valV kvs k) ((atKey xs k).map (·.2)) := by
  induction r with
  | nil => exact True.intro
  | @cons p q ps qs h t ih =>
    obtain ⟨h1, _, h2⟩ := h
    by_cases e : p.1 = k
    · have e' : q.1 = k := h1.symm.trans e
      have b : atKey (q :: qs) k = some q.2 := by simp [atKey, List.find?_cons, e']
      rw [valV_pos e, b]; exact h2
    · have e' : ¬ q.1 = k := fun z => e (h1.trans z)
      have b : atKey (q :: qs) k = atKey qs k := by simp [atKey, List.find?_cons, e']
      rw [valV_neg e, b]; exact ih
theorem KT.repl {H : Hp} {kvs : List (List Key × V)} {xs : List (List Key × Addr × Value)} (r : KT H kvs xs) (k : List Key) {y : V} {u : Value} (ry : RelV y u) :
    KT H (kvs.map fun kv => if kv.1 = k then (kv.1, y) else kv) (xs.map (putAt k u)) := by
  induction r with
  | nil => exact .nil
  | @cons p q ps qs h t ih =>
    rw [List.map_cons, List.map_cons]
    refine .cons ?_ ih
    obtain ⟨h1, h2, h3⟩ := h
    unfold putAt
    by_cases e : p.1 = k
    · rw [if_pos e, if_pos (h1.symm.trans e)]; exact ⟨h1, h2, ry⟩
    · rw [if_neg e, if_neg (fun z => e (h1.trans z))]; exact ⟨h1, h2, h3⟩
theorem KT.put {H : Hp} {kvs : List (List Key × V)} {xs : List (List Key × Addr × Value)} (r : KT H kvs xs) (k : List Key) {b : Addr} {y : V} {u : Value} (hb : H b = some (.tup (k.map kV))) (ry : RelV y u) :
    KT H (putK kvs k y) (storedH xs k b u) := by
  have e : (kvs.any fun kv => decide (kv.1 = k)) = (atKey xs k).isSome := by
    rw [valV_any, (r.val k).isSome_eq, Option.isSome_map]
  unfold putK storedH
  rw [e]
  by_cases q : (atKey xs k).isSome = true
  · rw [if_pos q, if_pos q]; exact r.repl k ry
  · rw [if_neg q, if_neg q]; exact Paired.snoc r ⟨rfl, hb, ry⟩
theorem KT.keeps {H H' : Hp} {kvs : List (List Key × V)} {xs : List (List Key × Addr × Value)} (r : KT H kvs xs) (ht : ∀ b ys, H b = some (.tup ys) → H' b = some (.tup ys)) : KT H' kvs xs :=
  Paired.mapP r fun _ _ z => ⟨z.1, ht _ _ z.2.1, z.2.2⟩
section
variable {P : Program} {w : World} {H : Hp} {h : Heap} {a : Addr}
theorem rd_of {u : HO} (ok : HOk P w H h) (e : Rd H a u) : ObjOk P w H h a u := e.ok ok
theorem dk_rd {kvs : List (Key × V)} (ok : HOk P w H h) (e : Rd H a (.dK kvs)) : kvs.length ≤ sizeLine ∧ (a == sysModules) = false ∧ ∃ vs, KV kvs vs ∧ h.DictOf (mixKind P w) a vs :=
  show ObjOk P w H h a (.dK kvs) from rd_of ok e
theorem dk_of {kvs : List (Key × V)} (ok : HOk P w H h) (e : H a = some (.dK kvs)) : kvs.length ≤ sizeLine ∧ (a == sysModules) = false ∧ ∃ vs, KV kvs vs ∧ h.DictOf (mixKind P w) a vs := dk_rd ok (.inl e)
theorem key_of {ks : List Key} (ok : HOk P w H h) (e : H a = some (.tup (ks.map kV))) : (tupleKind (mixKind P w)).is h ks a := by
  obtain ⟨_, its, r, o, h1, h2, n, h3⟩ := (show ObjOk P w H h a (.tup (ks.map kV)) from ok a _ e)
  exact ⟨o, its.toArray, n, h1, h2, h3, by simpa using items_are r⟩
theorem dt_rd {kvs : List (List Key × V)} (ok : HOk P w H h) (e : Rd H a (.dT kvs)) : kvs.length ≤ sizeLine ∧ (a == sysModules) = false ∧
    ∃ xs, KT H kvs xs ∧ h.DictOfH (tupleKind (mixKind P w)) a xs := by
  obtain ⟨z, y, xs, r, o, es, ep, h1, h2, h3, h4, h5⟩ := (show ObjOk P w H h a (.dT kvs) from rd_of ok e)
  refine ⟨z, y, xs, r, o, es, ep, h1, h2, h3, h4, fun x hx => ?_, h5⟩
  have all : ∀ {l : List (List Key × V)} {m : List (List Key × Addr × Value)}, KT H l m → ∀ x ∈ m, (tupleKind (mixKind P w)).is h x.1 x.2.1 := by
    intro l m q
    induction q with
    | nil => intro x hx; exact nomatch hx
    | @cons p q ps qs hq t ih =>
      intro x hx
      rcases List.mem_cons.mp hx with e | hx
      · subst e
        exact key_of ok (by rw [← hq.1]; exact hq.2.1)
      · exact ih x hx
  exact all r x hx
theorem dt_of {kvs : List (List Key × V)} (ok : HOk P w H h) (e : H a = some (.dT kvs)) : kvs.length ≤ sizeLine ∧ (a == sysModules) = false ∧
    ∃ xs, KT H kvs xs ∧ h.DictOfH (tupleKind (mixKind P w)) a xs := dt_rd ok (.inl e)
end
def DGet (H : Hp) (a : Addr) (y : V) (r : Option V) : Prop :=
  (∃ kvs k, Rd H a (.dK kvs) ∧ y = kV k ∧ r = valV kvs k) ∨ ∃ kvs k b, Rd H a (.dT kvs) ∧ y = .ref b ∧ H b = some (.tup (k.map kV)) ∧ r = valV kvs k
def DPut (H : Hp) (a : Addr) (y v : V) (H' : Hp) : Prop :=
  (∃ kvs k, H a = some (.dK kvs) ∧ y = kV k ∧ kvs.length < sizeLine ∧ H' = upd H a (.dK (putK kvs k v))) ∨
  ∃ kvs k b, H a = some (.dT kvs) ∧ y = .ref b ∧ H b = some (.tup (k.map kV)) ∧ kvs.length < sizeLine ∧ H' = upd H a (.dT (putK kvs k v))
theorem DGet.k {H : Hp} {a : Addr} {kvs : List (Key × V)} {k : Key} (e : H a = some (.dK kvs)) : DGet H a (kV k) (valV kvs k) := .inl ⟨kvs, k, .inl e, rfl, rfl⟩
theorem DGet.t {H : Hp} {a b : Addr} {kvs : List (List Key × V)} {k : List Key} (e : H a = some (.dT kvs)) (eb : H b = some (.tup (k.map kV))) : DGet H a (.ref b) (valV kvs k) := .inr ⟨kvs, k, b, .inl e, rfl, eb, rfl⟩
theorem DPut.k {H : Hp} {a : Addr} {kvs : List (Key × V)} {k : Key} {v : V} (e : H a = some (.dK kvs)) (hl : kvs.length < sizeLine) : DPut H a (kV k) v (upd H a (.dK (putK kvs k v))) := .inl ⟨kvs, k, e, rfl, hl, rfl⟩
theorem DPut.t {H : Hp} {a b : Addr} {kvs : List (List Key × V)} {k : List Key} {v : V} (e : H a = some (.dT kvs)) (eb : H b = some (.tup (k.map kV))) (hl : kvs.length < sizeLine) :
    DPut H a (.ref b) v (upd H a (.dT (putK kvs k v))) := .inr ⟨kvs, k, b, e, rfl, eb, hl, rfl⟩
section
variable {X : Cx} {pins : List (Addr × Obj)} {σ : St} {H : Hp} {s : Shared} {a : Addr} {y v : V} {u r : Value} {o : Option V} {A : Around} {E : Value → Shared → Prop}
theorem Inv.big (I : Inv X pins σ H s) : sysModules < s.heap.objs.size := by
  have h : mainGlobals < s.heap.objs.size := (I.mod.glob.keeps I.bk).lt
  exact Nat.lt_trans (by decide) h
theorem d_getItem {Q : Value → Shared → Prop} (hu : A.units + 1 < cLine) (I : Inv X pins σ H s) (g : DGet H a y (some v)) (ry : RelV y u) (h : ∀ w' s', Inv X pins σ H s' → RelV v w' → Q w' s') :
    wpAny (model X.prog X.w) A (getItem (.ref a) u) Q E s := by
  rcases g with ⟨kvs, k, e, ey, l⟩ | ⟨kvs, k, b, e, ey, eb, l⟩
  · subst ey
    obtain ⟨z, hd, vs, rel, dd⟩ := dk_rd I.hok e
    obtain ⟨w', hw, rw'⟩ := RelO.some_of (v := v) (o := valueAt vs k) (by rw [l]; exact rel.val k)
    exact wpAny_getItem_of (kV_is ry) dd.mapOf hw (h w' _ (I.tok _) rw')
  · subst ey
    cases (show u = Value.ref b from ry)
    obtain ⟨z, hd, xs, rel, dd⟩ := dt_rd I.hok e
    obtain ⟨w', hw, rw'⟩ := RelO.some_of (v := v) (o := (atKey xs k).map (·.2)) (by rw [l]; exact rel.val k)
    obtain ⟨p, hp, hp2⟩ := Option.map_eq_some_iff.mp hw
    refine wpAny_getItem_heap (tupleKind_room_in1 hu) (key_of I.hok eb) dd hp ?_
    rw [hp2]
    exact h w' _ (I.tok _) rw'
theorem d_write {h' : Heap} {t' : Nat} {ob : HO} (I : Inv X pins σ H s) (mu : Mut (H a)) (hs : Heap.SameBut a s.heap h') (he : ∃ q, h'.get? a = some q) (new : ObjOk X.prog X.w (upd H a ob) h' a ob) :
    Inv X pins σ (upd H a ob) { s with heap := h', toks := t' } :=
  I.write (x := a) (e := a) mu (.inl rfl) (fun b q hb z => (hs.2 b hb).trans z) he new
theorem dk_new {P : Program} {w : World} {H' : Hp} {h' : Heap} {kvs : List (Key × V)} {vs : List (Key × Value)} (z : kvs.length ≤ sizeLine) (hd : (a == sysModules) = false) (rel : KV kvs vs) (dd : h'.DictOf (mixKind P w) a vs) :
    ObjOk P w H' h' a (.dK kvs) := ⟨z, hd, vs, rel, dd⟩
theorem d_setItem {H' : Hp} {Q : Unit → Shared → Prop} (hu : A.units + 1 < cLine) (I : Inv X pins σ H s) (g : DPut H a y v H') (ry : RelV y u) (rv : RelV v r) (h : ∀ s', Inv X pins σ H' s' → Q () s') :
    wpAny (model X.prog X.w) A (setItem (.ref a) u r) Q E s := by
  rcases g with ⟨kvs, k, e, ey, l, eH⟩ | ⟨kvs, k, b, e, ey, eb, l, eH⟩
  · subst ey eH
    obtain ⟨z, hd, vs, rel, dd⟩ := dk_of I.hok e
    have hz : vs.length ≤ sizeLine := by rw [← rel.length]; exact z
    have hl : (putK kvs k v).length ≤ sizeLine := by have := length_putK kvs k v; omega
    refine wpAny_setItem_pairs (hsz := hz) (kV_is ry) dd fun h' dd' hs => h _ ?_
    have he : ∃ q, h'.get? a = some q := let ⟨q, _, _, hq, _⟩ := dd'; ⟨q, hq⟩
    exact d_write I (by rw [e]; exact True.intro) hs he (dk_new hl hd (rel.put k rv) dd')
  · subst ey eH
    cases (show u = Value.ref b from ry)
    obtain ⟨z, hd, xs, rel, dd⟩ := dt_of I.hok e
    have hz : xs.length ≤ sizeLine := by rw [← Paired.length rel]; exact z
    have hl : (putK kvs k v).length ≤ sizeLine := by have := length_putK kvs k v; omega
    refine wpAny_setItem_heap (hsz := hz) (tupleKind_room_in1 hu) (key_of I.hok eb) dd fun h' dd' hs => h _ ?_
    obtain ⟨q, es, ep, hq, h2, h3, h4, _, h5⟩ := dd'
    refine d_write I (by rw [e]; exact True.intro) hs ⟨q, hq⟩ ⟨hl, hd, _, (rel.put k eb rv).keeps fun c ys ec => ?_, q, es, ep, hq, h2, h3, h4, h5⟩
    rw [upd_ne (ne_of ec e (fun z => nomatch z))]
    exact ec
end
section
variable {X : Cx} {pins : List (Addr × Obj)} {σ : St} {H : Hp} {s : Shared} {a : Addr} {kvs : List (Key × V)} {k : Key} {u : Value} {A : Around} {E : Value → Shared → Prop}
end
def NoSl (i : Expr) : Prop := ∀ ov iv, subscripted i false ov iv = operate [ov, iv] (getItem ov iv)
theorem subD_of {prog : Program} {w : World} {A : Around} {E : Value → Shared → Prop} {s : Shared} {env : Env} {value slice : Expr} {pos : Pos} {T id : String} {Q : Value → Shared → Prop}
    (hl : typeLookup (.type T) "__getitem__" = pure (some (.builtin id))) (hs : NoSl slice)
    (h : wpAny (model prog w) A (eval value env) (fun o s₁ => wpAny (model prog w) A (eval slice env) (fun i s₂ => s₂.TypeIs o T ∧ wpAny (model prog w) A (getItem o i) Q E s₂) E s₁) E s) :
    wpAny (model prog w) A (eval (.Subscript value slice pos) env) Q E s := by
  refine Subscript_ (wpAny_mono h (fun o s₁ h₁ => wpAny_mono h₁ (fun i s₂ h₂ => ?_) fun _ _ x => x) fun _ _ x => x)
  obtain ⟨hT, h₂⟩ := h₂
  unfold subscriptTail
  refine wpAny_bind ?_
  rw [getitemInPython_of_ne hT.not_modules]
  refine wpAny_bind (wpAny_specialOf hT hl ?_)
  have fin : wpAny (model prog w) A (subscripted slice false o i) (fun r s₃ => wpAny (model prog w) A (letTemporaryGo value o r >>= fun _ => pure r) Q E s₃) E s₂ := by
    rw [hs o i]
    exact wpAny_operating (wpAny_mono h₂ (fun r s₃ h₃ => wpAny_bind (wpAny_letTemporaryGo (wpAny_pure h₃))) fun _ _ x => x)
  first
    | exact wpAny_pure (wpAny_bind fin)
    | exact wpAny_bind (wpAny_pure (wpAny_bind fin))
    | exact wpAny_bind fin
theorem dict_typeIs {X : Cx} {pins : List (Addr × Obj)} {σ : St} {H : Hp} {s : Shared} {a : Addr} {y : V} {o : Option V} (I : Inv X pins σ H s) (g : DGet H a y o) : s.TypeIs (.ref a) "dict" := by
  rcases g with ⟨kvs, k, e, _, _⟩ | ⟨kvs, k, b, e, _, _, _⟩
  · obtain ⟨_, _, vs, _, dd⟩ := dk_rd I.hok e
    exact dd.typeIs
  · obtain ⟨_, _, xs, _, dd⟩ := dt_rd I.hok e
    exact dd.typeIs
def tDGet (td ty : TE) : TE := fun σ H Q => td σ H fun x H1 => ty σ H1 fun y H2 => ∃ a v, x = .ref a ∧ DGet H2 a y (some v) ∧ Q v H2
def sDPut (td ty tv : TE) : TS := fun D σ H => tv σ H fun v H1 => td σ H1 fun x H2 => ty σ H2 fun y H3 => ∃ a H4, x = .ref a ∧ DPut H3 a y v H4 ∧ D.nx σ H4
section
variable {X : Cx} {o i e value : Expr} {pos pos' tpos : Pos} {td ty tv : TE}
theorem pe_dget (hu : X.A.units + 1 < cLine) (ho : PE X o td) (hi : PE X i ty) (hs : NoSl i) : PE X (.Subscript o i pos) (tDGet td ty) := by
  intro pins s σ H Q I h
  refine subD_of PySem.F.slot_dict_getitem.lookup hs (thn (ho pins s σ H _ I h) fun u s1 ⟨x, H1, I1, rx, q1⟩ => thn (hi pins s1 σ H1 _ I1 q1) fun iv s2 ⟨y, H2, I2, ry, a, v, ex, g, q2⟩ => ?_)
  subst ex
  obtain rfl : u = Value.ref a := rx
  exact ⟨dict_typeIs I2 g, d_getItem hu I2 g ry fun w' s3 I3 rw' => ⟨v, H2, I3, rw', q2⟩⟩
theorem ps_dput (hu : X.A.units + 1 < cLine) (ho : PE X o td) (hi : PE X i ty) (hv : PE X value tv) (hs : swapsWith value (some (.Subscript o i pos')) pos.line X.env = pure false) :
    PS X (.Assign [.Subscript o i pos'] value pos) (sDPut td ty tv) := by
  intro pins s σ H D I h
  refine wpAny_Assign_Subscript (thn (hv pins s σ H _ I h) fun r s1 ⟨v, H1, I1, rv, q1⟩ => thn (ho pins s1 σ H1 _ I1 q1) fun u s2 ⟨x, H2, I2, rx, q2⟩ => thn (hi pins s2 σ H2 _ I2 q2) fun iv s3 ⟨y, H3, I3, ry, a, H4, ex, g, q3⟩ => ?_) hs
  subst ex
  obtain rfl : u = Value.ref a := rx
  exact d_setItem hu I3 g ry rv fun s4 I4 => ⟨σ, H4, I4, q3⟩
end
theorem dk_empty {P : Program} {w : World} {H : Hp} (h : Heap) (hb : sysModules < h.objs.size) : ObjOk P w H (h.push { cls := .type "dict", data := .dict #[] }) h.objs.size (.dK []) :=
  ⟨Nat.zero_le _, beq_eq_false_iff_ne.mpr (Ne.symm (Nat.ne_of_lt hb)), [], .nil, Heap.DictOf.new h⟩
section
variable {X : Cx} {pos : Pos}
end
def tPairs : List (TE × TE) → St → Hp → (List (V × V) → Hp → Prop) → Prop
  | [], _, H, Q => Q [] H
  | (tk, tv) :: r, σ, H, Q => tk σ H fun x H1 => tv σ H1 fun y H2 => tPairs r σ H2 fun ps H3 => Q ((x, y) :: ps) H3
abbrev VV : List (V × V) → List (Value × Value) → Prop := Paired fun p q => RelV p.1 q.1 ∧ RelV p.2 q.2
def PPs (X : Cx) (pos : Pos) (keys : List (Option Expr)) (values : List Expr) (trs : List (TE × TE)) : Prop :=
  ∀ (pins : List (Addr × Obj)) (s : Shared) (σ : St) (H : Hp) (Q : List (V × V) → Hp → Prop), Inv X pins σ H s → tPairs trs σ H Q →
    wpAny (model X.prog X.w) X.A (evalPairs (pairTrees keys values X.env pos)) (fun vs s' => ∃ ps H', Inv X pins σ H' s' ∧ VV ps vs ∧ Q ps H') X.xe s
theorem pps_nil {X : Cx} {pos : Pos} : PPs X pos [] [] [] := fun pins s σ H Q I h => pairTrees_nil_walk ⟨[], H, I, .nil, h⟩
theorem pps_cons {X : Cx} {pos : Pos} {k v : Expr} {ks : List (Option Expr)} {vs : List Expr} {tk tv : TE} {trs : List (TE × TE)} (hk : PE X k tk) (hv : PE X v tv) (hr : PPs X pos ks vs trs) :
    PPs X pos (some k :: ks) (v :: vs) ((tk, tv) :: trs) := fun pins s σ H Q I h =>
  pairTrees_cons_walk (thn (hk pins s σ H _ I h) fun u s1 ⟨x, H1, I1, rx, q1⟩ => thn (hv pins s1 σ H1 _ I1 q1) fun w2 s2 ⟨y, H2, I2, ry, q2⟩ =>
    thn (hr pins s2 σ H2 _ I2 q2) fun ws s3 ⟨ps, H3, I3, rel, q3⟩ => ⟨(x, y) :: ps, H3, I3, .cons ⟨rx, ry⟩ rel, q3⟩)
def mergeK (kvs more : List (Key × V)) : List (Key × V) := more.foldl (fun acc kv => putK acc kv.1 kv.2) kvs
theorem KV.merge : ∀ {more : List (Key × V)} {rs : List (Key × Value)} {kvs : List (Key × V)} {vs : List (Key × Value)}, KV more rs → KV kvs vs → KV (mergeK kvs more) (merged vs rs) := by
  intro more rs kvs vs r
  unfold KV at r
  induction r generalizing kvs vs with
  | nil => intro q; exact q
  | @cons p q ps qs h t ih =>
    intro r0
    have e : KV (putK kvs p.1 p.2) (stored vs q.1 q.2) := by
      have := r0.put p.1 h.2
      rw [← h.1]; exact this
    exact ih e
theorem length_mergeK : ∀ (more kvs : List (Key × V)), (mergeK kvs more).length ≤ kvs.length + more.length
  | [], kvs => by show kvs.length ≤ kvs.length + 0; omega
  | p :: r, kvs => by
    have h1 := length_mergeK r (putK kvs p.1 p.2)
    have h2 := length_putK kvs p.1 p.2
    show (mergeK (putK kvs p.1 p.2) r).length ≤ _
    rw [List.length_cons]; omega
theorem carries_of {P : Program} {w : World} : ∀ {kvs : List (Key × V)} {ws : List (Value × Value)}, VV (kvs.map fun kv => (kV kv.1, kv.2)) ws → ∃ rs, Carries (mixKind P w) ws rs ∧ KV kvs rs
  | [], _, r => by rw [List.map_nil] at r; cases r; exact ⟨[], True.intro, .nil⟩
  | p :: kvs, _, r => by
    rw [List.map_cons] at r
    cases r with
    | @cons a b as bs h t =>
      obtain ⟨rs, c, q⟩ := carries_of (P := P) (w := w) t
      obtain ⟨b1, b2⟩ := b
      exact ⟨(p.1, b2) :: rs, ⟨kV_is h.1, rfl, c⟩, .cons ⟨rfl, h.2⟩ q⟩
def tDisp (trs : List (TE × TE)) : TE := fun σ H Q => ∀ p, H p = none → tPairs trs σ (upd H p (.dK [])) fun ps H2 => H2 p = some (.dK []) ∧ ∃ kvs : List (Key × V), ps = kvs.map (fun kv => (kV kv.1, kv.2)) ∧ kvs.length ≤ 15 ∧ Q (.ref p) (upd H2 p (.dK (mergeK [] kvs)))
theorem pe_disp {X : Cx} {pos : Pos} {keys : List (Option Expr)} {values : List Expr} {trs : List (TE × TE)} (h : PPs X pos keys values trs) (hall : keys.all (·.isSome) = true) (hl : keys.length = values.length) (h0 : keys ≠ [])
    (h15 : keys.length ≤ 15) : PE X (.Dict keys values pos) (tDisp trs) := by
  intro pins s σ H Q I q
  have hn := I.hok.fresh (Nat.le_refl s.heap.objs.size)
  have I1 := I.laid (a := s.heap.objs.size) (o := .dK []) (h' := s.heap.push { cls := .type "dict", data := .dict #[] }) (t' := s.toks) (fun _ _ q => Heap.get?_push_of_some _ q) (Nat.le_refl _) (dk_empty s.heap I.big)
  refine wpAny_Dict_walk (knd := mixKind X.prog X.w) hall hl h0 h15 (thn (h pins _ σ _ _ I1 (q _ hn)) fun ws s2 ⟨ps, H2, I2, rel, e, kvs, ep, lk, q2⟩ => ?_)
  subst ep
  obtain ⟨rs, c, rk⟩ := carries_of (P := X.prog) (w := X.w) rel
  obtain ⟨z, hd, vs0, r0, dd⟩ := dk_of I2.hok e
  cases r0
  refine ⟨rs, c, dd, fun h' dd' hs => ⟨.ref s.heap.objs.size, _, ?_, rfl, q2⟩⟩
  have hz : (mergeK [] kvs).length ≤ sizeLine := by
    have h1 := length_mergeK kvs []
    rw [List.length_nil] at h1
    rw [sizeLine_eq]; omega
  have he : ∃ q, h'.get? s.heap.objs.size = some q := let ⟨q, _, _, hq, _⟩ := dd'; ⟨q, hq⟩
  exact d_write I2 (by rw [e]; exact True.intro) hs he (dk_new hz hd (rk.merge .nil) dd')
structure M1 (X : Cx) (o : Expr) (m : Str) (apos : Pos) (e : Expr) (cpos : Pos) : Prop where
  base : attributeBase o m X.env (eval o X.env) = eval o X.env
  few : ((backTo cpos (starEach [e] X.env)).all (fun x => !x.1) && (backToKw cpos (keywordEach [] X.env)).all (fun x => x.1.isSome)
    && decide (([e] : List Expr).length + ([] : List Keyword).length + (if ([] : List Keyword).isEmpty then 0 else 1) < 30)) = true
  line : (apos.endLine == cpos.line) = true
  trees : backTo cpos (starEach [e] X.env) = [(false, eval e X.env)]
structure M2 (X : Cx) (o : Expr) (m : Str) (apos : Pos) (e f : Expr) (cpos : Pos) : Prop where
  base : attributeBase o m X.env (eval o X.env) = eval o X.env
  few : ((backTo cpos (starEach [e, f] X.env)).all (fun x => !x.1) && (backToKw cpos (keywordEach [] X.env)).all (fun x => x.1.isSome)
    && decide (([e, f] : List Expr).length + ([] : List Keyword).length + (if ([] : List Keyword).isEmpty then 0 else 1) < 30)) = true
  line : (apos.endLine == cpos.line) = true
  trees : backTo cpos (starEach [e, f] X.env) = [(false, eval e X.env), (false, eval f X.env)]
section
variable {X : Cx} {pins : List (Addr × Obj)} {σ : St} {H : Hp} {s : Shared} {a : Addr} {y d : V} {u r : Value} {o : Option V} {A : Around} {E : Value → Shared → Prop}
end
section
variable {X : Cx} {o e f : Expr} {apos cpos : Pos} {td ty tx : TE}
end
section
variable {X : Cx} {pins : List (Addr × Obj)} {σ : St} {H : Hp} {s : Shared} {a : Addr} {kvs : List (Key × V)} {A : Around} {E : Value → Shared → Prop}
end
section
variable {X : Cx} {pins : List (Addr × Obj)} {σ : St} {H : Hp} {s : Shared} {a : Addr} {y : V} {u : Value} {A : Around} {E : Value → Shared → Prop}
end
end L2
namespace L2
open PySem PySem.Spec PyProof.Rows
section
variable {prog : Program} {w : World} {A : Around} {E : Value → Shared → Prop}
end
section
variable {X : Cx}
end
end L2
namespace L2
open PySem PySem.Spec PyProof.Rows
section
variable {X : Cx} {pins : List (Addr × Obj)} {σ : St} {H : Hp} {s : Shared} {h' : Heap}
theorem Inv.turnedL {t' : Nat} {ch : List Addr} (I : Inv X pins σ H s) (k : ∀ b o, b ∉ ch → s.heap.get? b = some o → h'.get? b = some o) (hf : ∀ b ∈ ch, FpOk X pins H b) : Inv X pins σ H { s with heap := h', toks := t' } := by
  have nit : ∀ b u, H b = some u → b ∉ ch := fun b u e z => by
    have q := (hf b z).1
    rw [q] at e; cases e
  refine I.step (g' := s.gens) (d' := s.drawn) (ch := ch) (fun b hb => ⟨(hf b hb).2.2.2.1, (hf b hb).2.1, (hf b hb).2.2.2.2.1, (hf b hb).2.2.2.2.2⟩) (fun b o _ _ hc e _ => k b o hc e) (fun b o _ _ hc e _ => ⟨o.slots, k b o hc e⟩)
    (fun _ _ _ _ n => n) (fun b o hc e => ⟨o, k b o hc e⟩) (fun _ _ e => e) (fun _ _ _ e => e) (fun b ps e => ⟨#[], by rw [e]; simp⟩) (fun m hm => ?_) (fun b u e => ?_) I.bare
  · obtain ⟨o, es, ep, ho, r⟩ := hm
    exact ⟨o, es, ep, k _ o (fun z => (hf _ z).2.1 rfl) ho, r⟩
  · refine (I.hok b u e).stay (fun c v hc q => k c v ?_ q) (fun _ q => q) fun _ _ q => q
    rcases hc with z | z
    · rw [z]; exact nit b u e
    · exact nit c _ z
theorem Inv.turnedNew {t' : Nat} {ch : List Addr} {T : Addr} {ob : HO} (I : Inv X pins σ H s) (k : ∀ b o, b ∉ ch → s.heap.get? b = some o → h'.get? b = some o) (hf : ∀ b ∈ ch, FpOk X pins H b) (hT : s.heap.objs.size ≤ T)
    (new : ObjOk X.prog X.w (upd H T ob) h' T ob) : Inv X pins σ (upd H T ob) { s with heap := h', toks := t' } := by
  have hn : H T = none := I.hok.fresh hT
  have nit : ∀ b u, H b = some u → b ∉ ch := fun b u e z => by
    have q := (hf b z).1
    rw [q] at e; cases e
  refine I.step (g' := s.gens) (d' := s.drawn) (ch := ch) (fun b hb => ⟨(hf b hb).2.2.2.1, (hf b hb).2.1, (hf b hb).2.2.2.2.1, (hf b hb).2.2.2.2.2⟩) (fun b o _ _ hc e _ => k b o hc e) (fun b o _ _ hc e _ => ⟨o.slots, k b o hc e⟩)
    (fun b o _ e n => ?_) (fun b o hc e => ⟨o, k b o hc e⟩) (fun b xs e => ?_) (fun b o u e => ?_) (fun b ps e => ⟨#[], ?_⟩) (fun m hm => ?_) (fun b u e => ?_) I.bare
  · rw [upd_ne (Nat.ne_of_lt (Nat.lt_of_lt_of_le (Heap.lt_size e) hT))]; exact n
  · rw [upd_ne (ne_of_none e hn)]; exact e
  · rw [upd_ne (ne_of_none e hn)]; exact e
  · rw [upd_ne (ne_of_none e hn), e]; simp
  · obtain ⟨o, es, ep, ho, r⟩ := hm
    exact ⟨o, es, ep, k _ o (fun z => (hf _ z).2.1 rfl) ho, r⟩
  · by_cases hb : b = T
    · subst hb
      rw [upd_same] at e
      cases e
      exact new
    · rw [upd_ne hb] at e
      refine (I.hok b u e).stay (fun c v hc q => k c v ?_ q) (fun c q => by rw [upd_ne (ne_of_none q hn)]; exact q) fun c xs q => by rw [upd_ne (ne_of_none q hn)]; exact q
      rcases hc with z | z
      · rw [z]; exact nit b u e
      · exact nit c _ z
end
section
variable {X : Cx}
end
def Itc (lo c : Int) (n : Nat) : It := ⟨fun i _ => i < n, fun i H x H' => H' = H ∧ x = .int (lo + (i : Nat) * c), fun i _ => n ≤ i⟩
def RgC (i j c : Int) (n : Nat) : Prop := c ≠ 0 ∧ c.natAbs < 1073741824 ∧ Builtin.Range.small i j c = true ∧ Builtin.Range.rangeSize i j c = n
theorem RgC.neg {i j : Int} (ha : -(2 ^ 62) ≤ i) (ha' : i < 2 ^ 62) (hb : -(2 ^ 62) ≤ j) (hb' : j < 2 ^ 62) : RgC i j (-1) (i - j).toNat :=
  ⟨by decide, by decide, PySem.W.small_down ha ha' hb hb', PySem.W.rangeSize_downNat i j⟩
section
variable {X : Cx} {tg : Expr}
end
section
variable {X : Cx} {tg : Expr}
end
section
variable {prog : Program} {w : World} {A : Around} {E : Value → Shared → Prop} {s : Shared}
end
section
variable {X : Cx} {pins : List (Addr × Obj)} {σ : St} {H : Hp} {s : Shared} {d : Addr} {o : Obj}
end
section
variable {P : Program} {w : World} {K : PySem.W.Frag} {tg : Expr} {d : Addr} {o : Obj} {es : Array DictEntry} {ep : Nat}
end
section
variable {X : Cx} {tg e : Expr} {td : TE} {apos cpos : Pos}
end
def Ite (K : PySem.W.Frag) (a : Addr) : It :=
  ⟨fun i H => ∃ (xs : List V) (x : V), SqL K H a xs ∧ xs[i]? = some x, fun i H v H' => ∃ T x, v = .ref T ∧ H T = none ∧ H' = upd H T (.tup [.int (i : Nat), x]) ∧ ∀ xs, SqL K H a xs → xs[i]? = some x, fun i H => ∃ xs : List V, SqL K H a xs ∧ xs.length ≤ i⟩
def iEnum (K : PySem.W.Frag) (ta : TA) : TI := fun σ H R => ta σ H fun vs H1 => ∃ a xs, vs = [.ref a] ∧ SqL K H1 a xs ∧ R (Ite K a) H1
theorem boot_zip5 : bootBuiltins "zip" = some (.type "zip") := by decide +kernel
end L2
section
namespace Bits
open PySem PyProof.Rows
end Bits
end
section
namespace TL
open PySem PySem.Builtin PySem.Builtin.Str PySem.StrLaws
abbrev tl (x : Str) : List Nat := x.cps.toList
def pre (S l : List Nat) : Bool := l.take S.length == S
def par (S : List Nat) : List Nat → List Nat → Option (List Nat × List Nat)
  | _, [] => none
  | acc, c :: r => if pre S (c :: r) = true then some (acc, (c :: r).drop S.length) else par S (acc ++ [c]) r
end TL
end
namespace L2
open PySem PySem.Spec PyProof.Rows
section
variable {X : Cx} {pins : List (Addr × Obj)} {σ : St} {H : Hp} {s : Shared} {Q : VK}
end
section
variable {X : Cx}
end
section
variable {X : Cx} {o e : Expr} {to te : TE}
end
end L2
namespace L2
open PySem PySem.Spec PyProof.Rows
section
variable {X : Cx}
end
end L2
namespace Att
open PySem PySem.W PySem.Calls PyProof.Rows
theorem ints_of_wellAll {P : Params} {h : Heap} : ∀ (ns : List Int) (vs : List Value), WellAll P h vs (ns.map WData.int) → IntsAre vs ns := by
  intro ns
  induction ns with
  | nil =>
    intro vs w
    rw [List.map_nil] at w
    cases w
    exact .nil
  | cons n ns ih =>
    intro vs w
    rw [List.map_cons] at w
    cases w with
    | cons a b =>
      cases a
      exact .cons _ _ (ih _ b)
theorem script_of {l : OpenLaw} {n : Nat} (hn : l.most = some n) {P : Params} {h : Heap} {args : List WData} {vals : List Value}
    (hpre : l.row.toRowW.claim.pre args = true) (hwl : WellAll P h vals args) :
    ∃ a vs ns, vals = [Value.ref a] ∧ args = [WData.list (ns.map WData.int)] ∧ h.get? a = some { cls := .type "list", data := .seq vs.toArray } ∧ IntsAre vs ns ∧ ns.length ≤ n := by
  have hsh : WShape.hasAll [] args [.list .int] = true := (pre_splitW hpre).1
  have hc : l.pre.holds [] { args := args } = true := (pre_splitW hpre).2
  obtain ⟨d, r, rfl, h1, h2⟩ := hasAllW_cons hsh
  obtain rfl := hasAllW_nil h2
  obtain ⟨xs, rfl, h3⟩ := hasW_list h1
  obtain ⟨ns, rfl⟩ := items_int h3
  have hlen : ns.length ≤ n := by
    unfold OpenLaw.pre at hc
    have h4 : (WTm.not (.lt (.lit (.int (n : Int))) (.len (.arg 0)))).holds [] { args := [.list (ns.map .int)] } = true := by
      have h4 := (holds_andW hc).1
      rw [hn] at h4
      exact h4
    have h5 := condW_of h4 (w_not (w_lt w_lit (w_len_list (w_arg rfl))))
    rw [List.length_map] at h5
    refine Nat.le_of_not_lt fun q => ?_
    have q' : (n : Int) < ((ns.length : Nat) : Int) := by omega
    first
      | (rw [decide_eq_true q'] at h5; exact absurd h5 (by decide))
      | (simp at h5; omega)
  cases hwl with
  | cons w1 w2 =>
    cases w2
    cases w1 with
    | list ho hall => exact ⟨_, _, ns, rfl, rfl, ho, ints_of_wellAll ns _ hall, hlen⟩
theorem post_true (l : OpenLaw) (args : List WData) : l.row.toRowW.claim.post args (.bool true) args = true :=
  postW_of (r := l.row.toRowW) (X := (true == true))
    (show WShape.has [] (.bool true) .bool = true by first | rfl | decide | simp [WShape.has, WShape.arms, WShape.armsAll])
    (show (WTm.eq .res (.lit (.bool true))).value [] { args := args, res := some (.bool true), after := args } = some (.bool (true == true)) from w_eq_bool (w_res rfl) w_lit) rfl
theorem attach_call {l : OpenLaw} {n : Nat} {q : Program} {loose : List Str} {XP : (Str → Option Value) → Heap → Prop} {YP : World → Heap → Prop} {d : DefRec}
    (hn : l.most = some n) (hdf : d.params.defaults = [])
    (call : ∀ (w : World) (s₀ s₁ : Shared) (mg mb : Str → Option Value) (fa : Addr) (o : Obj) (pm cd doc : Value) (a : Addr) (vs : List Value) (ns : List Int),
      Ground q loose [] XP w s₀ mg mb s₁.heap → YP w s₁.heap →
      s₁.heap.get? fa = some o → o.data = .func (docDef d.name d.params d.body d.scope pm cd doc) → s₁.heap.CodeRec cd d.name → mg d.name = some (.ref fa) →
      s₁.heap.get? a = some { cls := .type "list", data := .seq vs.toArray } → IntsAre vs ns → ns.length ≤ n → s₁.gens = #[] →
      codeAny (model l.prog w) callerA (.call (.ref fa) ⟨[.ref a], []⟩) (fun r s' => r = .ok (.ret (.bool true)) ∧ OldK s₁.heap s'.heap ∧ s'.os = s₁.os ∧ AllBare s'.gens) s₁) :
    WalkO q loose XP YP l.row.toRowW d [] (fun f vs => PySem.call f vs) := by
  intro w s₀ s₁ mg mb G Y fa o pm cd doc dV kV ho hd hcd hD hmg hg args vals as hpre hlay hrd hwl hlo
  obtain rfl : dV = .none := Dflts.none hD hdf
  obtain rfl : kV = .none := Dflts.noKw hD
  obtain ⟨a, vs, ns, rfl, rfl, hobj, hints, hlen⟩ := script_of hn hpre hwl
  refine enter_call (codeAny_mono (call w s₀ s₁ mg mb fa o pm cd doc a vs ns G Y ho (fd_plain hd) hcd hmg hobj hints hlen hg) fun r s' hq => ?_)
  obtain ⟨rfl, h2, h3, h4⟩ := hq
  exact ⟨.inl ⟨.bool true, .bool true, [], rfl, fun _ => rfl, .bool true, post_true l _, fun _ => ⟨List.Pairwise.nil, fun _ hm => (nomatch hm)⟩⟩, h2, h3, h4⟩
section
variable {prog : Program} {w : World} {A : Around} {E : Value → Shared → Prop} {s : Shared} {K : Frag}
end
end Att
namespace L2
open PySem PySem.Spec PyProof.Rows
theorem vals_ints : ∀ {vs : List Value} {ns : List Int}, IntsAre vs ns → Vals (ns.map V.int) vs
  | _, _, .nil => .nil
  | _, _, .cons n t h => .cons ⟨t, rfl⟩ (vals_ints h)
def Only (H : Hp) : Prop := ∀ b, H b = none ∨ ∃ o xs, H b = some (.frz o (.lst xs))
theorem law_call {P : Program} {w : World} {K : PySem.W.Frag} {mg mb : Str → Option Value} {CX : CXT} {k : Nat} {fa a : Addr} {fd : FuncData} {x : Str} {sp : Sp} {s₁ : Shared} {vs : List Value} {ns : List Int}
    (KX : K.In s₁.heap) (hns : s₁.heap.Ns mainGlobals mg) (hb : s₁.heap.Ns builtinsNs mb) (hbb : ∀ x : Str, x ≠ "__name__" → mb x = bootBuiltins x) (hlim : s₁.heap.NoLimit) (hg : s₁.gens = #[])
    (ha : s₁.heap.get? a = some { cls := .type "list", data := .seq vs.toArray }) (hi : IntsAre vs ns) (hl : ns.length ≤ sizeLine) (hr : Room k callerA)
    (F : ∀ base : Heap, K.In base → base.Ns mainGlobals mg → FnOk P w K mg base CX k fa fd [x] sp) (hbind : ∀ (s : Shared) (u : Value), BindsTo s fd ⟨[u], []⟩ [(x, u)])
    (hsp : ∀ H : Hp, Only H → SqL K H a (ns.map V.int) → sp [.ref a] H (fun v _ => v = .bl true) fun _ _ _ => False)
    (hCX : ∀ H e s', CX [] H s₁ (fun _ _ _ => False) e s' → False) :
    codeAny (model P w) callerA (.call (.ref fa) ⟨[.ref a], []⟩) (fun r s' => r = .ok (.ret (.bool true)) ∧ OldK s₁.heap s'.heap ∧ s'.os = s₁.os ∧ AllBare s'.gens) s₁ := by
  have rv := vals_ints hi
  have lenV := hi.length
  have core : ∀ H : Hp, Only H → SqL K H a (ns.map V.int) → HOk P w H s₁.heap → (∀ b, H b ≠ none → b = a) → (H a ≠ none → K.lookup a = none) →
      codeAny (model P w) callerA (.call (.ref fa) ⟨[.ref a], []⟩) (fun r s' => r = .ok (.ret (.bool true)) ∧ OldK s₁.heap s'.heap ∧ s'.os = s₁.os ∧ AllBare s'.gens) s₁ := by
    intro H hO hS hok hA hK
    have base_of : ∀ {b : Addr} {o : Obj}, s₁.heap.get? b = some o → H b = none → (hidT s₁.heap H).get? b = some o := fun e n => hidT_get e n
    have noA : ∀ {b : Addr} {o : Obj} {es : Array DictEntry} {ep : Nat}, s₁.heap.get? b = some o → o.data = .dict es ep → H b = none := fun {b o es ep} e d => by
      cases q : H b with
      | none => rfl
      | some u =>
        have e' : b = a := hA b (by rw [q]; simp)
        subst e'
        rw [ha] at e; cases e
        have d' : Data.seq vs.toArray _ = Data.dict es ep := d
        cases d'
    have nsK : ∀ {b : Addr} {m : Str → Option Value}, s₁.heap.Ns b m → (hidT s₁.heap H).Ns b m := fun {b m} ⟨o, es, ep, e, d, r⟩ => ⟨o, es, ep, base_of e (noA e d), d, r⟩
    have hKb : K.In (hidT s₁.heap H) := fun b o e => base_of (KX b o e) (by
      cases q : H b with
      | none => rfl
      | some u =>
        have e' : b = a := hA b (by rw [q]; simp)
        subst e'
        rw [hK (by rw [q]; simp)] at e; cases e)
    have hM : Mod K mg (hidT s₁.heap H) := ⟨hKb, nsK hns, ⟨mb, nsK hb, hbb⟩, let ⟨mc, h1, h2⟩ := hlim; ⟨mc, nsK h1, h2⟩⟩
    have e0 : Env0 P w K mg (hidT s₁.heap H) callerA [] s₁ H := ⟨rfl, hM, fun b o e => of_hidT e, Nat.le_of_eq (hidT_size _ _), trivial, fun b hb => absurd (show b ∈ ([] : List Addr) from hb) (by simp), hok, .of_eq hg⟩
    refine codeAny_mono ((F _ hKb (nsK hns)).run callerA [] s₁ H ⟨[.ref a], []⟩ [.ref a] [.ref a] _ _ hr e0 (hbind s₁ (.ref a)) (.cons rfl .nil) (hsp H hO hS)) fun r s' h => ?_
    cases r with
    | error e => exact (hCX H e s' h).elim
    | ok fl =>
      cases fl with
      | next => exact False.elim h
      | brk => exact False.elim h
      | cont => exact False.elim h
      | ret u =>
        obtain ⟨v, H', os, bare, un, hok', r', q⟩ := h
        have q' : v = .bl true := q
        subst q'
        obtain rfl : u = Value.bool true := r'
        refine ⟨rfl, OldK.of_keep fun b o e => ?_, os, bare⟩
        cases q : H b with
        | none => exact un.keep b o e q (by intro z; exact absurd (show b ∈ ([] : List Addr) from z) (by simp)) (by simp)
        | some u =>
          rcases hO b with z | ⟨ob, xs, z⟩
          · rw [q] at z; cases z
          · have z2 := un.frzs b ob _ z
            obtain ⟨e1, _⟩ := hok b _ z
            obtain ⟨e2, _⟩ := hok' b _ z2
            rw [e] at e1; cases e1
            exact e2
  cases hk : K.lookup a with
  | some o =>
    have e := KX a o hk
    rw [ha] at e
    cases e
    refine core (fun _ => none) (fun _ => .inl rfl) (.inr ⟨_, vs.toArray, _, hk, rfl, rfl, rfl, by rw [List.size_toArray, lenV]; exact hl, by simpa using rv⟩) (fun b u z => by have z' : (none : Option HO) = some u := z; cases z') (fun b z => absurd rfl z) fun z => absurd rfl z
  | none =>
    refine core (fun b => if b = a then some (.frz { cls := .type "list", data := .seq vs.toArray } (.lst (ns.map V.int))) else none) (fun b => ?_) (.inl (.inr ⟨{ cls := .type "list", data := .seq vs.toArray }, if_pos rfl⟩)) (fun b u z => ?_) (fun b z => ?_) fun _ => hk
    · by_cases hb : b = a
      · exact .inr ⟨_, _, if_pos hb⟩
      · exact .inl (if_neg hb)
    · by_cases hb : b = a
      · have z' := (if_pos hb).symm.trans z
        cases z'
        subst hb
        exact ⟨ha, by rw [List.length_map]; exact hl, vs, _, rv, ha⟩
      · have z' := (if_neg hb).symm.trans z
        cases z'
    · by_cases hb : b = a
      · exact hb
      · exact absurd (if_neg hb) z
end L2
namespace L2
open PySem PySem.Spec PyProof.Rows
theorem walk_of {l : PySem.W.OpenLaw} {n k : Nat} {q : Program} {loose : List Str} {XP : (Str → Option Value) → Heap → Prop} {YP : World → Heap → Prop} {d : DefRec} {K : Params → PySem.W.Frag} {CX : World → CXT} {sp : World → Sp} {x : Str}
    (hn : l.most = some n) (hn2 : n ≤ sizeLine) (hdf : d.params.defaults = []) (hr : Room k callerA)
    (hY : ∀ (w : World) (h : Heap), YP w h → (K w.params).In h)
    (F : ∀ (w : World) (mg : Str → Option Value) (fa : Addr) (h : Heap), (K w.params).In h → h.Ns mainGlobals mg → mg d.name = some (.ref fa) →
      ∃ fd : FuncData, (∀ (s : Shared) (u : Value), BindsTo s fd ⟨[u], []⟩ [(x, u)]) ∧
        ∀ base : Heap, (K w.params).In base → base.Ns mainGlobals mg → FnOk l.prog w (K w.params) mg base (CX w) k fa fd [x] (sp w))
    (hsp : ∀ (w : World) (H : Hp) (a : Addr) (ns : List Int), ns.length ≤ n → Only H → SqL (K w.params) H a (ns.map V.int) → sp w [.ref a] H (fun v _ => v = .bl true) fun _ _ _ => False)
    (hCX : ∀ (w : World) (H : Hp) (s : Shared) (e : Value) (s' : Shared), CX w [] H s (fun _ _ _ => False) e s' → False) :
    PySem.W.WalkO q loose XP YP l.row.toRowW d [] (fun f vs => PySem.call f vs) := by
  refine Att.attach_call hn hdf fun w s₀ s₁ mg mb fa o pm cd doc a vs ns G Y ho hd hcd hmg hobj hints hlen hg => ?_
  have KX := hY w _ Y
  obtain ⟨fd, hb, hF⟩ := F w mg fa _ KX G.T.g hmg
  exact law_call KX G.T.g G.T.b G.T.builtins G.T.nolimit hg hobj hints (Nat.le_trans hlen hn2) hr hF hb (fun H hO hS => hsp w H a ns hlen hO hS) fun H e s' => hCX w H s₁ e s'
end L2
namespace L2
open PySem PySem.Spec PyProof.Rows
def inClass (s : Stmt) (j : Nat) : Stmt := match s with
  | .ClassDef _ _ _ body _ _ _ _ _ _ _ => body.getD j (.Pass ⟨0, 0, 0, 0⟩)
  | _ => .Pass ⟨0, 0, 0, 0⟩
def defArgs (s : Stmt) : Arguments := match s with
  | .FunctionDef _ a _ _ _ _ _ _ _ _ => a
  | _ => { posonlyargs := [], args := [], vararg := none, kwonlyargs := [], kw_defaults := [], kwarg := none, defaults := [] }
def defBody (s : Stmt) : List Stmt := match s with
  | .FunctionDef _ _ b _ _ _ _ _ _ _ => b
  | _ => []
def defScope (s : Stmt) : Scope := match s with
  | .FunctionDef _ _ _ _ _ _ sc _ _ _ => sc
  | _ => { kind := .function, names := [], isGenerator := false, isCoroutine := false }
abbrev CX0 : CXT := fun _ _ _ _ _ _ => False
abbrev E0 : XK := fun _ _ _ => False
theorem pass0 {X : Cx} : Passes CX0 X E0 := fun _ _ _ _ _ _ _ h => h.elim
structure Fun (K : PySem.W.Frag) (x qual : Str) (st : Stmt) (f : Addr) (fd : FuncData) : Prop where
  ex : ∃ (oc : Value) (od : Option Addr) (kV doc pm : Value) (an : Option Addr) (cdv ct : Value) (osl : Array (Option Value)),
    fd = PySem.W.fnOf x qual (defArgs st) (defBody st) (defScope st) .none kV doc pm an cdv ct ∧ K.lookup f = some ⟨oc, od, .func fd, osl⟩ ∧ PySem.W.codeIn K cdv qual = true
  kp : PySem.W.keepIn K (.ref f) = true
section
variable {P : Program} {w : World} {K : PySem.W.Frag} {mg : Str → Option Value} {base : Heap}
theorem Fun.ok {x qual : Str} {st : Stmt} {f : Addr} {fd : FuncData} {N ps : List Str} {k : Nat} {sp : Sp} (F : Fun K x qual st f fd) (S : FnScope N ps (defScope st)) (len : ∀ vs H Q E, sp vs H Q E → vs.length = ps.length)
    (hbody : ∀ (cdv : Value) (A : Around) (outer : List Env) (s : Shared) (H : Hp) (vs : List V) (Q : VK) (E : XK), Room k (A.deeper (envOfC qual (defScope st) s.heap.objs.size f cdv)) → sp vs H Q E →
      ∃ t, PSs (cxOf CX0 P w K mg base N qual (defScope st) f cdv A outer s H E).nox (defBody st) t ∧ t { nx := fun _ H' => Q .non H', rt := Q } (start N vs) H) : FnOk P w K mg base CX0 (k + 1) f fd ps sp := by
  obtain ⟨oc, od, kV, doc, pm, an, cdv, ct, osl, rfl, lk, hcd⟩ := F.ex
  refine fn_of lk hcd S len fun A outer s H vs Q E hr hsp => ?_
  obtain ⟨t, h, q⟩ := hbody cdv A outer s H vs Q E hr hsp
  exact ⟨t, h.nox, q⟩
theorem Fun.binds {x qual : Str} {st : Stmt} {f : Addr} {fd : FuncData} {ps : List Str} (F : Fun K x qual st f fd)
    (h : ∀ (kV doc pm : Value) (an : Option Addr) (cdv ct : Value) (us : List Value), us.length = ps.length → bindArgs (PySem.W.fnOf x qual (defArgs st) (defBody st) (defScope st) .none kV doc pm an cdv ct) ⟨us, []⟩ = pure (ps.zip us)) : Binds K fd ps [] := by
  obtain ⟨oc, od, kV, doc, pm, an, cdv, ct, osl, rfl, lk, hcd⟩ := F.ex
  exact .all (h kV doc pm an cdv ct)
theorem fun_mk {x qual : Str} {st : Stmt} {f : Addr} {oc : Value} {od an : Option Addr} {osl : Array (Option Value)} {kV doc pm cdv ct : Value} (l : K.lookup f = some ⟨oc, od, .func (PySem.W.fnOf x qual (defArgs st) (defBody st) (defScope st) .none kV doc pm an cdv ct), osl⟩)
    (c : PySem.W.codeIn K cdv qual = true) (k : PySem.W.keepIn K (.ref f) = true) : Fun K x qual st f (PySem.W.fnOf x qual (defArgs st) (defBody st) (defScope st) .none kV doc pm an cdv ct) := ⟨⟨oc, od, kV, doc, pm, an, cdv, ct, osl, rfl, l, c⟩, k⟩
end
theorem hu_of {A : Around} {k : Nat} (hr : Room k A) : A.units + 1 < cLine := Nat.lt_of_le_of_lt (Nat.add_le_add_left (by decide : 1 ≤ 64) _) hr.units
section
variable {X : Cx}
theorem pv (i : Nat) {x : Str} {pos : Pos} (hN : X.N[i]? = some x := by rfl) (hv : Vis X.env.scope x := by first | exact Or.inl rfl | exact Or.inr (Or.inl rfl) | exact Or.inr (Or.inr rfl)) (hd : (x == ("__debug__" : Str)) = false := by decide)
    (hcd : (x == ("__classdict__" : Str)) = false := by decide) : PE X (.Name x pos) (tVar i) := pe_var hN hv hd hcd
end
theorem iteF {A B : Prop} (h : B) : if false = true then A else B := by
  rw [if_neg Bool.false_ne_true]
  exact h
theorem iteT {A B : Prop} (h : A) : if true = true then A else B := by
  rw [if_pos rfl]
  exact h
theorem iteNS {c A B : Prop} [Decidable c] (hc : c) (h : B) : if (!decide c) = true then A else B := by
  rw [decide_eq_true hc]
  exact iteF h
def Same (H H' : Hp) : Prop := ∀ b o, H b = some o → H' b = some o
theorem Same.refl (H : Hp) : Same H H := fun _ _ h => h
theorem Same.trans {H H1 H2 : Hp} (a : Same H H1) (b : Same H1 H2) : Same H H2 := fun c o h => b c o (a c o h)
theorem Same.free {H H' : Hp} (e : Same H H') {l : Addr} (h : H' l = Option.none) : H l = Option.none := by
  cases q : H l with
  | none => rfl
  | some o =>
    rw [e l o q] at h
    cases h
theorem Same.seq {K : PySem.W.Frag} {H H' : Hp} {a : Addr} {xs : List V} (e : Same H H') (h : SqL K H a xs) : SqL K H' a xs := by
  rcases h with (h | ⟨o, h⟩) | h
  · exact .inl (.inl (e _ _ h))
  · exact .inl (.inr ⟨o, e _ _ h⟩)
  · exact .inr h
section
variable {κ : Type} [DecidableEq κ]
end
theorem Same.made {H H1 : Hp} {x dx C : Addr} (nx : H x = Option.none) (nd : H dx = Option.none) (k : ∀ b o, (upd (upd H dx (.own x)) x (.ins C dx [])) b = some o → b ≠ x → H1 b = some o) : Same H H1 := fun b o e =>
  k b o (by rw [upd_ne (ne_of_none e nx), upd_ne (ne_of_none e nd)]; exact e) (ne_of_none e nx)
end L2
set_option Elab.async false
set_option linter.all false
set_option maxRecDepth 100000
namespace L2
open PySem PySem.Spec PyProof.Rows
def FnC (P : Program) (w : World) (K : PySem.W.Frag) (mg : Str → Option Value) (base : Heap) (k : Nat) (x : Str) (ps : List Str) (sp : Sp) : Prop :=
  ∃ f fd, FnOk P w K mg base CX0 k f fd ps sp ∧ mg x = some (.ref f) ∧ PySem.W.keepIn K (.ref f) = true ∧ Binds K fd ps []
theorem FnC.mono {P : Program} {w : World} {K : PySem.W.Frag} {mg : Str → Option Value} {base : Heap} {j k : Nat} {x : Str} {ps : List Str} {sp : Sp} (C : FnC P w K mg base j x ps sp) (h : j ≤ k) : FnC P w K mg base k x ps sp := by
  obtain ⟨f, fd, F, r⟩ := C
  exact ⟨f, fd, F.mono h, r⟩
def tCallC (sp : Sp) (t : TA) : TE := fun σ H Q => t σ H fun vs H1 => sp vs H1 Q E0
section
variable {X : Cx} {k : Nat} {ps : List Str} {sp : Sp} {x : Str} {p pos : Pos} {e : Expr} {es : List Expr} {t : TA}
theorem pe_callC (C : FnC X.prog X.w X.K X.mg X.base k x ps sp) (hr : Room k X.A) (hg : Gl X x) (ha : PA X (e :: es) t)
    (hdb : (x == ("__debug__" : Str)) = false := by decide) (he : starEach (e :: es) X.env = (false, eval e X.env) :: starEach es X.env := by rfl) (hpl : (backTo pos (starEach es X.env)).any (·.1) = false := by rfl) :
    PE X (.Call (.Name x p) (e :: es) [] pos) (tCallC sp t) := by
  obtain ⟨f, fd, F, hm, hk, hb⟩ := C
  intro pins s σ H Q I h
  have q := pe_call (p := p) (dvs := []) F hr hg hm hk hb .nil pass0 ha hdb he hpl pins s σ H Q I
  refine q ?_
  unfold tCall
  simp only [List.append_nil]
  exact h
end
def qB (x : V) (H : Hp) (Q : Bool → Hp → Prop) : Prop := ∃ k, x = .bl k ∧ Q k H
def qI (x : V) (H : Hp) (Q : Option Int → Hp → Prop) : Prop := ∃ i, x = .int i ∧ Q (some i) H
def qTup (xs : List V) (H : Hp) (Q : VK) : Prop := xs.length ≤ sizeLine ∧ ∀ p, H p = none → Q (.ref p) (upd H p (.tup xs))
def qLst (xs : List V) (H : Hp) (Q : VK) : Prop := xs.length ≤ sizeLine ∧ ∀ p, H p = none → Q (.ref p) (upd H p (.lst xs))
def gPar (i j : Nat) (vs : List V) (σ : St) (H : Hp) (nx : St → Hp → Prop) : Prop := ∃ v w, vs = [v, w] ∧ nx ((σ.set i (some v)).set j (some w)) H
section
variable {σ : St} {H : Hp} {Q : VK} {nx : St → Hp → Prop} {rt : VK} {bk ct : St → Hp → Prop} {t u : TS} {c : TT} {ta tb tc te : TE} {i j : Nat} {v x y : V} {r r' : R2} {K : PySem.W.Frag} {p : Addr} {xs ys : List V} {n m : Int} {QB : Bool → Hp → Prop} {tA : TA} {tt tt' : TT} {g : TG} {b : Bool}
theorem go_seq (h : t ⟨u ⟨nx, rt, bk, ct⟩, rt, bk, ct⟩ σ H) : tSeq t u ⟨nx, rt, bk, ct⟩ σ H := h
theorem go_next (h : nx σ H) : tNext ⟨nx, rt, bk, ct⟩ σ H := h
theorem go_ret (h : te σ H rt) : tRet te ⟨nx, rt, bk, ct⟩ σ H := h
theorem go_retN (h : rt .non H) : tRetN ⟨nx, rt, bk, ct⟩ σ H := h
theorem go_drop (h : te σ H fun _ H1 => nx σ H1) : tDrop te ⟨nx, rt, bk, ct⟩ σ H := h
theorem go_ifS (h : c σ H fun b H1 => if b = true then t ⟨nx, rt, bk, ct⟩ σ H1 else u ⟨nx, rt, bk, ct⟩ σ H1) : tIfS c t u ⟨nx, rt, bk, ct⟩ σ H := h
theorem go_asg (h : te σ H fun x H1 => g x σ H1 nx) : tAsg te g ⟨nx, rt, bk, ct⟩ σ H := h
theorem go_gname (h : nx (σ.set i (some v)) H) : gName i v σ H nx := h
theorem go_gsub {to ti : TE} {ts : TSet} (h : to σ H fun o H1 => ti σ H1 fun i H2 => ts o i v H2 fun H3 => nx σ H3) : gSub to ti ts v σ H nx := h
theorem go_setL {QH : Hp → Prop} {k : Int} (h : H p = some (.lst xs)) (e : ixN xs.length k = some j) (q : QH (upd H p (.lst (xs.set j v)))) : rSetL (.ref p) (.int k) v H QH := ⟨p, xs, k, j, rfl, rfl, h, e, q⟩
theorem go_par (h : tA σ H fun vs H1 => gPar i j vs σ H1 nx) : tPar i j tA ⟨nx, rt, bk, ct⟩ σ H := h
theorem go_gpar (h : nx ((σ.set i (some x)).set j (some y)) H) : gPar i j [x, y] σ H nx := ⟨x, y, rfl, h⟩
theorem go_var (e : σ[i]? = some (some v)) (h : Q v H) : tVar i σ H Q := ⟨v, e, h⟩
theorem go_c (h : Q v H) : tC v σ H Q := h
theorem go_op (h : ta σ H fun x H1 => tb σ H1 fun y H2 => r x y H2 Q) : tOp r ta tb σ H Q := h
theorem go_i0 {g : Int → Int → V} (h : Q (g n m) H) : rI0 g (.int n) (.int m) H Q := ⟨n, m, rfl, rfl, h⟩
theorem go_i {C : Int → Int → Prop} {g : Int → Int → V} (hc : C n m) (h : Q (g n m) H) : rI C g (.int n) (.int m) H Q := ⟨n, m, rfl, rfl, hc, h⟩
theorem go_eq (e : scal x y = true) (h : Q (.bl (decide (x = y))) H) : rEq x y H Q := ⟨e, h⟩
theorem go_ne (e : scal x y = true) (h : Q (.bl (!decide (x = y))) H) : rNe x y H Q := ⟨e, h⟩
theorem go_test (h : te σ H fun x H1 => qB x H1 QB) : tTest te σ H QB := h
theorem go_testB (h : te σ H fun x H1 => qB x H1 QB) : tB te σ H QB := h
theorem go_qb (h : QB b H) : qB (.bl b) H QB := ⟨b, rfl, h⟩
theorem go_and (h : tt σ H fun c H1 => if c = true then tt' σ H1 QB else QB false H1) : tAnd tt tt' σ H QB := h
theorem go_or (h : tt σ H fun c H1 => if c = true then QB true H1 else tt' σ H1 QB) : tOr tt tt' σ H QB := h
theorem go_not (h : tt σ H fun c H1 => QB (!c) H1) : tNot tt σ H QB := h
theorem go_andV (h : ta σ H fun x H1 => qB x H1 fun c H2 => if c = true then tb σ H2 Q else Q (.bl false) H2) : tAndV ta tb σ H Q := h
theorem go_orV (h : ta σ H fun x H1 => qB x H1 fun c H2 => if c = true then Q (.bl true) H2 else tb σ H2 Q) : tOrV ta tb σ H Q := h
theorem go_notV (h : ta σ H fun x H1 => qB x H1 fun c H2 => Q (.bl (!c)) H2) : tNotV ta σ H Q := h
theorem go_if (h : tt σ H fun c H1 => if c = true then ta σ H1 Q else tb σ H1 Q) : tIf tt ta tb σ H Q := h
theorem go_iteD {c A B : Prop} [Decidable c] (h1 : c → A) (h2 : ¬ c → B) : if decide c = true then A else B := by
  by_cases h : c
  · rw [if_pos (decide_eq_true h)]; exact h1 h
  · rw [if_neg (by simp [h])]; exact h2 h
theorem go_iteT {A B : Prop} (h : A) : if true = true then A else B := iteT h
theorem go_iteF {A B : Prop} (h : B) : if false = true then A else B := iteF h
theorem go_tup (h : tA σ H fun xs H1 => qTup xs H1 Q) : tTup tA σ H Q := h
theorem go_lst (h : tA σ H fun xs H1 => qLst xs H1 Q) : tLst tA σ H Q := h
theorem go_qtup (hl : xs.length ≤ sizeLine) (h : ∀ p, H p = none → Q (.ref p) (upd H p (.tup xs))) : qTup xs H Q := ⟨hl, h⟩
theorem go_qlst (hl : xs.length ≤ sizeLine) (h : ∀ p, H p = none → Q (.ref p) (upd H p (.lst xs))) : qLst xs H Q := ⟨hl, h⟩
theorem go_cons {QA : List V → Hp → Prop} (h : ta σ H fun x H1 => tA σ H1 fun xs H2 => QA (x :: xs) H2) : tCons ta tA σ H QA := h
theorem go_nil {QA : List V → Hp → Prop} (h : QA [] H) : tNil σ H QA := h
theorem go_callC {sp : Sp} (h : tA σ H fun vs H1 => sp vs H1 Q E0) : tCallC sp tA σ H Q := h
theorem go_cb {rr : List V → Hp → VK → Prop} (h : tA σ H fun vs H1 => rr vs H1 Q) : tCB rr tA σ H Q := h
theorem go_un {rr : V → Hp → VK → Prop} (h : ta σ H fun x H1 => rr x H1 Q) : tUn rr ta σ H Q := h
theorem go_u {g : Int → V} (h : Q (g n) H) : rU g (.int n) H Q := ⟨n, rfl, h⟩
theorem go_ixL (h : H p = some (.lst xs)) (e : atI xs n = some v) (q : Q v H) : rIxL K (.ref p) (.int n) H Q := ⟨p, xs, n, v, rfl, rfl, SqL.of h, e, q⟩
theorem go_ixLs (h : SqL K H p xs) (e : atI xs n = some v) (q : Q v H) : rIxL K (.ref p) (.int n) H Q := ⟨p, xs, n, v, rfl, rfl, h, e, q⟩
theorem go_ixT (h : H p = some (.tup xs)) (e : atI xs n = some v) (q : Q v H) : rIxT K (.ref p) (.int n) H Q := ⟨p, xs, n, v, rfl, rfl, SqT.of h, e, q⟩
end
def rLen (K : PySem.W.Frag) : List V → Hp → VK → Prop := fun xs H Q => ∃ p ys, xs = [.ref p] ∧ (SqL K H p ys ∨ SqT K H p ys) ∧ Q (.int ys.length) H
def rInt1 : List V → Hp → VK → Prop := fun xs H Q => (∃ i, xs = [.int i] ∧ Q (.int i) H) ∨ ∃ k, xs = [.bl k] ∧ Q (.int (if k then 1 else 0)) H
def rMin2 : List V → Hp → VK → Prop := fun xs H Q => ∃ i j, xs = [.int i, .int j] ∧ Q (.int (min i j)) H
def rMax2 : List V → Hp → VK → Prop := fun xs H Q => ∃ i j, xs = [.int i, .int j] ∧ Q (.int (max i j)) H
def rListOf (K : PySem.W.Frag) : List V → Hp → VK → Prop := fun xs H Q => ∃ p ys, xs = [.ref p] ∧ (SqL K H p ys ∨ SqT K H p ys) ∧ ∀ l, H l = none → Q (.ref l) (upd H l (.lst ys))
def rTupleOf (K : PySem.W.Frag) : List V → Hp → VK → Prop := fun xs H Q => ∃ p ys, xs = [.ref p] ∧ ((SqL K H p ys ∧ ∀ l, H l = none → Q (.ref l) (upd H l (.tup ys))) ∨ (SqT K H p ys ∧ Q (.ref p) H))
def rIsinst (K : PySem.W.Frag) : List V → Hp → VK → Prop := fun xs H Q => ∃ x T t b, xs = [x, .ty T] ∧ TyOf K H x t ∧ PySem.W.kitOne K t (.type T) = some b ∧ Q (.bl b) H
section
variable {X : Cx}
theorem c_len : CallR X (.builtin "len") (rLen X.K) := call_len_seq
theorem c_int : CallR X (.type "int") rInt1 := call_int1
theorem c_list : CallR X (.type "list") (rListOf X.K) := call_list_of
theorem c_tuple : CallR X (.type "tuple") (rTupleOf X.K) := call_tuple_of
theorem c_min (hc : X.calm = true) : CallR X (.builtin "min") rMin2 := by
  intro pins s σ H xs us Q I r h
  obtain ⟨i, j, rfl, q⟩ := h
  refine call_min2 hc pins s σ H _ us Q I r ⟨i, j, rfl, ?_⟩
  have e : (if j < i then j else i) = min i j := by rw [Int.min_def]; split <;> split <;> omega
  rw [e]; exact q
theorem c_max (hc : X.calm = true) : CallR X (.builtin "max") rMax2 := by
  intro pins s σ H xs us Q I r h
  obtain ⟨i, j, rfl, q⟩ := h
  refine call_max2 hc pins s σ H _ us Q I r ⟨i, j, rfl, ?_⟩
  have e : (if j > i then j else i) = max i j := by rw [Int.max_def]; split <;> split <;> omega
  rw [e]; exact q
theorem c_isinst : CallR X (.builtin "isinstance") (rIsinst X.K) := by
  intro pins s σ H xs us Q I r h
  obtain ⟨x, T, t, b, rfl, ty, e, q⟩ := h
  obtain ⟨u, v, rfl, ru, rv⟩ := r.two
  cases (show v = Value.type T from rv)
  exact isinst_ok I ru ty e fun tk => ⟨.bl b, H, I.tok _, rfl, q⟩
end
section
variable {H : Hp} {Q : VK} {K : PySem.W.Frag} {p : Addr} {xs ys : List V} {n m : Int} {b : Bool} {x : V} {T : String} {t : Value}
theorem go_lenL (h : H p = some (.lst ys)) (q : Q (.int ys.length) H) : rLen K [.ref p] H Q := ⟨p, ys, rfl, .inl (SqL.of h), q⟩
theorem go_lenT (h : H p = some (.tup ys)) (q : Q (.int ys.length) H) : rLen K [.ref p] H Q := ⟨p, ys, rfl, .inr (SqT.of h), q⟩
theorem go_lenLs (h : SqL K H p ys) (q : Q (.int ys.length) H) : rLen K [.ref p] H Q := ⟨p, ys, rfl, .inl h, q⟩
theorem go_int (q : Q (.int n) H) : rInt1 [.int n] H Q := .inl ⟨n, rfl, q⟩
theorem go_intB (q : Q (.int (if b then 1 else 0)) H) : rInt1 [.bl b] H Q := .inr ⟨b, rfl, q⟩
theorem go_min (q : Q (.int (min n m)) H) : rMin2 [.int n, .int m] H Q := ⟨n, m, rfl, q⟩
theorem go_max (q : Q (.int (max n m)) H) : rMax2 [.int n, .int m] H Q := ⟨n, m, rfl, q⟩
theorem go_isinst (ty : TyOf K H x t) (e : PySem.W.kitOne K t (.type T) = some b) (q : Q (.bl b) H) : rIsinst K [x, .ty T] H Q := ⟨x, T, t, b, rfl, ty, e, q⟩
theorem go_listL (h : H p = some (.lst ys)) (q : ∀ l, H l = none → Q (.ref l) (upd H l (.lst ys))) : rListOf K [.ref p] H Q := ⟨p, ys, rfl, .inl (SqL.of h), q⟩
theorem go_tupleL (h : H p = some (.lst ys)) (q : ∀ l, H l = none → Q (.ref l) (upd H l (.tup ys))) : rTupleOf K [.ref p] H Q := ⟨p, ys, rfl, .inl ⟨SqL.of h, q⟩⟩
end
def kitC (t T : String) : Option Bool := if ((Value.type t) == (Value.type T)) = true then some true else if PySem.W.kitMeta T = true then (fastBuiltinMro t).map (·.contains (.type T)) else none
theorem kit_c (K : PySem.W.Frag) (t T : String) : PySem.W.kitOne K (.type t) (.type T) = kitC t T := rfl
section
variable {H : Hp} {Q : VK} {K : PySem.W.Frag} {p : Addr} {xs : List V} {n : Int} {b : Bool} {x : Str}
theorem kc_non_int : kitC "NoneType" "int" = some false := by decide +kernel
theorem go_is_non_int (q : Q (.bl false) H) : rIsinst K [.non, .ty "int"] H Q := go_isinst (.non) ((kit_c K "NoneType" "int").trans kc_non_int) q
theorem kc_non_bool : kitC "NoneType" "bool" = some false := by decide +kernel
theorem go_is_non_bool (q : Q (.bl false) H) : rIsinst K [.non, .ty "bool"] H Q := go_isinst (.non) ((kit_c K "NoneType" "bool").trans kc_non_bool) q
theorem kc_non_str : kitC "NoneType" "str" = some false := by decide +kernel
theorem go_is_non_str (q : Q (.bl false) H) : rIsinst K [.non, .ty "str"] H Q := go_isinst (.non) ((kit_c K "NoneType" "str").trans kc_non_str) q
theorem kc_non_tuple : kitC "NoneType" "tuple" = some false := by decide +kernel
theorem go_is_non_tuple (q : Q (.bl false) H) : rIsinst K [.non, .ty "tuple"] H Q := go_isinst (.non) ((kit_c K "NoneType" "tuple").trans kc_non_tuple) q
theorem kc_non_list : kitC "NoneType" "list" = some false := by decide +kernel
theorem go_is_non_list (q : Q (.bl false) H) : rIsinst K [.non, .ty "list"] H Q := go_isinst (.non) ((kit_c K "NoneType" "list").trans kc_non_list) q
theorem kc_bl_int : kitC "bool" "int" = some true := by decide +kernel
theorem go_is_bl_int (q : Q (.bl true) H) : rIsinst K [.bl b, .ty "int"] H Q := go_isinst (.bl b) ((kit_c K "bool" "int").trans kc_bl_int) q
theorem kc_bl_bool : kitC "bool" "bool" = some true := by decide +kernel
theorem go_is_bl_bool (q : Q (.bl true) H) : rIsinst K [.bl b, .ty "bool"] H Q := go_isinst (.bl b) ((kit_c K "bool" "bool").trans kc_bl_bool) q
theorem kc_bl_str : kitC "bool" "str" = some false := by decide +kernel
theorem go_is_bl_str (q : Q (.bl false) H) : rIsinst K [.bl b, .ty "str"] H Q := go_isinst (.bl b) ((kit_c K "bool" "str").trans kc_bl_str) q
theorem kc_bl_tuple : kitC "bool" "tuple" = some false := by decide +kernel
theorem go_is_bl_tuple (q : Q (.bl false) H) : rIsinst K [.bl b, .ty "tuple"] H Q := go_isinst (.bl b) ((kit_c K "bool" "tuple").trans kc_bl_tuple) q
theorem kc_bl_list : kitC "bool" "list" = some false := by decide +kernel
theorem go_is_bl_list (q : Q (.bl false) H) : rIsinst K [.bl b, .ty "list"] H Q := go_isinst (.bl b) ((kit_c K "bool" "list").trans kc_bl_list) q
theorem kc_int_int : kitC "int" "int" = some true := by decide +kernel
theorem go_is_int_int (q : Q (.bl true) H) : rIsinst K [.int n, .ty "int"] H Q := go_isinst (.int n) ((kit_c K "int" "int").trans kc_int_int) q
theorem kc_int_bool : kitC "int" "bool" = some false := by decide +kernel
theorem go_is_int_bool (q : Q (.bl false) H) : rIsinst K [.int n, .ty "bool"] H Q := go_isinst (.int n) ((kit_c K "int" "bool").trans kc_int_bool) q
theorem kc_int_str : kitC "int" "str" = some false := by decide +kernel
theorem go_is_int_str (q : Q (.bl false) H) : rIsinst K [.int n, .ty "str"] H Q := go_isinst (.int n) ((kit_c K "int" "str").trans kc_int_str) q
theorem kc_int_tuple : kitC "int" "tuple" = some false := by decide +kernel
theorem go_is_int_tuple (q : Q (.bl false) H) : rIsinst K [.int n, .ty "tuple"] H Q := go_isinst (.int n) ((kit_c K "int" "tuple").trans kc_int_tuple) q
theorem kc_int_list : kitC "int" "list" = some false := by decide +kernel
theorem go_is_int_list (q : Q (.bl false) H) : rIsinst K [.int n, .ty "list"] H Q := go_isinst (.int n) ((kit_c K "int" "list").trans kc_int_list) q
theorem kc_str_int : kitC "str" "int" = some false := by decide +kernel
theorem go_is_str_int (q : Q (.bl false) H) : rIsinst K [.str x, .ty "int"] H Q := go_isinst (.str x) ((kit_c K "str" "int").trans kc_str_int) q
theorem kc_str_bool : kitC "str" "bool" = some false := by decide +kernel
theorem go_is_str_bool (q : Q (.bl false) H) : rIsinst K [.str x, .ty "bool"] H Q := go_isinst (.str x) ((kit_c K "str" "bool").trans kc_str_bool) q
theorem kc_str_str : kitC "str" "str" = some true := by decide +kernel
theorem go_is_str_str (q : Q (.bl true) H) : rIsinst K [.str x, .ty "str"] H Q := go_isinst (.str x) ((kit_c K "str" "str").trans kc_str_str) q
theorem kc_str_tuple : kitC "str" "tuple" = some false := by decide +kernel
theorem go_is_str_tuple (q : Q (.bl false) H) : rIsinst K [.str x, .ty "tuple"] H Q := go_isinst (.str x) ((kit_c K "str" "tuple").trans kc_str_tuple) q
theorem kc_str_list : kitC "str" "list" = some false := by decide +kernel
theorem go_is_str_list (q : Q (.bl false) H) : rIsinst K [.str x, .ty "list"] H Q := go_isinst (.str x) ((kit_c K "str" "list").trans kc_str_list) q
theorem kc_lst_int : kitC "list" "int" = some false := by decide +kernel
theorem go_is_lst_int (h : H p = some (.lst xs)) (q : Q (.bl false) H) : rIsinst K [.ref p, .ty "int"] H Q := go_isinst (.lst h) ((kit_c K "list" "int").trans kc_lst_int) q
theorem kc_lst_bool : kitC "list" "bool" = some false := by decide +kernel
theorem go_is_lst_bool (h : H p = some (.lst xs)) (q : Q (.bl false) H) : rIsinst K [.ref p, .ty "bool"] H Q := go_isinst (.lst h) ((kit_c K "list" "bool").trans kc_lst_bool) q
theorem kc_lst_str : kitC "list" "str" = some false := by decide +kernel
theorem go_is_lst_str (h : H p = some (.lst xs)) (q : Q (.bl false) H) : rIsinst K [.ref p, .ty "str"] H Q := go_isinst (.lst h) ((kit_c K "list" "str").trans kc_lst_str) q
theorem kc_lst_tuple : kitC "list" "tuple" = some false := by decide +kernel
theorem go_is_lst_tuple (h : H p = some (.lst xs)) (q : Q (.bl false) H) : rIsinst K [.ref p, .ty "tuple"] H Q := go_isinst (.lst h) ((kit_c K "list" "tuple").trans kc_lst_tuple) q
theorem kc_lst_list : kitC "list" "list" = some true := by decide +kernel
theorem go_is_lst_list (h : H p = some (.lst xs)) (q : Q (.bl true) H) : rIsinst K [.ref p, .ty "list"] H Q := go_isinst (.lst h) ((kit_c K "list" "list").trans kc_lst_list) q
theorem kc_tup_int : kitC "tuple" "int" = some false := by decide +kernel
theorem go_is_tup_int (h : H p = some (.tup xs)) (q : Q (.bl false) H) : rIsinst K [.ref p, .ty "int"] H Q := go_isinst (.tup h) ((kit_c K "tuple" "int").trans kc_tup_int) q
theorem kc_tup_bool : kitC "tuple" "bool" = some false := by decide +kernel
theorem go_is_tup_bool (h : H p = some (.tup xs)) (q : Q (.bl false) H) : rIsinst K [.ref p, .ty "bool"] H Q := go_isinst (.tup h) ((kit_c K "tuple" "bool").trans kc_tup_bool) q
theorem kc_tup_str : kitC "tuple" "str" = some false := by decide +kernel
theorem go_is_tup_str (h : H p = some (.tup xs)) (q : Q (.bl false) H) : rIsinst K [.ref p, .ty "str"] H Q := go_isinst (.tup h) ((kit_c K "tuple" "str").trans kc_tup_str) q
theorem kc_tup_tuple : kitC "tuple" "tuple" = some true := by decide +kernel
theorem go_is_tup_tuple (h : H p = some (.tup xs)) (q : Q (.bl true) H) : rIsinst K [.ref p, .ty "tuple"] H Q := go_isinst (.tup h) ((kit_c K "tuple" "tuple").trans kc_tup_tuple) q
theorem kc_tup_list : kitC "tuple" "list" = some false := by decide +kernel
theorem go_is_tup_list (h : H p = some (.tup xs)) (q : Q (.bl false) H) : rIsinst K [.ref p, .ty "list"] H Q := go_isinst (.tup h) ((kit_c K "tuple" "list").trans kc_tup_list) q
end
def rIsN : R2 := fun x y H Q => y = .non ∧ Q (.bl (decide (x = .non))) H
def rNotN : R2 := fun x y H Q => y = .non ∧ Q (.bl (!decide (x = .non))) H
theorem o_isN {X : Cx} : OpR X (compareOp .Is) rIsN := op_isN
theorem o_notN {X : Cx} : OpR X (compareOp .IsNot) rNotN := op_notN
section
variable {H : Hp} {Q : VK} {p : Addr} {n m : Int} {b b' : Bool} {x y : Str} {v : V}
theorem go_isN_non (q : Q (.bl true) H) : rIsN .non .non H Q := ⟨rfl, q⟩
theorem go_isN_int (q : Q (.bl false) H) : rIsN (.int n) .non H Q := ⟨rfl, q⟩
theorem go_isN_str (q : Q (.bl false) H) : rIsN (.str x) .non H Q := ⟨rfl, q⟩
theorem go_isN_bl (q : Q (.bl false) H) : rIsN (.bl b) .non H Q := ⟨rfl, q⟩
theorem go_isN_ref (q : Q (.bl false) H) : rIsN (.ref p) .non H Q := ⟨rfl, q⟩
theorem go_notN_non (q : Q (.bl false) H) : rNotN .non .non H Q := ⟨rfl, q⟩
theorem go_notN_int (q : Q (.bl true) H) : rNotN (.int n) .non H Q := ⟨rfl, q⟩
theorem go_notN_str (q : Q (.bl true) H) : rNotN (.str x) .non H Q := ⟨rfl, q⟩
theorem go_notN_bl (q : Q (.bl true) H) : rNotN (.bl b) .non H Q := ⟨rfl, q⟩
theorem go_notN_ref (q : Q (.bl true) H) : rNotN (.ref p) .non H Q := ⟨rfl, q⟩
theorem dcI : decide (V.int n = V.int m) = decide (n = m) := by by_cases h : n = m <;> simp [h]
theorem dcS : decide (V.str x = V.str y) = decide (x = y) := by by_cases h : x = y <;> simp [h]
theorem dcB : decide (V.bl b = V.bl b') = decide (b = b') := by by_cases h : b = b' <;> simp [h]
theorem go_eqI (q : Q (.bl (decide (n = m))) H) : rEq (.int n) (.int m) H Q := ⟨rfl, by rw [dcI]; exact q⟩
theorem go_eqS (q : Q (.bl (decide (x = y))) H) : rEq (.str x) (.str y) H Q := ⟨rfl, by rw [dcS]; exact q⟩
theorem go_eqB (q : Q (.bl (decide (b = b'))) H) : rEq (.bl b) (.bl b') H Q := ⟨rfl, by rw [dcB]; exact q⟩
theorem go_neI (q : Q (.bl (!decide (n = m))) H) : rNe (.int n) (.int m) H Q := ⟨rfl, by rw [dcI]; exact q⟩
theorem go_neS (q : Q (.bl (!decide (x = y))) H) : rNe (.str x) (.str y) H Q := ⟨rfl, by rw [dcS]; exact q⟩
theorem go_neB (q : Q (.bl (!decide (b = b'))) H) : rNe (.bl b) (.bl b') H Q := ⟨rfl, by rw [dcB]; exact q⟩
end
section
variable {A B c : Prop} {b : Bool}
theorem go_iteNT [Decidable c] (hc : c) (h : B) : if (!decide c) = true then A else B := iteNS hc h
theorem go_iteNF [Decidable c] (hc : ¬ c) (h : A) : if (!decide c) = true then A else B := by rw [if_pos (by simp [hc])]; exact h
theorem go_iteDT [Decidable c] (hc : c) (h : A) : if decide c = true then A else B := by rw [if_pos (by simp [hc])]; exact h
theorem go_iteDF [Decidable c] (hc : ¬ c) (h : B) : if decide c = true then A else B := by rw [if_neg (by simp [hc])]; exact h
theorem go_iteNt (h : B) : if (!true) = true then A else B := iteF h
theorem go_iteNf (h : A) : if (!false) = true then A else B := iteT h
theorem go_iteNN {c : Bool} (h : if c = true then A else B) : if (!(!c)) = true then A else B := by rw [Bool.not_not]; exact h
theorem go_iteBT (e : b = true) (h : A) : if b = true then A else B := by rw [if_pos e]; exact h
theorem go_iteBF (e : b = false) (h : B) : if b = true then A else B := by rw [e]; exact iteF h
end
section
variable {H : Hp} {Q : VK} {K : PySem.W.Frag} {p : Addr} {xs : List V} {n : Int} {v : V}
theorem go_ixAL (h : H p = some (.lst xs)) (e : atI xs n = some v) (q : Q v H) : rIx K (.ref p) (.int n) H Q := .inl (go_ixL h e q)
theorem go_ixAT (h : H p = some (.tup xs)) (e : atI xs n = some v) (q : Q v H) : rIx K (.ref p) (.int n) H Q := .inr (.inl (go_ixT h e q))
theorem atI_0n {xs : List V} {i : Nat} {v : V} (h : xs[i]? = some v) : atI xs (0 + (i : Int)) = some v := by
  rw [Int.zero_add]; exact atI_nat h
end
section
variable {σ : St} {H : Hp} {Q : VK} {nx : St → Hp → Prop} {K : PySem.W.Frag} {p p' : Addr} {xs ys : List V} {n : Nat} {v x : V} {t : TG} {u : TGs} {te : TE} {tl th : TO} {b : Bool} {r : V → Option Int → Option Int → Hp → VK → Prop} {lo hi : Option Int} {QO : Option Int → Hp → Prop} {i : Int} {rt : VK} {bk ct : St → Hp → Prop} {tA : TA}
theorem go_gtup (h : H p = some (.tup xs)) (e : xs.length = n) (q : u xs σ H nx) : gTup K n u (.ref p) σ H nx := ⟨p, xs, rfl, SqT.of h, e, q⟩
theorem go_gcons (q : t v σ H fun σ' H' => u xs σ' H' nx) : gCons t u (v :: xs) σ H nx := ⟨v, xs, rfl, q⟩
theorem go_gnil (q : nx σ H) : gNil [] σ H nx := ⟨rfl, q⟩
theorem go_sl (h : te σ H fun x H1 => tl σ H1 fun l H2 => th σ H2 fun u H3 => r x l u H3 Q) : tSl r te tl th σ H Q := h
theorem go_nopart (h : QO none H) : tNoPart σ H QO := h
theorem go_part (h : te σ H fun x H1 => qI x H1 QO) : tPart te σ H QO := h
theorem go_qI (h : QO (some i) H) : qI (.int i) H QO := ⟨i, rfl, h⟩
theorem go_slT (h : H p = some (.tup xs)) (e : ¬ (HT.sIx xs.length 0 lo = 0 ∧ HT.sIx xs.length xs.length hi = xs.length)) (q : ∀ p, H p = none → Q (.ref p) (upd H p (.tup (cutV xs lo hi)))) : rSlT K (.ref p) lo hi H Q := ⟨p, xs, rfl, SqT.of h, e, q⟩
theorem go_catT (h : H p = some (.tup xs)) (h' : H p' = some (.tup ys)) (e : xs ≠ []) (e' : ys ≠ []) (l : xs.length + ys.length ≤ sizeLine) (q : ∀ a, H a = none → Q (.ref a) (upd H a (.tup (xs ++ ys)))) : rCatT K (.ref p) (.ref p') H Q :=
  ⟨p, p', xs, ys, rfl, rfl, SqT.of h, SqT.of h', e, l, fun z => absurd z e', fun _ => q⟩
theorem go_cat (h : H p = some (.lst xs)) (h' : H p' = some (.lst ys)) (l : xs.length + ys.length ≤ sizeLine) (q : ∀ a, H a = none → Q (.ref a) (upd H a (.lst (xs ++ ys)))) : rCat (.ref p) (.ref p') H Q := ⟨p, p', xs, ys, rfl, rfl, h, h', l, q⟩
theorem go_inT (h : H p = some (.tup xs)) (fx : flatV x = true) (fs : xs.all flatV = true) (q : Q (.bl (inV x xs)) H) : rIn K false x (.ref p) H Q := ⟨p, xs, rfl, .inr (SqT.of h), fx, fs, q⟩
theorem go_notInT (h : H p = some (.tup xs)) (fx : flatV x = true) (fs : xs.all flatV = true) (q : Q (.bl (!inV x xs)) H) : rIn K true x (.ref p) H Q := ⟨p, xs, rfl, .inr (SqT.of h), fx, fs, q⟩
end
section
variable {X : Cx} (K : PySem.W.Frag)
theorem kIxL (e : X.K = K := by rfl) : IxR X (rIxL K) := e ▸ ix_list
theorem kIxT (e : X.K = K := by rfl) : IxR X (rIxT K) := e ▸ ix_tup
theorem kIx (e : X.K = K := by rfl) : IxR X (rIx K) := e ▸ ix_seq
theorem kSlT (e : X.K = K := by rfl) : SlR X (rSlT K) := e ▸ sl_tup
theorem kSlL (e : X.K = K := by rfl) : SlR X (rSlL K) := e ▸ sl_list
theorem kIn (e : X.K = K := by rfl) : OpR X (compareOp .In) (rIn K false) := e ▸ op_in_seq
theorem kNotIn (e : X.K = K := by rfl) : OpR X (compareOp .NotIn) (rIn K true) := e ▸ op_notIn_seq
theorem kCatT (e : X.K = K := by rfl) : OpR X (binaryOp .Add) (rCatT K) := e ▸ op_catT
theorem kLen (e : X.K = K := by rfl) : CallR X (.builtin "len") (rLen K) := e ▸ c_len
theorem kIsinst (e : X.K = K := by rfl) : CallR X (.builtin "isinstance") (rIsinst K) := e ▸ c_isinst
theorem kList (e : X.K = K := by rfl) : CallR X (.type "list") (rListOf K) := e ▸ c_list
theorem kTuple (e : X.K = K := by rfl) : CallR X (.type "tuple") (rTupleOf K) := e ▸ c_tuple
theorem kPiL {tg l : Expr} {tl : TE} (hl : PE X l tl) (e : X.K = K := by rfl) : PI X tg l (iList K tl) := e ▸ pi_list hl
theorem kPiT {tg l : Expr} {tl : TE} (hl : PE X l tl) (e : X.K = K := by rfl) : PI X tg l (iTup K tl) := e ▸ pi_tup hl
theorem kPgT {es : List Expr} {k : Nat} {t : TGs} {n : Nat} {pos : Pos} (hc : X.calm = true) (h : PGs X es t)
    (hn : (assignEach es X.env).length = n := by rfl) (hst : (assignEach es X.env).findIdx? (·.1) = none := by rfl) (e : X.K = K := by rfl) : PG X (.Tuple es k pos) (gTup K n t) := e ▸ pg_tup hc h hn hst
end
def qBM (K : PySem.W.Frag) (T : String) (r : V → List V → Hp → VK → Prop) (t : TA) (x : V) (σ : St) (H1 : Hp) (Q : VK) : Prop := tyV K T x H1 ∧ t σ H1 fun xs H2 => r x xs H2 Q
def qBM0 (K : PySem.W.Frag) (T : String) (r : V → List V → Hp → VK → Prop) (x : V) (H1 : Hp) (Q : VK) : Prop := tyV K T x H1 ∧ r x [] H1 Q
section
variable {σ : St} {H : Hp} {Q : VK} {K : PySem.W.Frag} {p : Addr} {xs ys : List V} {y : V} {to : TE} {t : TA} {T : String} {r : V → List V → Hp → VK → Prop}
theorem go_bm (h : to σ H fun x H1 => qBM K T r t x σ H1 Q) : tBM K T r to t σ H Q := h
theorem go_bm0 (h : to σ H fun x H1 => qBM0 K T r x H1 Q) : tBM0 K T r to σ H Q := h
theorem go_qbm (h : H p = some (.lst xs)) (q : t σ H fun vs H2 => r (.ref p) vs H2 Q) : qBM K "list" r t (.ref p) σ H Q := ⟨.inl ⟨rfl, _, SqL.of h⟩, q⟩
theorem go_qbm0 (h : H p = some (.lst xs)) (q : r (.ref p) [] H Q) : qBM0 K "list" r (.ref p) H Q := ⟨.inl ⟨rfl, _, SqL.of h⟩, q⟩
theorem go_append (h : H p = some (.lst xs)) (l : xs.length < sizeLine) (q : Q .non (upd H p (.lst (xs ++ [y])))) : rAppend (.ref p) [y] H Q := ⟨p, xs, y, rfl, rfl, h, l, q⟩
theorem go_clear (h : H p = some (.lst xs)) (q : Q .non (upd H p (.lst []))) : rClear (.ref p) [] H Q := ⟨p, xs, rfl, rfl, h, q⟩
end
def qDG (x y : V) (H2 : Hp) (Q : VK) : Prop := ∃ a v, x = .ref a ∧ DGet H2 a y (some v) ∧ Q v H2
def qDP (x y v : V) (H3 : Hp) (Q : Hp → Prop) : Prop := ∃ a H4, x = .ref a ∧ DPut H3 a y v H4 ∧ Q H4
def qDisp (p : Addr) (ps : List (V × V)) (H2 : Hp) (Q : VK) : Prop := H2 p = some (.dK []) ∧ ∃ kvs : List (Key × V), ps = kvs.map (fun kv => (kV kv.1, kv.2)) ∧ kvs.length ≤ 15 ∧ Q (.ref p) (upd H2 p (.dK (mergeK [] kvs)))
def rSetD : TSet := fun o i v H Q => qDP o i v H Q
theorem set_dict {X : Cx} (hu : X.A.units + 1 < cLine) : PSet X rSetD := by
  intro pins s σ H o i v ov iv u Q I ro ri rv h
  obtain ⟨a, H4, rfl, g, q⟩ := h
  cases ro
  exact d_setItem hu I g ri rv fun s' I' => ⟨H4, I', q⟩
section
variable {X : Cx} {pins : List (Addr × Obj)} {σ : St} {H : Hp} {s : Shared} {a b : Addr} {kvs more : List (Key × V)} {A : Around} {E : Value → Shared → Prop}
theorem d_update {Q : Value → Shared → Prop} (I : Inv X pins σ H s) (e : H a = some (.dK kvs)) (e' : H b = some (.dK more)) (n : a ≠ b) (hz : kvs.length + more.length ≤ sizeLine) (h : ∀ s', Inv X pins σ (upd H a (.dK (mergeK kvs more))) s' → Q .none s') :
    wpAny (model X.prog X.w) A (call (.builtin "dict.update") [.ref a, .ref b]) Q E s := by
  obtain ⟨z, hd, vs, rel, dd⟩ := dk_of I.hok e
  obtain ⟨z', hd', vs', rel', dd'⟩ := dk_of I.hok e'
  refine call_meetsIn PySem.F.slot_dict_update dd.typeIs PySem.F.entry_dict_update (PySem.F.args_dict_update_2 _ _) (meets_dict_update (mixKind X.prog X.w) a b n hd') ⟨vs, vs', dd, dd', by rw [← rel.length, ← rel'.length]; exact hz, fun h' dd2 _ hs => h _ ?_⟩
  have he : ∃ q, h'.get? a = some q := let ⟨q, _, _, hq, _⟩ := dd2; ⟨q, hq⟩
  exact d_write (t' := s.toks) I (by rw [e]; exact True.intro) hs he (dk_new (Nat.le_trans (length_mergeK more kvs) hz) hd (rel'.merge rel) dd2)
end
def rUpdate : V → List V → Hp → VK → Prop := fun x xs H Q => ∃ a b kvs more, x = .ref a ∧ xs = [.ref b] ∧ H a = some (.dK kvs) ∧ H b = some (.dK more) ∧ a ≠ b ∧ kvs.length + more.length ≤ sizeLine ∧ Q .non (upd H a (.dK (mergeK kvs more)))
theorem mt_update {X : Cx} : MtR X "dict.update" rUpdate := by
  intro pins s σ H x xs v us Q I rx rs h
  obtain ⟨a, b, kvs, more, rfl, rfl, e, e', n, hz, q⟩ := h
  cases rx
  obtain ⟨u, rfl, ru⟩ := vals1 rs
  cases ru
  exact d_update I e e' n hz fun s' I' => ⟨.non, _, I', rfl, q⟩
section
variable {σ : St} {H : Hp} {Q : VK} {nx : St → Hp → Prop} {rt : VK} {bk ct : St → Hp → Prop} {td ty tv : TE} {p p' : Addr} {kvs kvs' more : List (Key × V)} {k : Str} {v x y : V} {QH : Hp → Prop} {trs : List (TE × TE)} {ps : List (V × V)} {QP : List (V × V) → Hp → Prop} {K : PySem.W.Frag} {t : TA} {r : V → List V → Hp → VK → Prop}
theorem go_dget (h : td σ H fun x H1 => ty σ H1 fun y H2 => qDG x y H2 Q) : tDGet td ty σ H Q := h
theorem go_qdg (h : H p = some (.dK kvs)) (e : valV kvs (.inr k) = some v) (q : Q v H) : qDG (.ref p) (.str k) H Q := ⟨p, v, rfl, by rw [← e]; exact DGet.k (k := Sum.inr k) h, q⟩
theorem go_dput (h : tv σ H fun v H1 => td σ H1 fun x H2 => ty σ H2 fun y H3 => qDP x y v H3 (nx σ)) : sDPut td ty tv ⟨nx, rt, bk, ct⟩ σ H := h
theorem go_qdp (h : H p = some (.dK kvs)) (e : putK kvs (.inr k) v = kvs') (l : kvs.length < sizeLine) (q : QH (upd H p (.dK kvs'))) : qDP (.ref p) (.str k) v H QH := ⟨p, _, rfl, DPut.k (k := Sum.inr k) h l, by rw [e]; exact q⟩
theorem go_setD (h : qDP x y v H QH) : rSetD x y v H QH := h
theorem go_disp (h : ∀ p, H p = none → tPairs trs σ (upd H p (.dK [])) fun ps H2 => qDisp p ps H2 Q) : tDisp trs σ H Q := h
theorem go_pnil (h : QP [] H) : tPairs [] σ H QP := h
theorem go_pcons (h : td σ H fun x H1 => tv σ H1 fun y H2 => tPairs trs σ H2 fun ps H3 => QP ((x, y) :: ps) H3) : tPairs ((td, tv) :: trs) σ H QP := h
theorem go_qdisp (kvs : List (Key × V)) (h : H p = some (.dK [])) (e : ps = kvs.map (fun kv => (kV kv.1, kv.2))) (l : kvs.length ≤ 15) (e2 : mergeK [] kvs = kvs) (q : Q (.ref p) (upd H p (.dK kvs))) : qDisp p ps H Q := ⟨h, kvs, e, l, by rw [e2]; exact q⟩
theorem go_qbmD (h : H p = some (.dK kvs)) (q : t σ H fun vs H2 => r (.ref p) vs H2 Q) : qBM K "dict" r t (.ref p) σ H Q := ⟨.inr (.inr (.inl ⟨rfl, .inl ⟨_, h⟩⟩)), q⟩
theorem go_update (h : H p = some (.dK kvs)) (h' : H p' = some (.dK more)) (n : p ≠ p') (l : kvs.length + more.length ≤ sizeLine) (e : mergeK kvs more = kvs') (q : Q .non (upd H p (.dK kvs'))) : rUpdate (.ref p) [.ref p'] H Q := ⟨p, p', kvs, more, rfl, rfl, h, h', n, l, by rw [e]; exact q⟩
end
section
variable {prog : Program} {w : World} {A : Around} {E : Value → Shared → Prop}
theorem take_items {c l : Addr} {xs : Array Value} (ne : l ≠ c) : ∀ (k j : Nat) (u : Shared) (R : List Value → Shared → Prop), u.heap.IsListIter c l j → u.heap.IsList l xs → j + k ≤ xs.size →
    (∀ g : Heap, g.IsListIter c l (j + k) → Heap.SameBut c u.heap g → R ((xs.toList.drop j).take k) { u with heap := g }) → wpAny (model prog w) A (draw (.ref c) k) R E u := by
  intro k
  induction k with
  | zero =>
    intro j u R hc _ _ z
    have q := z u.heap hc (Heap.SameBut.refl _ _)
    rw [List.take_zero] at q
    exact wpAny_pure q
  | succ k ih =>
    intro j u R hc hx hz z
    have lt : j < xs.size := by omega
    have at_j : xs[j]? = some xs[j] := by simp [lt]
    refine wpAny_bind (wpAny_pyNext_list_item hc hx at_j fun g1 c1 b1 => wpAny_bind (wpAny_holding ?_))
    refine ih (j + 1) _ _ c1 (hx.extBut b1.extBut ne) (by omega) fun g2 c2 b2 => wpAny_pure ?_
    have c3 : g2.IsListIter c l (j + (k + 1)) := by rw [Nat.add_comm k 1, ← Nat.add_assoc]; exact c2
    have q := z g2 c3 (b1.trans b2)
    rw [List.drop_eq_getElem_cons (by simpa using lt), List.take_succ_cons] at q
    simpa using q
theorem items_of_list {u : Shared} {l : Addr} {xs : Array Value} {R : List Value → Shared → Prop} (calm : A.handled = none) (hx : u.heap.IsList l xs)
    (z : ∀ g, Heap.ExtBut u.heap.objs.size u.heap g → R xs.toList { u with heap := g }) : wpAny (model prog w) A (unpackItems (.ref l) xs.size none) R E u := by
  have ne : l ≠ u.heap.objs.size := by
    obtain ⟨ob, there, _⟩ := hx
    exact Nat.ne_of_lt (Heap.lt_size there)
  have all : (xs.toList.drop 0).take xs.size = xs.toList := by rw [List.drop_zero, List.take_of_length_le (by simp)]
  unfold unpackItems notIterableAtAll
  refine wpAny_bind (wpAny_bind (wpAny_specialOf hx.typeIs slot_list_iter.lookup (wpAny_pure ?_)))
  simp only [Bool.false_eq_true, if_false]
  refine wpAny_bind (wpAny_holding (wpAny_pyIter_list hx (wpAny_bind (wpAny_holding ?_))))
  refine take_items ne xs.size 0 _ _ ⟨_, Heap.get?_push_size _ rfl, rfl, rfl⟩ (hx.push _) (by omega) fun g1 c1 b1 => ?_
  rw [all, if_neg (by simp)]
  refine wpAny_bind (wpAny_holding (wpAny_pyNext_list_end calm c1 ((hx.push _).extBut b1.extBut ne) (by simp) fun g2 b2 => ?_))
  simp only [Option.isSome_none, Bool.false_eq_true, if_false]
  exact wpAny_pure (z g2 fun b ob nb e => b2 b ob nb (b1.extBut b ob nb (Heap.get?_push_of_some _ e)))
theorem assign_of_list {u : Shared} {env : Env} {es : List Expr} {x1} {pos : Pos} {l : Addr} {xs : Array Value} {R : Unit → Shared → Prop} (calm : A.handled = none) (hx : u.heap.IsList l xs)
    (len : (assignEach es env).length = xs.size) (plain : (assignEach es env).findIdx? (·.1) = none)
    (z : ∀ g, Heap.ExtBut u.heap.objs.size u.heap g → wpAny (model prog w) A (assignInOrder ((assignEach es env).map (·.2)) xs.toList) R E { u with heap := g }) :
    wpAny (model prog w) A (assign (.Tuple es x1 pos) env (.ref l)) R E u := by
  rw [assign_Tuple]
  unfold unpack
  rw [len, plain]
  exact wpAny_bind (wpAny_standAt (wpAny_bind (wpAny_holding (items_of_list calm hx z))))
end
def gLst (n : Nat) (t : TGs) : TG := fun v σ H Q => ∃ a xs, v = .ref a ∧ H a = some (.lst xs) ∧ xs.length = n ∧ t xs σ H Q
theorem pg_lst {X : Cx} {es : List Expr} {k : Nat} {t : TGs} {n : Nat} {pos : Pos} (hc : X.calm = true) (h : PGs X es t)
    (hn : (assignEach es X.env).length = n := by rfl) (hst : (assignEach es X.env).findIdx? (·.1) = none := by rfl) : PG X (.Tuple es k pos) (gLst n t) := by
  intro pins s σ H v u Q I r hw
  obtain ⟨a, xs, e1, hq, hl, hw⟩ := hw
  subst e1
  cases r
  obtain ⟨its, m, rv, ho, hz⟩ := I.lst hq
  refine assign_of_list (xs := its.toArray) (I.ok.hd hc) ⟨_, ho, rfl, m, rfl⟩ (by rw [hn, ← hl, rv.length, List.size_toArray]) hst fun h' hx => ?_
  have I1 : Inv X pins σ H { s with heap := h' } := I.kept (t' := s.toks) fun b o e => hx b o (Nat.ne_of_lt (Heap.lt_size e)) e
  exact h pins _ σ H xs _ Q I1 (by simpa using rv) hw
theorem go_glst {σ : St} {H : Hp} {nx : St → Hp → Prop} {p : Addr} {xs : List V} {n : Nat} {u : TGs} (h : H p = some (.lst xs)) (e : xs.length = n) (q : u xs σ H nx) : gLst n u (.ref p) σ H nx := ⟨p, xs, rfl, h, e, q⟩
def forQ (J : It) (g : TG) (tb : TS) (D : Ends) (σ : St) (H1 : Hp) : Prop := ∃ W : Nat → Nat → St → Hp → Prop, (∃ m, W 0 m σ H1) ∧ ∀ i m σ H, W i m σ H →
  (J.stop i H ∧ D.nx σ H) ∨ (J.go i H ∧ ∃ N : St → Hp → Prop, (∀ σ' H', N σ' H' → ∃ m', m' < m ∧ W (i + 1) m' σ' H') ∧ ∀ x H', J.yld i H x H' → g x σ H' fun σ2 H2 => tb { D with nx := N, ct := N, bk := D.nx } σ2 H2)
def qRng1 (vs : List V) (H1 : Hp) (R : It → Hp → Prop) : Prop := ∃ j : Int, vs = [.int j] ∧ -(2 ^ 62) ≤ j ∧ j < 2 ^ 62 ∧ R (Itr 0 j.toNat) H1
def qItL (K : PySem.W.Frag) (x : V) (H1 : Hp) (R : It → Hp → Prop) : Prop := ∃ a, x = .ref a ∧ (∃ xs, SqL K H1 a xs) ∧ R (Itl K a) H1
def qItT (K : PySem.W.Frag) (x : V) (H1 : Hp) (R : It → Hp → Prop) : Prop := ∃ a, x = .ref a ∧ (∃ xs, SqT K H1 a xs) ∧ R (Itt K a) H1
def whQ (Pv : St → Hp → Prop) (μ : St → Hp → Nat) (m : Nat) (tb : TS) (D : Ends) (σ : St) (b : Bool) (H1 : Hp) : Prop :=
  if b = true then ∃ N : St → Hp → Prop, (∀ σ' H', N σ' H' → ∃ m', m' < m ∧ (m' = μ σ' H' ∧ Pv σ' H')) ∧ tb { D with nx := N, ct := N, bk := D.nx } σ H1 else D.nx σ H1
def lcA (D : Addr) (y : V) (H4 : Hp) (N : Hp → Prop) : Prop := ∃ acc, H4 D = some (.lst acc) ∧ acc.length < sizeLine ∧ N (upd H4 D (.lst (acc ++ [y])))
def lcQ (J : It) (g : TG) (tt : TT) (te : TE) (vs : List Nat) (σ : St) (H1 : Hp) (Q : VK) : Prop := ∀ D, H1 D = none → ∃ W : Nat → Nat → Hp → Prop, (∃ m, W 0 m (upd H1 D (.lst []))) ∧ ∀ i m H, W i m H →
  (J.stop i H ∧ Q (.ref D) H) ∨ (J.go i H ∧ ∃ Nx : Hp → Prop, (∀ H', Nx H' → ∃ m', m' < m ∧ W (i + 1) m' H') ∧ ∀ x H', J.yld i H x H' → g x (wipe σ vs) H' fun σ2 H2 => wipe σ2 vs = wipe σ vs ∧ tt σ2 H2 fun b H3 =>
    if b = true then te σ2 H3 fun y H4 => lcA D y H4 Nx else Nx H3)
section
variable {σ : St} {H : Hp} {Q : VK} {nx : St → Hp → Prop} {rt : VK} {bk ct : St → Hp → Prop} {tb : TS} {c tt : TT} {te : TE} {tA : TA} {g : TG} {wi : TI} {R : It → Hp → Prop} {K : PySem.W.Frag} {p : Addr} {xs : List V} {n : Nat} {j lo : Int} {b : Bool} {vs : List Nat} {x : V}
theorem go_for (h : wi σ H fun J H1 => forQ J g tb ⟨nx, rt, bk, ct⟩ σ H1) : tFor wi g tb ⟨nx, rt, bk, ct⟩ σ H := h
theorem go_rng1 (h : tA σ H fun vs H1 => qRng1 vs H1 R) : iRng1 tA σ H R := h
theorem go_qrng1 (h1 : -(2 ^ 62) ≤ j) (h2 : j < 2 ^ 62) (h : R (Itr 0 j.toNat) H) : qRng1 [.int j] H R := ⟨j, rfl, h1, h2, h⟩
theorem go_iL (h : te σ H fun x H1 => qItL K x H1 R) : iList K te σ H R := h
theorem go_iT (h : te σ H fun x H1 => qItT K x H1 R) : iTup K te σ H R := h
theorem go_qiL (h : H p = some (.lst xs)) (q : R (Itl K p) H) : qItL K (.ref p) H R := ⟨p, rfl, ⟨xs, SqL.of h⟩, q⟩
theorem go_qiLs (h : SqL K H p xs) (q : R (Itl K p) H) : qItL K (.ref p) H R := ⟨p, rfl, ⟨xs, h⟩, q⟩
theorem go_qiT (h : H p = some (.tup xs)) (q : R (Itt K p) H) : qItT K (.ref p) H R := ⟨p, rfl, ⟨xs, SqT.of h⟩, q⟩
theorem fq_range (Pv : Nat → St → Hp → Prop) (h0 : Pv 0 σ H) (hs : ∀ (i : Nat) (σ : St) (H : Hp), i < n → Pv i σ H → g (.int (lo + i)) σ H fun σ2 H2 => tb ⟨Pv (i + 1), rt, nx, Pv (i + 1)⟩ σ2 H2) (hd : ∀ σ H, Pv n σ H → nx σ H) :
    forQ (Itr lo n) g tb ⟨nx, rt, bk, ct⟩ σ H := for_range (D := ⟨nx, rt, bk, ct⟩) Pv h0 hs hd
theorem fq_list (xs : List V) (Pv : Nat → St → Hp → Prop) (h0 : Pv 0 σ H) (hl : ∀ (i : Nat) (σ : St) (H : Hp), i ≤ xs.length → Pv i σ H → SqL K H p xs) (hs : ∀ (i : Nat) (x : V) (σ : St) (H : Hp), xs[i]? = some x → Pv i σ H → g x σ H fun σ2 H2 => tb ⟨Pv (i + 1), rt, nx, Pv (i + 1)⟩ σ2 H2) (hd : ∀ σ H, Pv xs.length σ H → nx σ H) :
    forQ (Itl K p) g tb ⟨nx, rt, bk, ct⟩ σ H := for_list (D := ⟨nx, rt, bk, ct⟩) Pv h0 hl hs hd
theorem go_whQ {Pv : St → Hp → Prop} {μ : St → Hp → Nat} {m : Nat} (h : if b = true then tb ⟨fun σ' H' => Pv σ' H' ∧ μ σ' H' < m, rt, nx, fun σ' H' => Pv σ' H' ∧ μ σ' H' < m⟩ σ H else nx σ H) : whQ Pv μ m tb ⟨nx, rt, bk, ct⟩ σ b H := by
  unfold whQ
  cases b with
  | true =>
    rw [if_pos rfl] at h ⊢
    exact ⟨_, fun σ' H' (z : Pv σ' H' ∧ μ σ' H' < m) => ⟨_, z.2, rfl, z.1⟩, h⟩
  | false =>
    rw [if_neg Bool.false_ne_true] at h ⊢
    exact h
theorem go_lc (h : wi σ H fun J H1 => lcQ J g tt te vs σ H1 Q) : tLc wi g tt te vs σ H Q := h
theorem go_yes {QB : Bool → Hp → Prop} (h : QB true H) : tYes σ H QB := h
theorem go_lcA {D : Addr} {acc : List V} {y : V} {N : Hp → Prop} (h : H D = some (.lst acc)) (l : acc.length < sizeLine) (q : N (upd H D (.lst (acc ++ [y])))) : lcA D y H N := ⟨acc, h, l, q⟩
theorem lq_range (h : ∀ D, H D = none → ∃ Pv : Nat → Hp → Prop, Pv 0 (upd H D (.lst [])) ∧ (∀ (i : Nat) (H : Hp), i < n → Pv i H → g (.int (lo + i)) (wipe σ vs) H fun σ2 H2 => wipe σ2 vs = wipe σ vs ∧ tt σ2 H2 fun b H3 =>
      if b = true then te σ2 H3 fun y H4 => lcA D y H4 (Pv (i + 1)) else Pv (i + 1) H3) ∧ ∀ H, Pv n H → Q (.ref D) H) : lcQ (Itr lo n) g tt te vs σ H Q := fun D hD => by
  obtain ⟨Pv, h0, hs, hd⟩ := h D hD
  exact lc_range (Qd := Q (.ref D)) Pv h0 hs hd
theorem lq_list (xs : List V) (h : ∀ D, H D = none → ∃ Pv : Nat → Hp → Prop, Pv 0 (upd H D (.lst [])) ∧ (∀ (i : Nat) (H : Hp), i ≤ xs.length → Pv i H → SqL K H p xs) ∧ (∀ (i : Nat) (x : V) (H : Hp), xs[i]? = some x → Pv i H → g x (wipe σ vs) H fun σ2 H2 => wipe σ2 vs = wipe σ vs ∧ tt σ2 H2 fun b H3 =>
      if b = true then te σ2 H3 fun y H4 => lcA D y H4 (Pv (i + 1)) else Pv (i + 1) H3) ∧ ∀ H, Pv xs.length H → Q (.ref D) H) : lcQ (Itl K p) g tt te vs σ H Q := fun D hD => by
  obtain ⟨Pv, h0, hl, hs, hd⟩ := h D hD
  exact lc_list (Qd := Q (.ref D)) Pv h0 hl hs hd
theorem lq_tup (xs : List V) (h : ∀ D, H D = none → ∃ Pv : Nat → Hp → Prop, Pv 0 (upd H D (.lst [])) ∧ (∀ (i : Nat) (H : Hp), i ≤ xs.length → Pv i H → SqT K H p xs) ∧ (∀ (i : Nat) (x : V) (H : Hp), xs[i]? = some x → Pv i H → g x (wipe σ vs) H fun σ2 H2 => wipe σ2 vs = wipe σ vs ∧ tt σ2 H2 fun b H3 =>
      if b = true then te σ2 H3 fun y H4 => lcA D y H4 (Pv (i + 1)) else Pv (i + 1) H3) ∧ ∀ H, Pv xs.length H → Q (.ref D) H) : lcQ (Itt K p) g tt te vs σ H Q := fun D hD => by
  obtain ⟨Pv, h0, hl, hs, hd⟩ := h D hD
  exact lc_tup (Qd := Q (.ref D)) Pv h0 hl hs hd
end
def Off (d : Addr) (H H' : Hp) : Prop := ∀ b o, H b = some o → b ≠ d → H' b = some o
theorem upd_new {H : Hp} {p a : Addr} {o u : HO} (hp : H p = none) (h : H a = some u) : upd H p o a = some u := by rw [upd_ne (ne_of_none h hp)]; exact h
theorem upd_oth {H : Hp} {p a : Addr} {o u : HO} (hp : a ≠ p) (h : H a = some u) : upd H p o a = some u := by rw [upd_ne hp]; exact h
theorem Same.get {H H' : Hp} {a : Addr} {o : HO} (s : Same H H') (h : H a = some o) : H' a = some o := s a o h
theorem Off.get {d : Addr} {H H' : Hp} {a : Addr} {o : HO} (s : Off d H H') (n : a ≠ d) (h : H a = some o) : H' a = some o := s a o h n
theorem Same.off {d : Addr} {H H' : Hp} (s : Same H H') : Off d H H' := fun b o h _ => s b o h
theorem Off.refl (d : Addr) (H : Hp) : Off d H H := fun _ _ h _ => h
theorem Off.trans {d : Addr} {H H1 H2 : Hp} (a : Off d H H1) (b : Off d H1 H2) : Off d H H2 := fun c o h n => b c o (a c o h n) n
theorem same_new {H : Hp} {p : Addr} (h : H p = none) (o : HO) : Same H (upd H p o) := fun b u q => by rw [upd_ne (ne_of_none q h)]; exact q
theorem off_upd (H : Hp) (d : Addr) (o : HO) : Off d H (upd H d o) := fun b u q n => by rw [upd_ne n]; exact q
end L2
set_option Elab.async false
set_option linter.all false
set_option maxRecDepth 100000
namespace L2
open PySem PySem.Spec PyProof.Rows
section
open PySem.SeqAt
open PySem.AutoSeq1 (wpAny_loadPart')
open PySem.MeetsSeq PySem.MeetsSeq2 PySem.MeetsSeq3
section
variable {prog : Program} {w : World} {A : Around} {E : Value → Shared → Prop} {s : Shared} {l b : Addr} {us ws : Array Value} {ns ms : List Int}
end
end
section
variable {prog : Program} {w : World} {A : Around} {Z : Result → Shared → Prop} {I S : Addr} {fp wr : List Addr} {n : Nat} {P : Nat → Value → Prop} {St : Nat → Heap → Prop} {G : Heap → Prop} {bt : Nat → Nat → Bool}
end
section
variable {prog : Program} {w : World} {A : Around} {E : Value → Shared → Prop} {s : Shared}
end
section
variable {prog : Program} {w : World} {A : Around} {E : Value → Shared → Prop} {s : Shared}
end
def iRvR (ta : TA) : TI := fun σ H R => ta σ H fun vs H1 => ∃ n : Int, vs = [.int n] ∧ 0 ≤ n ∧ n < 2 ^ 62 ∧ R (Itc (n - 1) (-1) n.toNat) H1
def qRvR (vs : List V) (H1 : Hp) (R : It → Hp → Prop) : Prop := ∃ n : Int, vs = [.int n] ∧ 0 ≤ n ∧ n < 2 ^ 62 ∧ R (Itc (n - 1) (-1) n.toNat) H1
def qRng2 (vs : List V) (H1 : Hp) (R : It → Hp → Prop) : Prop := ∃ i j : Int, vs = [.int i, .int j] ∧ (-(2 ^ 62) ≤ i ∧ i < 2 ^ 62 ∧ -(2 ^ 62) ≤ j ∧ j < 2 ^ 62) ∧ R (Itr i (j - i).toNat) H1
def qEnum (K : PySem.W.Frag) (vs : List V) (H1 : Hp) (R : It → Hp → Prop) : Prop := ∃ a xs, vs = [.ref a] ∧ SqL K H1 a xs ∧ R (Ite K a) H1
section
variable {σ : St} {H : Hp} {Q : VK} {nx : St → Hp → Prop} {rt : VK} {bk ct : St → Hp → Prop} {tb : TS} {g : TG} {tA : TA} {R : It → Hp → Prop} {K : PySem.W.Frag} {a p : Addr} {n i j : Int} {m : Nat} {ns : List Int} {xs : List V}
theorem go_rvr (h : tA σ H fun vs H1 => qRvR vs H1 R) : iRvR tA σ H R := h
theorem go_qrvr (h0 : 0 ≤ n) (h1 : n < 2 ^ 62) (h : R (Itc (n - 1) (-1) n.toNat) H) : qRvR [.int n] H R := ⟨n, rfl, h0, h1, h⟩
theorem go_rng2 (h : tA σ H fun vs H1 => qRng2 vs H1 R) : iRng2 tA σ H R := h
theorem go_qrng2 (h1 : -(2 ^ 62) ≤ i) (h2 : i < 2 ^ 62) (h3 : -(2 ^ 62) ≤ j) (h4 : j < 2 ^ 62) (h : R (Itr i (j - i).toNat) H) : qRng2 [.int i, .int j] H R := ⟨i, j, rfl, ⟨h1, h2, h3, h4⟩, h⟩
theorem go_enum (h : tA σ H fun vs H1 => qEnum K vs H1 R) : iEnum K tA σ H R := h
theorem go_qenum (h : H p = some (.lst xs)) (q : R (Ite K p) H) : qEnum K [.ref p] H R := ⟨p, xs, rfl, SqL.of h, q⟩
theorem go_sumL (h : H p = some (.lst (ns.map V.int))) (q : Q (.int ns.sum) H) : rSum K [.ref p] H Q := ⟨p, ns, rfl, SqL.of h, q⟩
end
def qCh (r' : R2) (tc : TE) (y : V) (σ : St) (Q : VK) (z : V) (H3 : Hp) : Prop := ∃ k, z = .bl k ∧ (if k = true then tc σ H3 fun w' H4 => r' y w' H4 Q else Q (.bl false) H3)
theorem pe_gint {X : Cx} {x : Str} {n : Int} {pos : Pos} (hg : Gl X x) (h : ∃ t, X.mg x = some (.int n t)) (hd : (x == ("__debug__" : Str)) = false := by decide) : PE X (.Name x pos) (tC (.int n)) := by
  obtain ⟨t, h⟩ := h
  exact pe_glob hg h ⟨t, rfl⟩ hd
section
variable {X : Cx} (K : PySem.W.Frag)
theorem kNeD (hu : X.A.units + 64 < cLine) (e : X.K = K := by rfl) : OpR X (compareOp .NotEq) (rNeD K) := e ▸ op_neD hu
end
section
variable {σ : St} {H : Hp} {Q : VK} {nx : St → Hp → Prop} {rt : VK} {bk ct : St → Hp → Prop} {ta tb tc : TE} {r r' : R2} {K : PySem.W.Frag} {p : Addr} {xs : List V} {n : Int} {b : Bool} {y v v' : V} {ns : List Int} {lo hi : Option Int} {kvs kvs' : List (Key × V)} {QH : Hp → Prop}
theorem go_chain (h : ta σ H fun x H1 => tb σ H1 fun y H2 => r x y H2 fun z H3 => qCh r' tc y σ Q z H3) : tChain r r' ta tb tc σ H Q := h
theorem go_qch (h : if b = true then tc σ H fun w H4 => r' y w H4 Q else Q (.bl false) H) : qCh r' tc y σ Q (.bl b) H := ⟨b, rfl, h⟩
theorem go_slL (h : H p = some (.lst xs)) (q : ∀ a, H a = none → Q (.ref a) (upd H a (.lst (cutV xs lo hi)))) : rSlL K (.ref p) lo hi H Q := ⟨p, xs, rfl, SqL.of h, q⟩
theorem go_aug {i : Nat} {x : V} {te : TE} {ti : TIp} (e : σ[i]? = some (some x)) (h : te σ H fun y H1 => ti x y H1 fun z H2 => nx (σ.set i (some z)) H2) : tAug i te ti ⟨nx, rt, bk, ct⟩ σ H := ⟨x, e, h⟩
theorem go_ipI {f : Int → Int → Int} {m : Int} (h : Q (.int (f n m)) H) : ipI f (.int n) (.int m) H Q := ⟨n, m, rfl, rfl, h⟩
end
end L2
set_option Elab.async false
set_option linter.all false
set_option maxRecDepth 100000
namespace L2
open PySem PySem.Spec PyProof.Rows
section
variable {prog : Program} {w : World} {A : Around} {E : Value → Shared → Prop} {s : Shared}
theorem nx_tup_item {it t : Addr} {i : Nat} {items : Array Value} {x : Value} {Q : Value → Shared → Prop} (hit : IsTupIter s.heap it t i) (ht : IsTup s.heap t items) (hx : items[i]? = some x)
    (hQ : ∀ h', IsTupIter h' it t (i + 1) → Heap.SameBut it s.heap h' → Q x { s with heap := h' }) : wpAny (model prog w) A (Builtin.SmallTypes.nextOf (.ref it)) Q E s := by
  obtain ⟨o, e0, e1, e2⟩ := id hit
  obtain ⟨u, u0, _, k, u2⟩ := ht
  unfold Builtin.SmallTypes.nextOf
  refine wpAny_bind (wpAny_callSpecial?_slot (name := Str.ofString "__next__") hit.typeIs slot_tupleiter_next (wpAny_call_entry slot_tupleiter_next hit.typeIs entry_tupleiter_next ?_ (args_tupleiter_next _)))
  show wpAny _ _ (field (.ref it) 0 >>= _) _ _ s; refine wpAny_bind (wpAny_field e0 e2 (x := .ref t) rfl ?_)
  show wpAny _ _ (if (Value.ref t == Value.none) = true then _ else _) _ _ s; rw [if_neg (show ¬ ((Value.ref t == Value.none) = true) from Bool.false_ne_true)]
  show wpAny _ _ (field (.ref it) 1 >>= _) _ _ s; refine wpAny_bind (wpAny_field e0 e2 (x := .int i 0) rfl ?_)
  show wpAny _ _ (seqItems? (.ref t) >>= _) _ _ s; refine wpAny_bind (wpAny_seqItems u0 u2 ?_)
  simp only [Int.toNat_natCast, hx]
  refine wpAny_bind (wpAny_setField e0 e2 (by simp) (wpAny_pure ⟨x, rfl, wpAny_pure (hQ _ ?_ (Heap.SameBut.update ..))⟩))
  exact ⟨_, Heap.get?_update_self _ e0 (Obj.isFreed_of_fields (Obj.data_mapFields e2 _)), (Obj.cls_mapFields ..).trans e1, by rw [Obj.data_mapFields e2]; simp [rawInt]⟩
theorem nx_tup_end {it t : Addr} {i : Nat} {items : Array Value} {Q : Value → Shared → Prop} (hh : A.handled = none) (hit : IsTupIter s.heap it t i) (ht : IsTup s.heap t items) (hx : items[i]? = none)
    (hE : ∀ h' e, Heap.ExtBut it s.heap h' → (∃ o, h'.get? e = some o ∧ o.cls = .type "StopIteration") → E (.ref e) { s with heap := h' }) : wpAny (model prog w) A (Builtin.SmallTypes.nextOf (.ref it)) Q E s := by
  obtain ⟨o, e0, e1, e2⟩ := id hit
  obtain ⟨u, u0, _, k, u2⟩ := ht
  unfold Builtin.SmallTypes.nextOf
  refine wpAny_bind (wpAny_callSpecial?_slot (name := Str.ofString "__next__") hit.typeIs slot_tupleiter_next (wpAny_call_entry slot_tupleiter_next hit.typeIs entry_tupleiter_next ?_ (args_tupleiter_next _)))
  show wpAny _ _ (field (.ref it) 0 >>= _) _ _ s; refine wpAny_bind (wpAny_field e0 e2 (x := .ref t) rfl ?_)
  show wpAny _ _ (if (Value.ref t == Value.none) = true then _ else _) _ _ s; rw [if_neg (show ¬ ((Value.ref t == Value.none) = true) from Bool.false_ne_true)]
  show wpAny _ _ (field (.ref it) 1 >>= _) _ _ s; refine wpAny_bind (wpAny_field e0 e2 (x := .int i 0) rfl ?_)
  show wpAny _ _ (seqItems? (.ref t) >>= _) _ _ s; refine wpAny_bind (wpAny_seqItems u0 u2 ?_)
  simp only [Int.toNat_natCast, hx]
  refine wpAny_bind (wpAny_rule (wpAny_bind (wpAny_setField e0 e2 (by simp) ?_)))
  show wpAny _ _ (newExc (.type "StopIteration") [] >>= _) _ _ _; refine wpAny_bind ?_; simp only [newExc, newTuple]
  refine wpAny_bind (wpAny_newObj_type ?_ (by size_fits)); refine wpAny_bind (m := firstArgMember _ _) (wpAny_of_eq (a := Value.none) (by first | rfl | (simp only [firstArgMember]; rfl)) ?_)
  refine wpAny_newObj_type ?_ (by size_fits); simp only [raiseNew]; refine wpAny_bind (wpAny_handled ?_)
  first | rw [show A.in1.handled = none from hh] | rw [hh]
  refine wpAny_bind (wpAny_pure (wpAny_throw ?_))
  exact hE _ _ (((Heap.SameBut.update ..).extBut.push _).push _) ⟨_, Heap.get?_push_size _ rfl, rfl⟩
end
theorem tupIter_at {h h' : Heap} {a t : Addr} {i : Nat} (x : IsTupIter h a t i) (k : ∀ o, h.get? a = some o → h'.get? a = some o) : IsTupIter h' a t i := let ⟨o, e, r⟩ := x; ⟨o, k o e, r⟩
theorem tup_at {h h' : Heap} {t : Addr} {its : Array Value} (x : IsTup h t its) (k : ∀ o, h.get? t = some o → h'.get? t = some o) : IsTup h' t its := let ⟨o, e, r⟩ := x; ⟨o, k o e, r⟩
theorem drawsT {prog : Program} {w : World} {A : Around} (hh : A.handled = none) (it t : Addr) (hne : t ≠ it) (items : Array Value) :
    Draws prog w A it [it, t] items.size (fun i v => items[i]? = some v) (fun i h => IsTupIter h it t i ∧ IsTup h t items) where
  live := fun _ _ st => let ⟨o, ho, _⟩ := st.1; ⟨o, ho⟩
  frame := fun _ _ _ st k => ⟨tupIter_at st.1 fun o e => k it (by simp) o e, tup_at st.2 fun o e => k t (by simp) o e⟩
  item := fun i s Q E hi st hQ => nx_tup_item st.1 st.2 (x := items[i]) (by simp [hi]) fun h' a b => hQ _ h' s.toks (by simp [hi]) ⟨a, st.2.extBut b.extBut hne⟩ b
  done := fun s Q E st hE => nx_tup_end hh st.1 st.2 (by simp) hE
theorem meets_enumT (l : Addr) (items : Array Value) : Meets (Builtin.«enumerate.__new__» ⟨[.type "enumerate", .ref l], []⟩) (fun _ R s => IsTup s.heap l items ∧
      R (.ok (.ret (.ref (s.heap.push { cls := .type "tuple_iterator", data := .fields #[.ref l, .int 0 0] }).objs.size)))
        { s with heap := (s.heap.push { cls := .type "tuple_iterator", data := .fields #[.ref l, .int 0 0] }).push { cls := .type "enumerate", data := .fields #[.none, .bool false, .ref s.heap.objs.size, rawInt 0, .none, .none] } }) :=
  .of_wp fun prog w A R s h => by
    obtain ⟨hp, g, d, tk, os⟩ := s; obtain ⟨hl, h⟩ := h
    have hsub := sub_enumerate
    have hL : IsTup (Shared.heap ⟨hp, g, d, tk, os⟩) l items := hl
    wp_walk using iter_tuple hL
    refine wpAny_stack_any fun st => wpAny_pure ?_
    split
    · rename_i c _ _ _ _ _
      cases (c == Value.type "enumerate") <;> (wp_walk using iter_tuple hL; exact ⟨_, rfl, h⟩)
    · wp_walk using iter_tuple hL
      exact ⟨_, rfl, h⟩
section
variable {prog : Program} {w : World} {A : Around} {E : Value → Shared → Prop} {s : Shared}
theorem call_enumT {l : Addr} {items : Array Value} {Q : Value → Shared → Prop} (hL : IsTup s.heap l items)
    (h : ∀ h', IsEnum h' (s.heap.objs.size + 1) s.heap.objs.size 0 .none → IsTupIter h' s.heap.objs.size l 0 → h'.objs.size = s.heap.objs.size + 2 →
      (∀ b o, s.heap.get? b = some o → h'.get? b = some o) → Q (.ref (s.heap.objs.size + 1)) { s with heap := h' }) :
    wpAny (model prog w) A (call (.type "enumerate") [.ref l]) Q E s := by
  refine callType_new F.called_enumerate (by decide) (F.typeCall_enumerate_1 _) (F.newCall_enumerate_1 _) (fun obj => F.args_object_init_2 obj _) F.entry_enumerate_new (meets_enumT l items) ⟨hL, ?_⟩
  have z : (s.heap.push { cls := .type "tuple_iterator", data := .fields #[.ref l, .int 0 0] }).objs.size = s.heap.objs.size + 1 := Heap.size_push ..
  show _ ∧ _
  rw [z]
  have q := Heap.get?_push_size (s.heap.push { cls := .type "tuple_iterator", data := .fields #[.ref l, .int 0 0] }) (o := { cls := .type "enumerate", data := .fields #[.none, .bool false, .ref s.heap.objs.size, rawInt 0, .none, .none] }) rfl
  rw [z] at q
  exact ⟨⟨_, q, rfl⟩, h _ q ⟨_, Heap.get?_push_of_some _ (Heap.get?_push_size _ rfl), rfl, rfl⟩ (by rw [Heap.size_push, z]) fun b o x => Heap.get?_push_of_some _ (Heap.get?_push_of_some _ x)⟩
end
def IteT (K : PySem.W.Frag) (a : Addr) : It :=
  ⟨fun i H => ∃ (xs : List V) (x : V), SqT K H a xs ∧ xs[i]? = some x, fun i H v H' => ∃ T x, v = .ref T ∧ H T = none ∧ H' = upd H T (.tup [.int (i : Nat), x]) ∧ ∀ xs, SqT K H a xs → xs[i]? = some x, fun i H => ∃ xs : List V, SqT K H a xs ∧ xs.length ≤ i⟩
theorem Inv.ne_fp {X : Cx} {pins : List (Addr × Obj)} {σ : St} {H : Hp} {s : Shared} {a b : Addr} {xs : List V} {o : Obj} (I : Inv X pins σ H s) (q : SqT X.K H a xs) (hb : s.heap.get? b = some o) (hc : o.cls ≠ .type "tuple") : a ≠ b := by
  obtain ⟨its, _, ⟨u, e, c, _⟩, _⟩ := I.tuple q
  intro z
  subst z
  rw [hb] at e
  cases e
  exact hc c
theorem turn_enumT {P : Program} {w : World} {K : PySem.W.Frag} {elts : List Expr} {kk : Nat} {tpos : Pos} (a e it : Addr) :
    Turn P w K (.Tuple elts kk tpos) (IteT K a) [e, it] e (fun i h => (∃ old, IsEnum h e it ((i : Nat) : Int) old) ∧ IsTupIter h it a i ∧ e ≠ it) where
  mem := by simp
  obj := fun i h st b hb => by
    obtain ⟨⟨old, he⟩, ⟨o, ho, hc, hd⟩, _⟩ := st
    rcases (show b = e ∨ b = it by simpa using hb) with z | z
    · rw [z]; exact ⟨_, he, fun v q => nomatch q⟩
    · rw [z]; exact ⟨o, ho, fun v q => by rw [hd] at q; cases q⟩
  keep := fun i h h' st k => let ⟨⟨old, he⟩, hi, hne⟩ := st; ⟨⟨old, k e (by simp) _ he⟩, tupIter_at hi fun o q => k it (by simp) o q, hne⟩
  item := by
    intro X hP hw hK hc i pins s σ H E I hf st hg
    subst hP hw hK
    obtain ⟨⟨old, he⟩, hit, hne⟩ := st
    obtain ⟨xs, x, hq, hx⟩ := hg
    obtain ⟨its, rv, p, hz⟩ := I.tuple hq
    obtain ⟨u, hu, ru⟩ := rv.get hx
    have hel : e < s.heap.objs.size := Heap.lt_size he
    have hil : it < s.heap.objs.size := by obtain ⟨_, q, _⟩ := hit; exact Heap.lt_size q
    have hae : a ≠ e := I.ne_fp hq he (by simp)
    have hai : a ≠ it := by obtain ⟨oi, ei, ci, _⟩ := hit; exact I.ne_fp hq ei (by rw [ci]; simp)
    have hl := rv.length
    have hlt : i < its.toArray.size := by
      have := (List.getElem?_eq_some_iff.mp hx).1
      simp; omega
    refine wpAny_pyNext_enum_itemD (drawsT (A := X.A.in1) (I.ok.hd hc) it a hai its.toArray) he ⟨hit, p⟩ hlt hne (by simp [hne, hae.symm]) fun u' h' tk hu' ho hst hT hsz hk => ?_
    have eu : u' = u := by
      have : its[i]? = some u' := by simpa using hu'
      rw [hu] at this; exact (Option.some.inj this).symm
    subst eu
    refine ⟨_, rfl, wpAny_letOwnedTupleGo_enum (s := { s with heap := h', toks := tk + 1 }) ho fun h'' he' sb => ?_⟩
    have hT2 : h''.get? s.heap.objs.size = some { cls := .type "tuple", data := .seq #[.int i tk, u'] } := (sb.2 _ (Nat.ne_of_gt hel)).trans hT
    have new : ObjOk X.prog X.w (upd H s.heap.objs.size (.tup [.int (i : Nat), x])) h'' s.heap.objs.size (.tup [.int (i : Nat), x]) :=
      ⟨by show 2 ≤ sizeLine; decide, [.int i tk, u'], .cons ⟨_, rfl⟩ (.cons ru .nil), ⟨_, hT2, rfl, _, rfl⟩⟩
    have I1 : Inv X pins σ (upd H s.heap.objs.size (.tup [.int (i : Nat), x])) { s with heap := h'', toks := tk + 1 } :=
      I.turnedNew (ch := [e, it]) (fun b ob hb q => (sb.2 b (fun z => hb (by simp [z]))).trans (hk b ob (fun z => hb (by simp [z])) (fun z => hb (by simp [z])) q)) hf (Nat.le_refl _) new
    refine ⟨.ref s.heap.objs.size, _, I1, rfl, ⟨_, x, rfl, I.hok.fresh (Nat.le_refl _), rfl, fun ys hy => by rw [I.tuple_inj hy hq]; exact hx⟩, ⟨⟨u', ?_⟩, tupIter_at hst.1 fun o q => (sb.2 it (Ne.symm hne)).trans q, hne⟩, fun b hb => ?_⟩
    · rw [show ((i + 1 : Nat) : Int) = (i : Int) + 1 by omega]; exact he'
    · have hb' : b < s.heap.objs.size := by
        rcases (show b = e ∨ b = it by simpa using hb) with z | z
        · rw [z]; exact hel
        · rw [z]; exact hil
      rw [upd_ne (Nat.ne_of_lt hb')]
      exact (hf b hb).1
  done := by
    intro X hP hw hK hc i pins s σ H E I hf st hg
    subst hP hw hK
    obtain ⟨⟨old, he⟩, hit, hne⟩ := st
    obtain ⟨xs, hq, hx⟩ := hg
    obtain ⟨its, rv, p, hz⟩ := I.tuple hq
    obtain ⟨f0, f1, f2, f3, f4, f5⟩ := hf it (by simp)
    have hl := rv.length
    have hT : s.TypeIs (.ref e) "enumerate" := ⟨_, he, rfl⟩
    unfold pyNext
    refine wpAny_bind (wpAny_attempt (wpAny_callSpecial?_slot (name := Str.ofString "__next__") hT F.slot_enumerate_next (wpAny_call_entry F.slot_enumerate_next hT F.entry_enumerate_next ?_ (F.args_enumerate_next_1 _))))
    show wpAny _ _ (field (.ref e) 2 >>= _) _ _ _; refine wpAny_bind (wpAny_field he rfl (x := .ref it) rfl ?_)
    refine wpAny_bind (nx_tup_end (A := X.A.in1) (I.ok.hd hc) hit p (by simp; omega) fun h' x eb hx' => ?_)
    obtain ⟨o, ho, hc'⟩ := hx'
    refine wpAny_bind (wpAny_isInstance (T := "StopIteration") (b := true) ⟨o, ho, hc'⟩ isSubtype_stop ?_)
    exact wpAny_pure ⟨rfl, I.turned (t' := s.toks) (fun b o hb q => eb b o hb q) f0 f1 f3 f4 f5⟩
  self := fun A i s Q E st h => let ⟨⟨_, he⟩, _⟩ := st; wpAny_pyIter_enum he h
def iEnumT (K : PySem.W.Frag) (ta : TA) : TI := fun σ H R => ta σ H fun vs H1 => ∃ a xs, vs = [.ref a] ∧ SqT K H1 a xs ∧ R (IteT K a) H1
theorem pi_enumT {X : Cx} {e : Expr} {ta : TA} {p pos tpos : Pos} {elts : List Expr} {kk : Nat} (hg : Gl X "enumerate") (hm : X.mg "enumerate" = none) (ha : PA X [e] ta) (hs : starEach [e] X.env = [(false, eval e X.env)] := by rfl) :
    PI X (.Tuple elts kk tpos) (.Call (.Name "enumerate" p) [e] [] pos) (iEnumT X.K ta) := by
  intro pins s σ H R I h
  refine Call_ (ld_blt I hg hm boot_enumerate (PyProof.Rows.callWith_type1 (thn (ha pos pins s σ H _ I h) fun us s1 ⟨vs, H1, I1, r1, q1⟩ => ?_) hs rfl))
  obtain ⟨a, xs, ex, hq, q⟩ := q1
  subst ex
  cases r1 with
  | cons r rr =>
    cases rr
    cases r
    obtain ⟨its, rv, p', hz⟩ := I1.tuple hq
    refine call_enumT p' fun h' he hit hsz hk => wpAny_pyIter_enum he ?_
    have I2 : Inv X pins σ H1 { s1 with heap := h' } := I1.kept (t' := s1.toks) hk
    refine ⟨s1.heap.objs.size + 1, [s1.heap.objs.size + 1, s1.heap.objs.size], _, _, H1, rfl, I2, turn_enumT a (s1.heap.objs.size + 1) s1.heap.objs.size, ⟨⟨.none, he⟩, hit, Nat.succ_ne_self _⟩, fun b hb => ?_, q⟩
    have hle : s1.heap.objs.size ≤ b := by
      rcases (show b = s1.heap.objs.size + 1 ∨ b = s1.heap.objs.size by simpa using hb) with z | z
      · rw [z]; exact Nat.le_add_right _ _
      · rw [z]; exact Nat.le_refl _
    exact I1.fpOk hle (I1.hok.fresh hle)
theorem kEnumT {X : Cx} (K : PySem.W.Frag) {e : Expr} {ta : TA} {p pos tpos : Pos} {elts : List Expr} {kk : Nat} (hg : Gl X "enumerate") (hm : X.mg "enumerate" = none) (ha : PA X [e] ta) (hs : starEach [e] X.env = [(false, eval e X.env)] := by rfl) (ek : X.K = K := by rfl) :
    PI X (.Tuple elts kk tpos) (.Call (.Name "enumerate" p) [e] [] pos) (iEnumT K ta) := ek ▸ pi_enumT hg hm ha hs
end L2
set_option Elab.async false
set_option linter.all false
set_option maxRecDepth 100000
namespace L2
open PySem PySem.Spec PyProof.Rows
section
variable {prog : Program} {w : World} {A : Around} {E : Value → Shared → Prop} {s : Shared}
theorem zipT_item {z TI TO i1 i2 l1 l2 : Addr} {k1 k2 : Nat} {xs ys : Array Value} {x y a b : Value} {Q : Value → Shared → Prop} (D : ZipApart z TI TO i1 i2 l1 l2) (hz : IsZip s.heap z TI TO .none) (hTI : IsPair s.heap TI (.ref i1) (.ref i2)) (hTO : IsPair s.heap TO a b)
    (h1 : IsTupIter s.heap i1 l1 k1) (h2 : IsTupIter s.heap i2 l2 k2) (hl1 : IsTup s.heap l1 xs) (hl2 : IsTup s.heap l2 ys) (hx : xs[k1]? = some x) (hy : ys[k2]? = some y)
    (hQ : ∀ h', IsZip h' z TI TO (rawInt s.heap.objs.size) → IsPair h' TO x y → IsTupIter h' i1 l1 (k1 + 1) → IsTupIter h' i2 l2 (k2 + 1) → IsPair h' s.heap.objs.size x y → h'.objs.size = s.heap.objs.size + 1 →
      (∀ c o, c ≠ z → c ≠ TO → c ≠ i1 → c ≠ i2 → s.heap.get? c = some o → h'.get? c = some o) → Q (.ref s.heap.objs.size) { s with heap := h' }) :
    wpAny (model prog w) A (Builtin.«zip.__next__» ⟨[.ref z], []⟩) (fun fin s' => ∃ v, fin = .done (.ret v) ∧ Q v s') E s := by
  show wpAny _ _ (field (.ref z) 2 >>= _) _ _ _; refine wpAny_bind (wpAny_field hz rfl (x := .bool false) rfl ?_)
  show wpAny _ _ (field (.ref z) 3 >>= _) _ _ _; refine wpAny_bind (wpAny_field hz rfl (x := .ref TI) rfl ?_)
  refine wpAny_bind (wpAny_seqItems hTI rfl ?_); show wpAny _ _ (Builtin.SmallTypes.ownedTupleIsFree (.ref z) >>= _) _ _ _
  refine wpAny_bind ?_; unfold Builtin.SmallTypes.ownedTupleIsFree; refine wpAny_bind (wpAny_field hz rfl (x := .none) rfl (wpAny_pure ?_)); simp only [if_true]
  refine wpAny_bind (wpAny_rule ?_); refine wpAny_bind (wpAny_field hz rfl (x := .ref TO) rfl ?_)
  refine wpAny_bind (wpAny_setField_rec hz (by simp) fun g1 hz1 t1 => ?_); replace hz1 : IsZip g1 z TI TO .ellipsis := hz1
  refine wpAny_bind ?_; simp only [List.zipIdx_cons, List.zipIdx_nil, List.forIn_cons, List.forIn_nil]
  refine wpAny_bind (wpAny_bind (wpAny_onRaise ?_)); show wpAny _ _ (Builtin.SmallTypes.nextOf (.ref i1) >>= _) _ _ _
  refine wpAny_bind (nx_tup_item (h1.extBut t1.extBut D.i1z) (hl1.extBut t1.extBut D.l1z) hx fun g2 h12 t2 => wpAny_pure ?_)
  have o2 : IsPair g2 TO a b := t2.extBut _ _ D.TOi1 (t1.extBut _ _ D.TOz hTO)
  refine wpAny_bind (wpAny_seqItems o2 rfl ?_); refine wpAny_bind (wpAny_updateSeq_pair o2 fun g3 o3 t3 => ?_); replace o3 : IsPair g3 TO x b := o3
  refine wpAny_bind (wpAny_letGo (wpAny_pure ?_)); refine wpAny_bind (wpAny_bind (wpAny_onRaise ?_)); show wpAny _ _ (Builtin.SmallTypes.nextOf (.ref i2) >>= _) _ _ _
  refine wpAny_bind (nx_tup_item (((h2.extBut t1.extBut D.i2z).extBut t2.extBut D.i12.symm).extBut t3.extBut D.TOi2.symm) (((hl2.extBut t1.extBut D.l2z).extBut t2.extBut D.l2i1).extBut t3.extBut D.l2TO) hy fun g4 h24 t4 => wpAny_pure ?_)
  have o4 : IsPair g4 TO x b := t4.extBut _ _ D.TOi2 o3
  refine wpAny_bind (wpAny_seqItems o4 rfl ?_); refine wpAny_bind (wpAny_updateSeq_pair o4 fun g5 o5 t5 => ?_); replace o5 : IsPair g5 TO x y := o5
  refine wpAny_bind (wpAny_letGo (wpAny_pure (wpAny_pure ?_))); refine wpAny_bind (wpAny_seqItems o5 rfl ?_); refine wpAny_bind (wpAny_newTuple ?_)
  have sz : g5.objs.size = s.heap.objs.size := by rw [t5.1, t4.1, t3.1, t2.1, t1.1]
  have hz5 : IsZip g5 z TI TO .ellipsis := t5.extBut _ _ D.TOz.symm (t4.extBut _ _ D.i2z.symm (t3.extBut _ _ D.TOz.symm (t2.extBut _ _ D.i1z.symm hz1)))
  have k5 : ∀ c o, c ≠ z → c ≠ TO → c ≠ i1 → c ≠ i2 → s.heap.get? c = some o → g5.get? c = some o := fun c o c1 c2 c3 c4 e => t5.extBut _ _ c2 (t4.extBut _ _ c4 (t3.extBut _ _ c2 (t2.extBut _ _ c3 (t1.extBut _ _ c1 e))))
  have h15 : IsTupIter g5 i1 l1 (k1 + 1) := ((h12.extBut t3.extBut D.TOi1.symm).extBut t4.extBut D.i12).extBut t5.extBut D.TOi1.symm
  have h25 : IsTupIter g5 i2 l2 (k2 + 1) := h24.extBut t5.extBut D.TOi2.symm
  have zl : z < g5.objs.size := Heap.lt_size hz5
  show wpAny _ _ (Builtin.SmallTypes.ownedTupleHandOut (.ref z) (.ref g5.objs.size) >>= _) _ _ _; refine wpAny_bind ?_
  unfold Builtin.SmallTypes.ownedTupleHandOut
  have hz6 : IsZip (g5.push { cls := .type "tuple", data := .seq #[x, y] }) z TI TO .ellipsis := Heap.get?_push_of_some _ hz5
  refine wpAny_bind (wpAny_setField_rec hz6 (by simp) fun g7 hz7 t7 => ?_); replace hz7 : IsZip g7 z TI TO (rawInt g5.objs.size) := hz7
  refine wpAny_setField_rec hz7 (by simp) fun g8 hz8 t8 => ?_; replace hz8 : IsZip g8 z TI TO (rawInt g5.objs.size) := hz8
  have up : ∀ c o, c ≠ z → g5.get? c = some o → g8.get? c = some o := fun c o c1 e => t8.extBut _ _ c1 (t7.extBut _ _ c1 (Heap.get?_push_of_some _ e))
  have hT8 : IsPair g8 g5.objs.size x y := t8.extBut _ _ (Nat.ne_of_gt zl) (t7.extBut _ _ (Nat.ne_of_gt zl) (Heap.get?_push_size _ rfl))
  have z8 : g8.objs.size = g5.objs.size + 1 := by rw [t8.1, t7.1, Heap.size_push]
  rw [sz] at hz8 hT8 z8
  refine wpAny_pure ⟨_, rfl, ?_⟩
  show Q (.ref g5.objs.size) _
  rw [sz]
  exact hQ g8 hz8 (up _ _ D.TOz o5) (tupIter_at h15 fun o e => up _ o D.i1z e) (tupIter_at h25 fun o e => up _ o D.i2z e) hT8 z8 fun c o c1 c2 c3 c4 e => up c o c1 (k5 c o c1 c2 c3 c4 e)
theorem zipT_end {z TI TO i1 i2 l1 l2 : Addr} {k1 k2 : Nat} {xs ys : Array Value} {a b : Value} {Q : Fin → Shared → Prop} (hh : A.handled = none) (D : ZipApart z TI TO i1 i2 l1 l2) (hz : IsZip s.heap z TI TO .none) (hTI : IsPair s.heap TI (.ref i1) (.ref i2)) (hTO : IsPair s.heap TO a b)
    (h1 : IsTupIter s.heap i1 l1 k1) (h2 : IsTupIter s.heap i2 l2 k2) (hl1 : IsTup s.heap l1 xs) (hl2 : IsTup s.heap l2 ys) (hend : xs[k1]? = none ∨ ys[k2]? = none)
    (hE : ∀ h' e, (∀ c o, c ≠ z → c ≠ TO → c ≠ i1 → c ≠ i2 → s.heap.get? c = some o → h'.get? c = some o) → (∃ o, h'.get? e = some o ∧ o.cls = .type "StopIteration") → E (.ref e) { s with heap := h' }) :
    wpAny (model prog w) A (Builtin.«zip.__next__» ⟨[.ref z], []⟩) Q E s := by
  show wpAny _ _ (field (.ref z) 2 >>= _) _ _ _; refine wpAny_bind (wpAny_field hz rfl (x := .bool false) rfl ?_)
  show wpAny _ _ (field (.ref z) 3 >>= _) _ _ _; refine wpAny_bind (wpAny_field hz rfl (x := .ref TI) rfl ?_)
  refine wpAny_bind (wpAny_seqItems hTI rfl ?_); show wpAny _ _ (Builtin.SmallTypes.ownedTupleIsFree (.ref z) >>= _) _ _ _
  refine wpAny_bind ?_; unfold Builtin.SmallTypes.ownedTupleIsFree; refine wpAny_bind (wpAny_field hz rfl (x := .none) rfl (wpAny_pure ?_)); simp only [if_true]
  refine wpAny_bind (wpAny_rule ?_); refine wpAny_bind (wpAny_field hz rfl (x := .ref TO) rfl ?_)
  refine wpAny_bind (wpAny_setField_rec hz (by simp) fun g1 hz1 t1 => ?_); replace hz1 : IsZip g1 z TI TO .ellipsis := hz1
  refine wpAny_bind ?_; simp only [List.zipIdx_cons, List.zipIdx_nil, List.forIn_cons, List.forIn_nil]
  refine wpAny_bind (wpAny_bind (wpAny_onRaise ?_)); show wpAny _ _ (Builtin.SmallTypes.nextOf (.ref i1) >>= _) _ _ _
  cases hx : xs[k1]? with
  | none =>
    refine wpAny_bind (nx_tup_end hh (h1.extBut t1.extBut D.i1z) (hl1.extBut t1.extBut D.l1z) hx fun g2 e t2 he => ?_)
    obtain ⟨oe, hoe, hce⟩ := he
    have hz2 : IsZip g2 z TI TO .ellipsis := t2 _ _ D.i1z.symm hz1
    have hez : e ≠ z := fun x => by subst x; rw [hz2] at hoe; cases hoe; simp at hce
    refine wpAny_setField_rec hz2 (by simp) fun g3 _ t3 => hE g3 e (fun c o c1 _ c3 _ x => t3.extBut _ _ c1 (t2 _ _ c3 (t1.extBut _ _ c1 x))) ⟨oe, t3.extBut _ _ hez hoe, hce⟩
  | some x =>
    have hy : ys[k2]? = none := by rcases hend with h | h; rw [hx] at h; cases h; exact h
    refine wpAny_bind (nx_tup_item (h1.extBut t1.extBut D.i1z) (hl1.extBut t1.extBut D.l1z) hx fun g2 h12 t2 => wpAny_pure ?_)
    have o2 : IsPair g2 TO a b := t2.extBut _ _ D.TOi1 (t1.extBut _ _ D.TOz hTO)
    refine wpAny_bind (wpAny_seqItems o2 rfl ?_); refine wpAny_bind (wpAny_updateSeq_pair o2 fun g3 o3 t3 => ?_)
    refine wpAny_bind (wpAny_letGo (wpAny_pure ?_)); refine wpAny_bind (wpAny_bind (wpAny_onRaise ?_)); show wpAny _ _ (Builtin.SmallTypes.nextOf (.ref i2) >>= _) _ _ _
    refine wpAny_bind (nx_tup_end hh (((h2.extBut t1.extBut D.i2z).extBut t2.extBut D.i12.symm).extBut t3.extBut D.TOi2.symm) (((hl2.extBut t1.extBut D.l2z).extBut t2.extBut D.l2i1).extBut t3.extBut D.l2TO) hy fun g4 e t4 he => ?_)
    obtain ⟨oe, hoe, hce⟩ := he
    have hz4 : IsZip g4 z TI TO .ellipsis := t4 _ _ D.i2z.symm (t3.extBut _ _ D.TOz.symm (t2.extBut _ _ D.i1z.symm hz1))
    have hez : e ≠ z := fun x => by subst x; rw [hz4] at hoe; cases hoe; simp at hce
    refine wpAny_setField_rec hz4 (by simp) fun g5 _ t5 => hE g5 e (fun c o c1 c2 c3 c4 x => t5.extBut _ _ c1 (t4 _ _ c4 (t3.extBut _ _ c2 (t2.extBut _ _ c3 (t1.extBut _ _ c1 x))))) ⟨oe, t5.extBut _ _ hez hoe, hce⟩
end
abbrev zT1 (h : Heap) (l1 : Addr) : Heap := h.push { cls := .type "tuple_iterator", data := .fields #[.ref l1, .int 0 0] }
abbrev zT2 (h : Heap) (l1 l2 : Addr) : Heap := (zT1 h l1).push { cls := .type "tuple_iterator", data := .fields #[.ref l2, .int 0 0] }
abbrev zT3 (h : Heap) (l1 l2 : Addr) : Heap := (zT2 h l1 l2).push { cls := .type "tuple", data := .seq #[.ref h.objs.size, .ref (zT1 h l1).objs.size] }
abbrev zT4 (h : Heap) (l1 l2 : Addr) : Heap := (zT3 h l1 l2).push { cls := .type "tuple", data := .seq #[.none, .none] }
abbrev zT5 (h : Heap) (l1 l2 : Addr) : Heap := (zT4 h l1 l2).push { cls := .type "zip", data := .fields #[.none, .bool false, .bool false, .ref (zT2 h l1 l2).objs.size, .ref (zT3 h l1 l2).objs.size] }
theorem meets_zipT (l1 l2 : Addr) (xs ys : Array Value) : Meets (Builtin.«zip.__new__» ⟨[.type "zip", .ref l1, .ref l2], []⟩) (fun _ R s => IsTup s.heap l1 xs ∧ IsTup s.heap l2 ys ∧ R (.ok (.ret (.ref (zT4 s.heap l1 l2).objs.size))) { s with heap := zT5 s.heap l1 l2 }) :=
  .of_wp fun prog w A R s h => by
    obtain ⟨hp, g, d, tk, os⟩ := s; obtain ⟨hl1, hl2, h⟩ := h
    have hsub := sub_zip
    have hL1 : IsTup (Shared.heap ⟨hp, g, d, tk, os⟩) l1 xs := hl1
    have hL2 : IsTup (Shared.heap ⟨hp.push { cls := .type "tuple_iterator", data := .fields #[.ref l1, .int 0 0] }, g, d, tk, os⟩) l2 ys := IsTup.push hl2 _
    wp_walk using iter_tuple hL1, iter_tuple hL2
    exact ⟨_, rfl, h⟩
section
variable {prog : Program} {w : World} {A : Around} {E : Value → Shared → Prop} {s : Shared}
theorem call_zipT {l1 l2 : Addr} {xs ys : Array Value} {Q : Value → Shared → Prop} (hl1 : IsTup s.heap l1 xs) (hl2 : IsTup s.heap l2 ys)
    (h : ∀ h', IsZip h' (s.heap.objs.size + 4) (s.heap.objs.size + 2) (s.heap.objs.size + 3) .none → IsPair h' (s.heap.objs.size + 2) (.ref s.heap.objs.size) (.ref (s.heap.objs.size + 1)) →
      IsPair h' (s.heap.objs.size + 3) .none .none → IsTupIter h' s.heap.objs.size l1 0 → IsTupIter h' (s.heap.objs.size + 1) l2 0 → h'.objs.size = s.heap.objs.size + 5 →
      (∀ c o, s.heap.get? c = some o → h'.get? c = some o) → Q (.ref (s.heap.objs.size + 4)) { s with heap := h' }) :
    wpAny (model prog w) A (call (.type "zip") [.ref l1, .ref l2]) Q E s := by
  refine callType_new F.called_zip (by decide) (F.typeCall_zip_2 _ _) (F.newCall_zip_2 _ _) (fun obj => F.args_object_init_3 obj _ _) F.entry_zip_new (meets_zipT l1 l2 xs ys) ⟨hl1, hl2, ?_⟩
  have z1 : (zT1 s.heap l1).objs.size = s.heap.objs.size + 1 := Heap.size_push ..
  have z2 : (zT2 s.heap l1 l2).objs.size = s.heap.objs.size + 2 := by rw [Heap.size_push, z1]
  have z3 : (zT3 s.heap l1 l2).objs.size = s.heap.objs.size + 3 := by rw [Heap.size_push, z2]
  have z4 : (zT4 s.heap l1 l2).objs.size = s.heap.objs.size + 4 := by rw [Heap.size_push, z3]
  have z5 : (zT5 s.heap l1 l2).objs.size = s.heap.objs.size + 5 := by rw [Heap.size_push, z4]
  have g5 : (zT5 s.heap l1 l2).get? (zT4 s.heap l1 l2).objs.size = some _ := Heap.get?_push_size _ rfl
  have g4 : (zT5 s.heap l1 l2).get? (zT3 s.heap l1 l2).objs.size = some _ := Heap.get?_push_of_some _ (Heap.get?_push_size _ rfl)
  have g3 : (zT5 s.heap l1 l2).get? (zT2 s.heap l1 l2).objs.size = some _ := Heap.get?_push_of_some _ (Heap.get?_push_of_some _ (Heap.get?_push_size _ rfl))
  have g2 : (zT5 s.heap l1 l2).get? (zT1 s.heap l1).objs.size = some _ := Heap.get?_push_of_some _ (Heap.get?_push_of_some _ (Heap.get?_push_of_some _ (Heap.get?_push_size _ rfl)))
  have g1 : (zT5 s.heap l1 l2).get? s.heap.objs.size = some _ := Heap.get?_push_of_some _ (Heap.get?_push_of_some _ (Heap.get?_push_of_some _ (Heap.get?_push_of_some _ (Heap.get?_push_size _ rfl))))
  show _ ∧ _
  rw [z2, z3, z4] at g5; rw [z1, z2] at g3; rw [z3] at g4; rw [z1] at g2; rw [z4]
  exact ⟨⟨_, g5, rfl⟩, h _ g5 g3 g4 ⟨_, g1, rfl, rfl⟩ ⟨_, g2, rfl, rfl⟩ z5 fun c o x => Heap.get?_push_of_some _ (Heap.get?_push_of_some _ (Heap.get?_push_of_some _ (Heap.get?_push_of_some _ (Heap.get?_push_of_some _ x))))⟩
end
def ItzT (K : PySem.W.Frag) (a b : Addr) : It :=
  ⟨fun i H => ∃ (xs ys : List V) (x y : V), SqT K H a xs ∧ SqT K H b ys ∧ xs[i]? = some x ∧ ys[i]? = some y,
    fun i H v H' => ∃ T x y, v = .ref T ∧ H T = none ∧ H' = upd H T (.tup [x, y]) ∧ (∀ xs, SqT K H a xs → xs[i]? = some x) ∧ ∀ ys, SqT K H b ys → ys[i]? = some y,
    fun i H => ∃ xs ys : List V, SqT K H a xs ∧ SqT K H b ys ∧ (xs.length ≤ i ∨ ys.length ≤ i)⟩
theorem turn_zipT {P : Program} {w : World} {K : PySem.W.Frag} {elts : List Expr} {kk : Nat} {tpos : Pos} {a b z TI TO i1 i2 : Addr} (D : ZipApart z TI TO i1 i2 a b) :
    Turn P w K (.Tuple elts kk tpos) (ItzT K a b) [z, TI, TO, i1, i2] z (fun i h => IsZip h z TI TO .none ∧ IsPair h TI (.ref i1) (.ref i2) ∧ (∃ x y, IsPair h TO x y) ∧ IsTupIter h i1 a i ∧ IsTupIter h i2 b i) where
  mem := by simp
  obj := fun i h st c hc => by
    obtain ⟨hz, hTI, ⟨x, y, hTO⟩, ⟨o1, e1, _, d1⟩, ⟨o2, e2, _, d2⟩⟩ := st
    rcases (show c = z ∨ c = TI ∨ c = TO ∨ c = i1 ∨ c = i2 by simpa using hc) with q | q | q | q | q
    · rw [q]; exact ⟨_, hz, fun v q => nomatch q⟩
    · rw [q]; exact ⟨_, hTI, fun v q => nomatch q⟩
    · rw [q]; exact ⟨_, hTO, fun v q => nomatch q⟩
    · rw [q]; exact ⟨o1, e1, fun v q => by rw [d1] at q; cases q⟩
    · rw [q]; exact ⟨o2, e2, fun v q => by rw [d2] at q; cases q⟩
  keep := fun i h h' st k => by
    obtain ⟨hz, hTI, ⟨x, y, hTO⟩, h1, h2⟩ := st
    exact ⟨k z (by simp) _ hz, k TI (by simp) _ hTI, ⟨x, y, k TO (by simp) _ hTO⟩, tupIter_at h1 fun o q => k i1 (by simp) o q, tupIter_at h2 fun o q => k i2 (by simp) o q⟩
  item := by
    intro X hP hw hK hc i pins s σ H E I hf st hg
    subst hP hw hK
    obtain ⟨hz, hTI, ⟨x0, y0, hTO⟩, h1, h2⟩ := st
    obtain ⟨xs, ys, x, y, hqx, hqy, hx, hy⟩ := hg
    obtain ⟨its, rv, p, _⟩ := I.tuple hqx
    obtain ⟨its2, rv2, p2, _⟩ := I.tuple hqy
    obtain ⟨u, hu, ru⟩ := rv.get hx
    obtain ⟨u2, hu2, ru2⟩ := rv2.get hy
    have hzl : z < s.heap.objs.size := Heap.lt_size hz
    have hTy : s.TypeIs (.ref z) "zip" := ⟨_, hz, rfl⟩
    unfold pyNext
    refine wpAny_bind (wpAny_attempt (wpAny_callSpecial?_slot (name := Str.ofString "__next__") hTy F.slot_zip_next (wpAny_call_entry F.slot_zip_next hTy F.entry_zip_next
      (zipT_item D hz hTI hTO h1 h2 p p2 (x := u) (y := u2) (by simpa using hu) (by simpa using hu2) fun h' z' TO' h1' h2' hT hsz hk => wpAny_pure ?_) (F.args_zip_next_1 _))))
    refine ⟨_, rfl, wpAny_letOwnedTupleGo_zip (s := { s with heap := h' }) z' fun h'' z'' sb => ?_⟩
    have hT2 : h''.get? s.heap.objs.size = some { cls := .type "tuple", data := .seq #[u, u2] } := (sb.2 _ (Nat.ne_of_gt hzl)).trans hT
    have new : ObjOk X.prog X.w (upd H s.heap.objs.size (.tup [x, y])) h'' s.heap.objs.size (.tup [x, y]) := ⟨by show 2 ≤ sizeLine; decide, [u, u2], .cons ru (.cons ru2 .nil), ⟨_, hT2, rfl, _, rfl⟩⟩
    have I1 : Inv X pins σ (upd H s.heap.objs.size (.tup [x, y])) { s with heap := h'' } :=
      I.turnedNew (t' := s.toks) (ch := [z, TI, TO, i1, i2]) (fun c o hb q => (sb.2 c (fun q' => hb (by simp [q']))).trans (hk c o (fun q' => hb (by simp [q'])) (fun q' => hb (by simp [q'])) (fun q' => hb (by simp [q'])) (fun q' => hb (by simp [q'])) q)) hf (Nat.le_refl _) new
    refine ⟨.ref s.heap.objs.size, _, I1, rfl, ⟨_, x, y, rfl, I.hok.fresh (Nat.le_refl _), rfl, fun l hl => by rw [I.tuple_inj hl hqx]; exact hx, fun l hl => by rw [I.tuple_inj hl hqy]; exact hy⟩, ⟨z'', ?_, ⟨u, u2, ?_⟩, ?_, ?_⟩, fun c hcm => ?_⟩
    · exact (sb.2 _ D.TIz).trans (hk _ _ D.TIz D.TITO D.TIi1 D.TIi2 hTI)
    · exact (sb.2 _ D.TOz).trans TO'
    · exact tupIter_at h1' fun o q => (sb.2 _ D.i1z).trans q
    · exact tupIter_at h2' fun o q => (sb.2 _ D.i2z).trans q
    · have hlt : c < s.heap.objs.size := by
        rcases (show c = z ∨ c = TI ∨ c = TO ∨ c = i1 ∨ c = i2 by simpa using hcm) with q | q | q | q | q
        · rw [q]; exact hzl
        · rw [q]; exact Heap.lt_size hTI
        · rw [q]; exact Heap.lt_size hTO
        · rw [q]; obtain ⟨_, e1, _⟩ := h1; exact Heap.lt_size e1
        · rw [q]; obtain ⟨_, e2, _⟩ := h2; exact Heap.lt_size e2
      rw [upd_ne (Nat.ne_of_lt hlt)]
      exact (hf c hcm).1
  done := by
    intro X hP hw hK hc i pins s σ H E I hf st hg
    subst hP hw hK
    obtain ⟨hz, hTI, ⟨x0, y0, hTO⟩, h1, h2⟩ := st
    obtain ⟨xs, ys, hqx, hqy, hend⟩ := hg
    obtain ⟨its, rv, p, _⟩ := I.tuple hqx
    obtain ⟨its2, rv2, p2, _⟩ := I.tuple hqy
    have l1 := rv.length
    have l2 := rv2.length
    have he : its.toArray[i]? = none ∨ its2.toArray[i]? = none := by
      rcases hend with q | q
      · exact .inl (by simp; omega)
      · exact .inr (by simp; omega)
    have hTy : s.TypeIs (.ref z) "zip" := ⟨_, hz, rfl⟩
    unfold pyNext
    refine wpAny_bind (wpAny_attempt (wpAny_callSpecial?_slot (name := Str.ofString "__next__") hTy F.slot_zip_next (wpAny_call_entry F.slot_zip_next hTy F.entry_zip_next (zipT_end (I.ok.hd hc) D hz hTI hTO h1 h2 p p2 he fun h' e hk he' => ?_) (F.args_zip_next_1 _))))
    obtain ⟨o, ho, hc'⟩ := he'
    refine wpAny_bind (wpAny_isInstance (T := "StopIteration") (b := true) ⟨o, ho, hc'⟩ isSubtype_stop ?_)
    exact wpAny_pure ⟨rfl, I.turnedL (t' := s.toks) (ch := [z, TI, TO, i1, i2]) (fun c o hb q => hk c o (fun q' => hb (by simp [q'])) (fun q' => hb (by simp [q'])) (fun q' => hb (by simp [q'])) (fun q' => hb (by simp [q'])) q) hf⟩
  self := fun A i s Q E st h => wpAny_pyIter_zip st.1 h
def iZipT (K : PySem.W.Frag) (ta : TA) : TI := fun σ H R => ta σ H fun vs H1 => ∃ a b xs ys, vs = [.ref a, .ref b] ∧ SqT K H1 a xs ∧ SqT K H1 b ys ∧ R (ItzT K a b) H1
theorem pi_zipT {X : Cx} {e e2 : Expr} {ta : TA} {p pos tpos : Pos} {elts : List Expr} {kk : Nat} (hg : Gl X "zip") (hm : X.mg "zip" = none) (ha : PA X [e, e2] ta)
    (hs : starEach [e, e2] X.env = (false, eval e X.env) :: starEach [e2] X.env := by rfl) (hpl : (backTo pos (starEach [e2] X.env)).any (·.1) = false := by rfl) :
    PI X (.Tuple elts kk tpos) (.Call (.Name "zip" p) [e, e2] [] pos) (iZipT X.K ta) := by
  intro pins s σ H R I h
  refine Call_ (ld_blt I hg hm boot_zip5 (PyProof.Rows.callWith_type1 (thn (ha pos pins s σ H _ I h) fun us s1 ⟨vs, H1, I1, r1, q1⟩ => ?_) hs hpl))
  obtain ⟨a, b, xs, ys, ex, hqx, hqy, q⟩ := q1
  subst ex
  cases r1 with
  | cons r rr =>
    cases rr with
    | cons r' rr =>
      cases rr
      cases r
      cases r'
      obtain ⟨its, rv, p1, _⟩ := I1.tuple hqx
      obtain ⟨its2, rv2, p2, _⟩ := I1.tuple hqy
      refine call_zipT p1 p2 fun h' hz hTI hTO h1 h2 hsz hk => wpAny_pyIter_zip hz ?_
      have I2 : Inv X pins σ H1 { s1 with heap := h' } := I1.kept (t' := s1.toks) hk
      refine ⟨s1.heap.objs.size + 4, [s1.heap.objs.size + 4, s1.heap.objs.size + 2, s1.heap.objs.size + 3, s1.heap.objs.size, s1.heap.objs.size + 1], _, _, H1, rfl, I2, turn_zipT (PySem.W.ktu_apart s1.heap.objs.size a b p1.lt p2.lt), ⟨hz, hTI, ⟨_, _, hTO⟩, h1, h2⟩, fun c hcm => ?_, q⟩
      have hle : s1.heap.objs.size ≤ c := by
        rcases (show c = s1.heap.objs.size + 4 ∨ c = s1.heap.objs.size + 2 ∨ c = s1.heap.objs.size + 3 ∨ c = s1.heap.objs.size ∨ c = s1.heap.objs.size + 1 by simpa using hcm) with z | z | z | z | z <;> (rw [z]; omega)
      exact I1.fpOk hle (I1.hok.fresh hle)
theorem kZipT {X : Cx} (K : PySem.W.Frag) {e e2 : Expr} {ta : TA} {p pos tpos : Pos} {elts : List Expr} {kk : Nat} (hg : Gl X "zip") (hm : X.mg "zip" = none) (ha : PA X [e, e2] ta)
    (hs : starEach [e, e2] X.env = (false, eval e X.env) :: starEach [e2] X.env := by rfl) (hpl : (backTo pos (starEach [e2] X.env)).any (·.1) = false := by rfl) (ek : X.K = K := by rfl) :
    PI X (.Tuple elts kk tpos) (.Call (.Name "zip" p) [e, e2] [] pos) (iZipT K ta) := ek ▸ pi_zipT hg hm ha hs hpl
def dictIn (K : PySem.W.Frag) (a : Addr) (x : Str) : Option (Option Value) := match K.lookup a with
  | some o => (match o.data with
    | .dict es _ => if (o.cls == .type "dict" && o.dict.isNone && o.slots.isEmpty && !(a == sysModules) && es.toList.all fun e => isExactStrKey e.key) = true then some ((es.toList.find? fun e => e.key.isStr x).map (·.val)) else none
    | _ => none)
  | none => none
theorem dictIn_spec {K : PySem.W.Frag} {a : Addr} {x : Str} {r : Option Value} (h : dictIn K a x = some r) : (a == sysModules) = false ∧ ∃ o es ep, K.lookup a = some o ∧ o.ExactDict ∧ o.data = .dict es ep ∧ (es.toList.all fun e => isExactStrKey e.key) = true ∧ r = (es.toList.find? fun e => e.key.isStr x).map (·.val) := by
  unfold dictIn at h
  split at h
  · rename_i o ho
    split at h
    · rename_i es ep hd
      split at h
      · rename_i hc
        simp only [Bool.and_eq_true] at hc
        obtain ⟨⟨⟨⟨c1, c2⟩, c3⟩, c4⟩, c5⟩ := hc
        exact ⟨by simpa using c4, o, es, ep, ho, ⟨beq_iff_eq.mp c1, by simpa using c2, by simpa using c3⟩, hd, c5, (Option.some.inj h).symm⟩
      · cases h
    · cases h
  · cases h
section
variable {prog : Program} {w : World} {A : Around} {E : Value → Shared → Prop} {s : Shared} {K : PySem.W.Frag} {a : Addr} {k : Str} {tk : Tok} {r : Option Value}
theorem dk_typeIs (X : K.In s.heap) (h : dictIn K a k = some r) : s.TypeIs (.ref a) "dict" := by
  obtain ⟨_, o, es, ep, ho, hc, _⟩ := dictIn_spec h
  exact ⟨o, X _ _ ho, hc.1⟩
theorem dk_get {Q : Option Value → Shared → Prop} (X : K.In s.heap) (h : dictIn K a k = some r) (hQ : Q r { s with toks := s.toks + 1 }) : wpAny (model prog w) A (dictGet a (.str k tk)) Q E s := by
  obtain ⟨_, o, es, ep, ho, hc, hd, hall, hr⟩ := dictIn_spec h
  have g := X _ _ ho
  unfold dictGet
  try with_reducible refine wpAny_holding ?_
  refine wpAny_bind (wpAny_pyHash_str (wpAny_bind (KTD.kt_dictFind_strs (s := { s with toks := s.toks + 1 }) g hd (by obtain ⟨l⟩ := es; simpa using hall) ?_)))
  have hf : findBy (fun k v => v.isStr k) es k = r := by
    rw [hr]
    obtain ⟨l⟩ := es
    simp [findBy]
  rw [findBy_of_findIdx?] at hf
  cases hi : es.findIdx? fun e => e.key.isStr k with
  | none => rw [hi] at hf; exact wpAny_pure (by subst hf; exact hQ)
  | some i => rw [hi] at hf; exact wpAny_bind (wpAny_dictEntries (s := { s with toks := s.toks + 1 }) g hd (wpAny_pure (by subst hf; exact hQ)))
theorem dk_item {u : Value} {Q : Value → Shared → Prop} (X : K.In s.heap) (h : dictIn K a k = some (some u)) (hQ : Q u { s with toks := s.toks + 1 }) : wpAny (model prog w) A (getItem (.ref a) (.str k tk)) Q E s := by
  have hT := dk_typeIs X h
  unfold getItem
  try with_reducible refine wpAny_holding ?_
  refine wpAny_bind (wpAny_sequenceKey hT (by decide) ?_)
  refine wpAny_bind (wpAny_callSpecial?_slot (name := Str.ofString "__getitem__") hT slot_dict_getitem (wpAny_call_entry slot_dict_getitem hT entry_dict_getitem ?_ (args_dict_getitem _ _)))
  show wpAny _ _ (dictGet a (.str k tk) >>= _) _ _ s
  exact wpAny_bind (dk_get X h (wpAny_pure ⟨u, rfl, wpAny_pure hQ⟩))
theorem dk_in {Q : Value → Shared → Prop} (X : K.In s.heap) (h : dictIn K a k = some r) (hQ : Q (.bool r.isSome) { s with toks := s.toks + 1 }) : wpAny (model prog w) A (compareOp .In (.str k tk) (.ref a)) Q E s := by
  have hT := dk_typeIs X h
  show wpAny _ _ (do return .bool (← contains (.ref a) (.str k tk))) Q E s
  refine wpAny_bind ?_
  unfold contains
  try with_reducible refine wpAny_holding ?_
  refine wpAny_bind (wpAny_specialOf hT slot_dict_contains.lookup ?_)
  show wpAny _ _ (if (some (Value.builtin "dict.__contains__") == some Value.none) = true then _ else _) _ E s; rw [if_neg (by rw [beq_builtin_none]; exact Bool.false_ne_true)]
  refine wpAny_bind (wpAny_callSpecialUnlessNone?_slot (name := Str.ofString "__contains__") hT slot_dict_contains (wpAny_call_entry slot_dict_contains hT entry_dict_contains ?_ (args_dict_contains _ _)))
  show wpAny _ _ (dictGet a (.str k tk) >>= _) _ _ s
  refine wpAny_bind (dk_get X h ?_)
  cases r with
  | some u =>
    show wpAny _ _ (ret (.bool true)) _ _ _
    exact wpAny_pure ⟨_, rfl, wpAny_truthy_bool (wpAny_pure hQ)⟩
  | none =>
    show wpAny _ _ (Builtin.Dict.pendingKey? a (.str k tk) >>= _) _ _ _
    exact wpAny_bind (wpAny_pendingKey_other (dictIn_spec h).1 (wpAny_pure ⟨_, rfl, wpAny_truthy_bool (wpAny_pure hQ)⟩))
end
def tDGetK (K : PySem.W.Frag) (td ty : TE) : TE := fun σ H Q => td σ H fun x H1 => ty σ H1 fun y H2 => ∃ a k u v, x = .ref a ∧ y = .str k ∧ dictIn K a k = some (some u) ∧ RelV v u ∧ Q v H2
def tDInK (K : PySem.W.Frag) (ty td : TE) : TE := fun σ H Q => ty σ H fun y H1 => td σ H1 fun x H2 => ∃ a k r, x = .ref a ∧ y = .str k ∧ dictIn K a k = some r ∧ Q (.bl r.isSome) H2
section
variable {X : Cx} {o i e : Expr} {pos : Pos} {td ty : TE}
theorem pe_dgetK (K : PySem.W.Frag) (ho : PE X o td) (hi : PE X i ty) (hs : NoSl i) (ek : X.K = K := by rfl) : PE X (.Subscript o i pos) (tDGetK K td ty) := by
  subst ek
  intro pins s σ H Q I h
  refine subD_of PySem.F.slot_dict_getitem.lookup hs (thn (ho pins s σ H _ I h) fun u s1 ⟨x, H1, I1, rx, q1⟩ => thn (hi pins s1 σ H1 _ I1 q1) fun iv s2 ⟨y, H2, I2, ry, a, k, w', v, ex, ey, g, rv, q2⟩ => ?_)
  subst ex ey
  obtain rfl : u = Value.ref a := rx
  obtain ⟨t, rfl⟩ := (show ∃ t, iv = Value.str k t from ry)
  exact ⟨dk_typeIs I2.kIn g, dk_item I2.kIn g ⟨v, H2, I2.tok _, rv, q2⟩⟩
theorem pc_dinK (K : PySem.W.Frag) (hi : PE X i ty) (ho : PE X o td) (ek : X.K = K := by rfl) : PC X .In i o (tDInK K ty td) := by
  subst ek
  intro pins s σ H Q I h
  refine thn (hi pins s σ H _ I h) fun iv s1 ⟨y, H1, I1, ry, q1⟩ => thn (ho pins s1 σ H1 _ I1 q1) fun u s2 ⟨x, H2, I2, rx, a, k, r, ex, ey, g, q2⟩ => ?_
  subst ex ey
  obtain rfl : u = Value.ref a := rx
  obtain ⟨t, rfl⟩ := (show ∃ t, iv = Value.str k t from ry)
  exact dk_in I2.kIn g ⟨.bl r.isSome, H2, I2.tok _, rfl, q2⟩
end
def strsIn (K : PySem.W.Frag) (a : Addr) (ss : List Str) : Bool := match K.lookup a with
  | some o => (match o.data with
    | .seq its _ => o.cls == .type "tuple" && decide (its.size ≤ 1000) && KTD.strsLook its.toList ss
    | _ => false)
  | none => false
theorem strsLook_vals : ∀ {us : List Value} {ss : List Str}, KTD.strsLook us ss = true → Vals (ss.map V.str) us
  | us, ss, h => by
    have q := KTD.strs_of_look h
    clear h
    induction q with
    | nil => exact .nil
    | cons _ _ _ ih => exact .cons ⟨_, rfl⟩ ih
theorem strsIn_sq {K : PySem.W.Frag} {a : Addr} {ss : List Str} (h : strsIn K a ss = true) (H : Hp) : SqT K H a (ss.map V.str) := by
  unfold strsIn at h
  split at h
  · rename_i o ho
    split at h
    · rename_i its n hd
      simp only [Bool.and_eq_true, decide_eq_true_eq] at h
      obtain ⟨⟨c1, c2⟩, c3⟩ := h
      exact .inr ⟨o, its, n, ho, beq_iff_eq.mp c1, hd, Nat.le_trans c2 (by decide), strsLook_vals c3⟩
    · cases h
  · cases h
def tCallL (P : Program) (w : World) (K : PySem.W.Frag) (mg : Str → Option Value) (base : Heap) (k i : Nat) (t : TA) : TE := fun σ H Q => ∃ f fd ps sp, σ[i]? = some (some (.ref f)) ∧ FnOk P w K mg base CX0 k f fd ps sp ∧ PySem.W.keepIn K (.ref f) = true ∧ Binds K fd ps [] ∧ t σ H fun vs H1 => sp vs H1 Q E0
theorem pe_callL {X : Cx} (P : Program) (w : World) (K : PySem.W.Frag) (mg : Str → Option Value) (base : Heap) (k : Nat) {i : Nat} {x : Str} {p pos : Pos} {e : Expr} {es : List Expr} {t : TA} (hv : PE X (.Name x p) (tVar i)) (hr : Room k X.A) (ha : PA X (e :: es) t)
    (he : starEach (e :: es) X.env = (false, eval e X.env) :: starEach es X.env := by rfl) (hpl : (backTo pos (starEach es X.env)).any (·.1) = false := by rfl) (e1 : X.prog = P := by rfl) (e2 : X.w = w := by rfl) (e3 : X.K = K := by rfl) (e4 : X.mg = mg := by rfl) (e5 : X.base = base := by rfl) :
    PE X (.Call (.Name x p) (e :: es) [] pos) (tCallL P w K mg base k i t) := by
  subst e1 e2 e3 e4 e5
  rintro pins s σ H Q I ⟨f, fd, ps, sp, hσ, F, hk, hb, h⟩
  refine wpAny_Call_Name_kw (thn (hv pins s σ H (fun v H' => v = .ref f ∧ H' = H) I ⟨_, hσ, rfl, rfl⟩) fun u s1 ⟨v, H1, I1, rv, ev, eh⟩ => ?_)
  subst ev eh
  obtain rfl : u = Value.ref f := rv
  refine PySem.W.callWith_K (h₀ := X.base) I.ok.mod.kin hk (thn (ha pos pins s1 σ H1 _ I1 h) fun us s2 ⟨vs, H2, I2, r, q⟩ => ⟨I2.kIn, ?_⟩) he hpl
  exact run_fn F hr hb .nil pass0 I2 r (by rw [List.append_nil]; exact q)
def MkC (P : Program) (w : World) (K : PySem.W.Frag) (mg : Str → Option Value) (base : Heap) (k : Nat) (x : Str) (C : Addr) (ps : List Str) (sp : Sp) : Prop :=
  ∃ f fd, Mk K C f ∧ FnOk P w K mg base CX0 k f fd ps sp ∧ mg x = some (.ref C) ∧ Binds K fd ps []
def MtC (P : Program) (w : World) (K : PySem.W.Frag) (mg : Str → Option Value) (base : Heap) (k : Nat) (C : Addr) (m : Str) (ps : List Str) (sp : Sp) : Prop :=
  ∃ f fd, Cls K C ∧ Meth K C m f ∧ FnOk P w K mg base CX0 k f fd ps sp ∧ Binds K fd ps []
theorem MtC.mono {P : Program} {w : World} {K : PySem.W.Frag} {mg : Str → Option Value} {base : Heap} {j k : Nat} {C : Addr} {m : Str} {ps : List Str} {sp : Sp} (c : MtC P w K mg base j C m ps sp) (h : j ≤ k) : MtC P w K mg base k C m ps sp := by
  obtain ⟨f, fd, a, b, F, r⟩ := c
  exact ⟨f, fd, a, b, F.mono h, r⟩
def tMakeC (C : Addr) (sp : Sp) (t : TA) : TE := fun σ H Q => t σ H fun vs H1 => ∀ x dx, H1 x = none → H1 dx = none → dx ≠ x → sp (.ref x :: vs) (upd (upd H1 dx (.own x)) x (.ins C dx [])) (fun v H2 => v = .non ∧ Q (.ref x) H2) E0
def tMethC (C : Addr) (m : Str) (sp : Sp) (ta : TE) (t : TA) : TE := fun σ H Q => ta σ H fun x H1 => ∃ a dx fs, x = .ref a ∧ H1 a = some (.ins C dx fs) ∧ fs.lookup m = none ∧ t σ H1 fun vs H2 => sp (x :: vs) H2 Q E0
section
variable {X : Cx} {k : Nat} {C : Addr} {ps : List Str} {sp : Sp} {x m : Str} {p pos apos : Pos} {e o : Expr} {es : List Expr} {ta : TE} {t : TA}
theorem pe_makeC (c : MkC X.prog X.w X.K X.mg X.base k x C ps sp) (hr : Room (k + 1) X.A) (hg : Gl X x) (ha : PA X (e :: es) t) (hdb : (x == ("__debug__" : Str)) = false := by decide)
    (he : starEach (e :: es) X.env = (false, eval e X.env) :: starEach es X.env := by rfl) (hpl : (backTo pos (starEach es X.env)).any (·.1) = false := by rfl) : PE X (.Call (.Name x p) (e :: es) [] pos) (tMakeC C sp t) := by
  obtain ⟨f, fd, M, F, hm, hb⟩ := c
  intro pins s σ H Q I h
  refine pe_make (p := p) (dvs := []) M F hr hg hm hb .nil pass0 ha hdb he hpl pins s σ H Q I ?_
  unfold tMake
  simp only [List.append_nil]
  exact h
theorem pe_methC {pl : Sem Bool} (he : PE X o ta) (c : MtC X.prog X.w X.K X.mg X.base k C m ps sp) (hr : Room k X.A) (ha : PA X (e :: es) t)
    (hst : starEach (e :: es) X.env = (false, eval e X.env) :: starEach es X.env := by rfl) (hpl : (backTo pos (starEach es X.env)).any (·.1) = false := by rfl)
    (ht : eval (.Call (.Attribute o m apos) (e :: es) [] pos) X.env = (do
      let ov ← eval o X.env
      standAt apos.atName
      let (f, first) ← holding [ov] (getMethod ov m pl)
      callWith pos f first (backTo pos (starEach (e :: es) X.env)) (backToKw pos (keywordEach [] X.env))) := by rfl) :
    PE X (.Call (.Attribute o m apos) (e :: es) [] pos) (tMethC C m sp ta t) := by
  obtain ⟨f, fd, cl, hm, F, hb⟩ := c
  intro pins s σ H Q I h
  refine pe_meth (dvs := []) he cl hm F hr hb .nil pass0 ha hst hpl ht pins s σ H Q I ?_
  unfold tMeth
  simp only [List.append_nil]
  exact h
end
def qFld (K : PySem.W.Frag) (f : Str) (x : V) (H1 : Hp) (Q : VK) : Prop := ∃ a C dx fs v, x = .ref a ∧ H1 a = some (.ins C dx fs) ∧ Cls K C ∧ NoAttr K C f ∧ fs.lookup f = some v ∧ Q v H1
def qSFld (K : PySem.W.Frag) (f : Str) (y x : V) (H2 : Hp) (Q : Hp → Prop) : Prop := ∃ a C dx fs, x = .ref a ∧ H2 a = some (.ins C dx fs) ∧ Cls K C ∧ NoAttr K C f ∧ fs.length < 1000 ∧ Q (upd H2 a (.ins C dx (putF f y fs)))
def qMeth (C : Addr) (m : Str) (x : V) (H1 : Hp) (Q : Prop) : Prop := ∃ a dx fs, x = .ref a ∧ H1 a = some (.ins C dx fs) ∧ fs.lookup m = none ∧ Q
section
variable {σ : St} {H : Hp} {Q : VK} {K : PySem.W.Frag} {ta tv te : TE} {t : TA} {f m : Str} {nx bk ct : St → Hp → Prop} {rt : VK} {C a : Addr} {sp : Sp} {R : It → Hp → Prop}
theorem go_fld (h : ta σ H fun x H1 => qFld K f x H1 Q) : tFld K ta f σ H Q := h
theorem go_qfld {fs : List (Str × V)} {dx : Addr} {v : V} (e : H a = some (.ins C dx fs)) (c : Cls K C) (n : NoAttr K C f) (l : fs.lookup f = some v) (q : Q v H) : qFld K f (.ref a) H Q := ⟨a, C, dx, fs, v, rfl, e, c, n, l, q⟩
theorem go_sfld (h : tv σ H fun y H1 => ta σ H1 fun x H2 => qSFld K f y x H2 (nx σ)) : sFld K ta tv f ⟨nx, rt, bk, ct⟩ σ H := h
theorem go_qsfld {fs : List (Str × V)} {dx : Addr} {y : V} {QH : Hp → Prop} (e : H a = some (.ins C dx fs)) (c : Cls K C) (n : NoAttr K C f) (l : fs.length < 1000) (q : QH (upd H a (.ins C dx (putF f y fs)))) : qSFld K f y (.ref a) H QH := ⟨a, C, dx, fs, rfl, e, c, n, l, q⟩
theorem go_makeC (h : t σ H fun vs H1 => ∀ x dx, H1 x = none → H1 dx = none → dx ≠ x → sp (.ref x :: vs) (upd (upd H1 dx (.own x)) x (.ins C dx [])) (fun v H2 => v = .non ∧ Q (.ref x) H2) E0) : tMakeC C sp t σ H Q := h
theorem go_methC (h : ta σ H fun x H1 => qMeth C m x H1 (t σ H1 fun vs H2 => sp (x :: vs) H2 Q E0)) : tMethC C m sp ta t σ H Q := h
theorem go_qmeth {fs : List (Str × V)} {dx : Addr} {QP : Prop} (e : H a = some (.ins C dx fs)) (l : fs.lookup m = none) (q : QP) : qMeth C m (.ref a) H QP := ⟨a, dx, fs, rfl, e, l, q⟩
def qDGK (K : PySem.W.Frag) (x y : V) (H2 : Hp) (Q : VK) : Prop := ∃ a k u v, x = .ref a ∧ y = .str k ∧ dictIn K a k = some (some u) ∧ RelV v u ∧ Q v H2
def qDIK (K : PySem.W.Frag) (y x : V) (H2 : Hp) (Q : VK) : Prop := ∃ a k r, x = .ref a ∧ y = .str k ∧ dictIn K a k = some r ∧ Q (.bl r.isSome) H2
theorem go_dgetK (h : ta σ H fun x H1 => te σ H1 fun y H2 => qDGK K x y H2 Q) : tDGetK K ta te σ H Q := h
theorem go_dinK (h : te σ H fun y H1 => ta σ H1 fun x H2 => qDIK K y x H2 Q) : tDInK K te ta σ H Q := h
theorem go_qdgK {k : Str} {u : Value} {v : V} (e : dictIn K a k = some (some u)) (r : RelV v u) (q : Q v H) : qDGK K (.ref a) (.str k) H Q := ⟨a, k, u, v, rfl, rfl, e, r, q⟩
theorem go_qdiK {k : Str} {r : Option Value} (e : dictIn K a k = some r) (q : Q (.bl r.isSome) H) : qDIK K (.str k) (.ref a) H Q := ⟨a, k, r, rfl, rfl, e, q⟩
def qEnumT (K : PySem.W.Frag) (vs : List V) (H1 : Hp) (R : It → Hp → Prop) : Prop := ∃ a xs, vs = [.ref a] ∧ SqT K H1 a xs ∧ R (IteT K a) H1
def qZipT (K : PySem.W.Frag) (vs : List V) (H1 : Hp) (R : It → Hp → Prop) : Prop := ∃ a b xs ys, vs = [.ref a, .ref b] ∧ SqT K H1 a xs ∧ SqT K H1 b ys ∧ R (ItzT K a b) H1
theorem go_enumT (h : t σ H fun vs H1 => qEnumT K vs H1 R) : iEnumT K t σ H R := h
theorem go_qenumT {xs : List V} (h : H a = some (.tup xs)) (q : R (IteT K a) H) : qEnumT K [.ref a] H R := ⟨a, xs, rfl, SqT.of h, q⟩
theorem go_zipT (h : t σ H fun vs H1 => qZipT K vs H1 R) : iZipT K t σ H R := h
theorem go_qzipT {b : Addr} {xs ys : List V} (h : SqT K H a xs) (h' : SqT K H b ys) (q : R (ItzT K a b) H) : qZipT K [.ref a, .ref b] H R := ⟨a, b, xs, ys, rfl, h, h', q⟩
end
end L2
set_option Elab.async false
set_option linter.all false
set_option maxRecDepth 100000
namespace L2
open PySem PySem.Spec PyProof.Rows
section
variable {σ : St} {H : Hp} {Q : VK} {K : PySem.W.Frag} {nx bk ct : St → Hp → Prop} {rt : VK} {p b : Addr} {g : TG} {tb : TS}
theorem fq_enumT (xs : List V) (Pv : Nat → St → Hp → Prop) (h0 : Pv 0 σ H) (hl : ∀ (i : Nat) (σ : St) (H : Hp), i ≤ xs.length → Pv i σ H → SqT K H p xs)
    (hs : ∀ (i : Nat) (x : V) (σ : St) (H : Hp) (t : Addr), xs[i]? = some x → H t = none → Pv i σ H → g (.ref t) σ (upd H t (.tup [.int (i : Nat), x])) fun σ2 H2 => tb ⟨Pv (i + 1), rt, nx, Pv (i + 1)⟩ σ2 H2) (hd : ∀ σ H, Pv xs.length σ H → nx σ H) :
    forQ (IteT K p) g tb ⟨nx, rt, bk, ct⟩ σ H := by
  refine ⟨fun i m σ H => m = xs.length - i ∧ i ≤ xs.length ∧ Pv i σ H, ⟨_, rfl, Nat.zero_le _, h0⟩, ?_⟩
  rintro i m σ H ⟨rfl, hi, q⟩
  have sq := hl i σ H hi q
  by_cases lt : i < xs.length
  · refine .inr ⟨⟨xs, xs[i], sq, List.getElem?_eq_getElem lt⟩, Pv (i + 1), fun σ' H' q' => ⟨xs.length - (i + 1), by omega, rfl, lt, q'⟩, fun x H' y => ?_⟩
    obtain ⟨t, x', rfl, ht, rfl, hx⟩ := y
    exact hs i x' σ H t (hx xs sq) ht q
  · have e : i = xs.length := by omega
    subst e
    exact .inl ⟨⟨xs, sq, Nat.le_refl _⟩, hd σ H q⟩
theorem fq_zipT (xs ys : List V) (hlen : xs.length = ys.length) (Pv : Nat → St → Hp → Prop) (h0 : Pv 0 σ H) (hl : ∀ (i : Nat) (σ : St) (H : Hp), i ≤ xs.length → Pv i σ H → SqT K H p xs ∧ SqT K H b ys)
    (hs : ∀ (i : Nat) (x y : V) (σ : St) (H : Hp) (t : Addr), xs[i]? = some x → ys[i]? = some y → H t = none → Pv i σ H → g (.ref t) σ (upd H t (.tup [x, y])) fun σ2 H2 => tb ⟨Pv (i + 1), rt, nx, Pv (i + 1)⟩ σ2 H2) (hd : ∀ σ H, Pv xs.length σ H → nx σ H) :
    forQ (ItzT K p b) g tb ⟨nx, rt, bk, ct⟩ σ H := by
  refine ⟨fun i m σ H => m = xs.length - i ∧ i ≤ xs.length ∧ Pv i σ H, ⟨_, rfl, Nat.zero_le _, h0⟩, ?_⟩
  rintro i m σ H ⟨rfl, hi, q⟩
  obtain ⟨sq, sq'⟩ := hl i σ H hi q
  by_cases lt : i < xs.length
  · refine .inr ⟨⟨xs, ys, xs[i], ys[i], sq, sq', List.getElem?_eq_getElem lt, List.getElem?_eq_getElem (by omega)⟩, Pv (i + 1), fun σ' H' q' => ⟨xs.length - (i + 1), by omega, rfl, lt, q'⟩, fun x H' y => ?_⟩
    obtain ⟨t, x', y', rfl, ht, rfl, hx, hy⟩ := y
    exact hs i x' y' σ H t (hx xs sq) (hy ys sq') ht q
  · have e : i = xs.length := by omega
    subst e
    exact .inl ⟨⟨xs, ys, sq, sq', .inl (Nat.le_refl _)⟩, hd σ H q⟩
theorem go_lenTs {ys : List V} (h : SqT K H p ys) (q : Q (.int ys.length) H) : rLen K [.ref p] H Q := ⟨p, ys, rfl, .inr h, q⟩
def qFA (K : PySem.W.Frag) (tv : TE) (rd : V → V → Hp → VK → Prop) (f : Str) (σ : St) (nx : St → Hp → Prop) (x : V) (H1 : Hp) : Prop := ∃ a C dx fs v, x = .ref a ∧ H1 a = some (.ins C dx fs) ∧ Cls K C ∧ NoAttr K C f ∧ fs.lookup f = some v ∧
  tv σ H1 fun y H2 => rd v y H2 fun z H3 => ∃ dx' fs', H3 a = some (.ins C dx' fs') ∧ fs'.length < 1000 ∧ nx σ (upd H3 a (.ins C dx' (putF f z fs')))
def qFB (C a : Addr) (f : Str) (z : V) (H3 : Hp) (R : Hp → Prop) : Prop := ∃ dx' fs', H3 a = some (.ins C dx' fs') ∧ fs'.length < 1000 ∧ R (upd H3 a (.ins C dx' (putF f z fs')))
theorem go_sfa {ta tv : TE} {rd : V → V → Hp → VK → Prop} {f : Str} (h : ta σ H fun x H1 => qFA K tv rd f σ nx x H1) : sFldAug K ta tv rd f ⟨nx, rt, bk, ct⟩ σ H := h
theorem go_qfa {tv : TE} {rd : V → V → Hp → VK → Prop} {f : Str} {a C dx : Addr} {fs : List (Str × V)} {v : V} (e : H a = some (.ins C dx fs)) (c : Cls K C) (n : NoAttr K C f) (l : fs.lookup f = some v) (h : tv σ H fun y H2 => rd v y H2 fun z H3 => qFB C a f z H3 (nx σ)) : qFA K tv rd f σ nx (.ref a) H := ⟨a, C, dx, fs, v, rfl, e, c, n, l, h⟩
theorem go_qfb {C a dx : Addr} {f : Str} {z : V} {fs : List (Str × V)} {R : Hp → Prop} (e : H a = some (.ins C dx fs)) (l : fs.length < 1000) (q : R (upd H a (.ins C dx (putF f z fs)))) : qFB C a f z H R := ⟨dx, fs, e, l, q⟩
theorem go_radd {i j : Int} (q : Q (.int (i + j)) H) : rAdd (.int i) (.int j) H Q := ⟨i, j, rfl, rfl, q⟩
end
section
variable {X : Cx} (K : PySem.W.Frag) {o e value : Expr} {f : Str} {pos pos' tpos : Pos} {ta tv : TE}
theorem kFld (he : PE X e ta) (hb : attributeBase e f X.env (eval e X.env) = eval e X.env) (ek : X.K = K := by rfl) : PE X (.Attribute e f pos) (tFld K ta f) := ek ▸ pe_fld he hb
theorem kSFld (ha : PE X o ta) (hv : PE X value tv) (hs : swapsWith value (some (.Attribute o f pos')) pos.line X.env = pure false) (ek : X.K = K := by rfl) : PS X (.Assign [.Attribute o f pos'] value pos) (sFld K ta tv f) := ek ▸ ps_fld ha hv hs
theorem kFldAug {op : Operator} {rd : V → V → Hp → VK → Prop} (ha : PE X o ta) (hv : PE X value tv) (hop : InOp X op rd) (ek : X.K = K := by rfl) : PS X (.AugAssign (.Attribute o f tpos) op value pos) (sFldAug K ta tv rd f) := ek ▸ ps_fldaug ha hv hop
end
theorem pe_gref {X : Cx} {x : Str} {a : Addr} {pos : Pos} (hg : Gl X x) (hm : X.mg x = some (.ref a)) (hd : (x == ("__debug__" : Str)) = false := by decide) : PE X (.Name x pos) (tC (.ref a)) := pe_glob (v := .ref a) hg hm rfl hd
def tTru (K : PySem.W.Frag) (ta : TE) : TT := fun σ H Q => ta σ H fun x H' => ∃ k, TruV K x H' k ∧ Q k H'
def qTru (K : PySem.W.Frag) (x : V) (H' : Hp) (Q : Bool → Hp → Prop) : Prop := ∃ k, TruV K x H' k ∧ Q k H'
section
variable {σ : St} {H : Hp} {K : PySem.W.Frag} {ta : TE} {QB : Bool → Hp → Prop} {p : Addr} {Q : VK}
theorem go_tru (h : ta σ H fun x H1 => qTru K x H1 QB) : tTru K ta σ H QB := h
end
def zF (ks : List Str) (vs : List V) : List (Str × V) := ks.zip vs
theorem zF_cons (k : Str) (v : V) (ks : List Str) (vs : List V) : zF (k :: ks) (v :: vs) = (k, v) :: zF ks vs := rfl
theorem zF_get {k : Str} {v : V} : ∀ {ks : List Str} {vs : List V} {i : Nat}, ks.Nodup → ks[i]? = some k → vs[i]? = some v → (zF ks vs).lookup k = some v
  | [], _, _, _, h, _ => by simp at h
  | _ :: _, [], _, _, _, h => by simp at h
  | k' :: ks, v' :: vs, 0, _, h, h' => by
    simp at h h'; subst h h'
    rw [zF_cons, List.lookup_cons, beq_self_eq_true]
  | k' :: ks, v' :: vs, i + 1, nd, h, h' => by
    simp at h h'
    have hm : k ∈ ks := List.mem_of_getElem? h
    have hne : (k == k') = false := by
      rw [beq_eq_false_iff_ne]
      intro e
      exact (List.nodup_cons.mp nd).1 (e ▸ hm)
    rw [zF_cons, List.lookup_cons, hne]
    exact zF_get (List.nodup_cons.mp nd).2 h h'
theorem zF_no {k : Str} : ∀ {ks : List Str} {vs : List V}, k ∉ ks → (zF ks vs).lookup k = none
  | [], _, _ => rfl
  | _ :: _, [], _ => rfl
  | k' :: ks, v :: vs, h => by
    have hne : (k == k') = false := by
      rw [beq_eq_false_iff_ne]
      intro e
      exact h (e ▸ List.mem_cons_self ..)
    rw [zF_cons, List.lookup_cons, hne]
    exact zF_no fun m => h (List.mem_cons_of_mem _ m)
theorem putF_ne {k k' : Str} {v x : V} {r : List (Str × V)} (h : ¬ k' = k) : putF k x ((k', v) :: r) = (k', v) :: putF k x r := by
  show (if k' = k then _ else _) = _
  rw [if_neg h]
theorem putF_eq {k : Str} {v x : V} {r : List (Str × V)} : putF k x ((k, v) :: r) = (k, x) :: r := by
  show (if k = k then _ else _) = _
  rw [if_pos rfl]
theorem zF_put {k : Str} {x : V} : ∀ {ks : List Str} {vs : List V} {i : Nat}, ks.Nodup → ks[i]? = some k → i < vs.length → putF k x (zF ks vs) = zF ks (vs.set i x)
  | [], _, _, _, h, _ => by simp at h
  | _ :: _, [], _, _, _, h => by simp at h
  | k' :: ks, v' :: vs, 0, nd, h, _ => by
    simp at h; subst h
    rw [zF_cons, putF_eq]; rfl
  | k' :: ks, v' :: vs, i + 1, nd, h, hl => by
    simp at h
    have hm : k ∈ ks := List.mem_of_getElem? h
    rw [zF_cons, putF_ne (by intro e; exact (List.nodup_cons.mp nd).1 (e ▸ hm)), zF_put (List.nodup_cons.mp nd).2 h (by simpa using hl)]
    rfl
theorem zF_app {k : Str} {x : V} : ∀ {ks : List Str} {vs : List V}, k ∉ ks → ks.length = vs.length → putF k x (zF ks vs) = zF (ks ++ [k]) (vs ++ [x])
  | [], [], _, _ => rfl
  | [], _ :: _, _, h => by simp at h
  | _ :: _, [], _, h => by simp at h
  | k' :: ks, v' :: vs, h, hl => by
    rw [zF_cons, putF_ne (by intro e; exact h (e ▸ List.mem_cons_self ..)), zF_app (fun m => h (List.mem_cons_of_mem _ m)) (by simpa using hl)]
    rfl
structure ClsN (K : PySem.W.Frag) (C : Addr) (ks : List Str) : Prop where
  c : Cls K C
  n : ∀ k ∈ ks, NoAttr K C k
section
variable {H : Hp} {Q : VK} {K : PySem.W.Frag} {a C dx : Addr} {ks : List Str} {vs : List V} {k : Str} {v y : V} {nx : St → Hp → Prop} {σ : St}
theorem zf_get {i : Nat} (O : ClsN K C ks) (nd : ks.Nodup) (hk : ks[i]? = some k) (hv : vs[i]? = some v) (e : H a = some (.ins C dx (zF ks vs))) (q : Q v H) : qFld K k (.ref a) H Q := go_qfld e O.c (O.n k (List.mem_of_getElem? hk)) (zF_get nd hk hv) q
theorem zf_put {QH : Hp → Prop} {i : Nat} (O : ClsN K C ks) (nd : ks.Nodup) (hk : ks[i]? = some k) (hl : vs.length ≤ 100) (hi : i < vs.length) (e : H a = some (.ins C dx (zF ks vs))) (q : QH (upd H a (.ins C dx (zF ks (vs.set i y))))) : qSFld K k y (.ref a) H QH := by
  refine go_qsfld e O.c (O.n k (List.mem_of_getElem? hk)) ?_ ?_
  · unfold zF; rw [List.length_zip]; omega
  · rw [zF_put nd hk hi]; exact q
theorem zf_new {QH : Hp → Prop} (O : ClsN K C ks) {js : List Str} (hk : k ∈ ks) (hn : k ∉ js) (hl : js.length = vs.length) (h100 : vs.length ≤ 100) (e : H a = some (.ins C dx (zF js vs))) (q : QH (upd H a (.ins C dx (zF (js ++ [k]) (vs ++ [y]))))) : qSFld K k y (.ref a) H QH := by
  refine go_qsfld e O.c (O.n k hk) ?_ ?_
  · unfold zF; rw [List.length_zip]; omega
  · rw [zF_app hn hl]; exact q
theorem zf_aug {tv : TE} {rd : V → V → Hp → VK → Prop} {i : Nat} (O : ClsN K C ks) (nd : ks.Nodup) (hk : ks[i]? = some k) (hv : vs[i]? = some v) (e : H a = some (.ins C dx (zF ks vs))) (h : tv σ H fun y H2 => rd v y H2 fun z H3 => qFB C a k z H3 (nx σ)) : qFA K tv rd k σ nx (.ref a) H := go_qfa e O.c (O.n k (List.mem_of_getElem? hk)) (zF_get nd hk hv) h
theorem zf_augb {R : Hp → Prop} {i : Nat} (nd : ks.Nodup) (hk : ks[i]? = some k) (hl : vs.length ≤ 100) (hi : i < vs.length) (e : H a = some (.ins C dx (zF ks vs))) (q : R (upd H a (.ins C dx (zF ks (vs.set i y))))) : qFB C a k y H R := by
  refine go_qfb e ?_ ?_
  · unfold zF; rw [List.length_zip]; omega
  · rw [zF_put nd hk hi]; exact q
end
end L2
set_option Elab.async false
set_option linter.all false
set_option maxRecDepth 100000
namespace Lw
open PySem L2
def iK : List Str := ["row", "names", "taken", "done", "letters"]
theorem iNd : iK.Nodup := by decide +kernel
def iF (v0 v1 v2 v3 v4 : V) : List (Str × V) := zF iK [v0, v1, v2, v3, v4]
section
variable {H : Hp} {Q : VK} {QH R : Hp → Prop} {K : PySem.W.Frag} {a C dx : Addr} {v0 v1 v2 v3 v4 y : V} {nx : St → Hp → Prop} {σ : St} {tv : TE} {rd : V → V → Hp → VK → Prop}
theorem ig_row (O : ClsN K C iK) (e : H a = some (.ins C dx (iF v0 v1 v2 v3 v4))) (q : Q v0 H) : qFld K "row" (.ref a) H Q := zf_get (i := 0) O iNd rfl rfl e q
theorem is_row (O : ClsN K C iK) (e : H a = some (.ins C dx (iF v0 v1 v2 v3 v4))) (q : QH (upd H a (.ins C dx (iF y v1 v2 v3 v4)))) : qSFld K "row" y (.ref a) H QH := zf_put (i := 0) O iNd rfl (by simp) (by simp) e q
theorem ia_row (O : ClsN K C iK) (e : H a = some (.ins C dx (iF v0 v1 v2 v3 v4))) (h : tv σ H fun y H2 => rd v0 y H2 fun z H3 => qFB C a "row" z H3 (nx σ)) : qFA K tv rd "row" σ nx (.ref a) H := zf_aug (i := 0) O iNd rfl rfl e h
theorem ib_row (e : H a = some (.ins C dx (iF v0 v1 v2 v3 v4))) (q : R (upd H a (.ins C dx (iF y v1 v2 v3 v4)))) : qFB C a "row" y H R := zf_augb (i := 0) iNd rfl (by simp) (by simp) e q
theorem in_row (O : ClsN K C iK) (e : H a = some (.ins C dx ([]))) (q : QH (upd H a (.ins C dx (zF ["row"] [y])))) : qSFld K "row" y (.ref a) H QH := zf_new (js := []) (vs := []) O (by decide +kernel) (by decide +kernel) rfl (by simp) e q
theorem ig_names (O : ClsN K C iK) (e : H a = some (.ins C dx (iF v0 v1 v2 v3 v4))) (q : Q v1 H) : qFld K "names" (.ref a) H Q := zf_get (i := 1) O iNd rfl rfl e q
theorem is_names (O : ClsN K C iK) (e : H a = some (.ins C dx (iF v0 v1 v2 v3 v4))) (q : QH (upd H a (.ins C dx (iF v0 y v2 v3 v4)))) : qSFld K "names" y (.ref a) H QH := zf_put (i := 1) O iNd rfl (by simp) (by simp) e q
theorem ia_names (O : ClsN K C iK) (e : H a = some (.ins C dx (iF v0 v1 v2 v3 v4))) (h : tv σ H fun y H2 => rd v1 y H2 fun z H3 => qFB C a "names" z H3 (nx σ)) : qFA K tv rd "names" σ nx (.ref a) H := zf_aug (i := 1) O iNd rfl rfl e h
theorem ib_names (e : H a = some (.ins C dx (iF v0 v1 v2 v3 v4))) (q : R (upd H a (.ins C dx (iF v0 y v2 v3 v4)))) : qFB C a "names" y H R := zf_augb (i := 1) iNd rfl (by simp) (by simp) e q
theorem in_names (O : ClsN K C iK) (e : H a = some (.ins C dx (zF ["row"] [v0]))) (q : QH (upd H a (.ins C dx (zF ["row", "names"] [v0, y])))) : qSFld K "names" y (.ref a) H QH := zf_new (js := ["row"]) (vs := [v0]) O (by decide +kernel) (by decide +kernel) rfl (by simp) e q
theorem ig_taken (O : ClsN K C iK) (e : H a = some (.ins C dx (iF v0 v1 v2 v3 v4))) (q : Q v2 H) : qFld K "taken" (.ref a) H Q := zf_get (i := 2) O iNd rfl rfl e q
theorem is_taken (O : ClsN K C iK) (e : H a = some (.ins C dx (iF v0 v1 v2 v3 v4))) (q : QH (upd H a (.ins C dx (iF v0 v1 y v3 v4)))) : qSFld K "taken" y (.ref a) H QH := zf_put (i := 2) O iNd rfl (by simp) (by simp) e q
theorem ia_taken (O : ClsN K C iK) (e : H a = some (.ins C dx (iF v0 v1 v2 v3 v4))) (h : tv σ H fun y H2 => rd v2 y H2 fun z H3 => qFB C a "taken" z H3 (nx σ)) : qFA K tv rd "taken" σ nx (.ref a) H := zf_aug (i := 2) O iNd rfl rfl e h
theorem ib_taken (e : H a = some (.ins C dx (iF v0 v1 v2 v3 v4))) (q : R (upd H a (.ins C dx (iF v0 v1 y v3 v4)))) : qFB C a "taken" y H R := zf_augb (i := 2) iNd rfl (by simp) (by simp) e q
theorem in_taken (O : ClsN K C iK) (e : H a = some (.ins C dx (zF ["row", "names"] [v0, v1]))) (q : QH (upd H a (.ins C dx (zF ["row", "names", "taken"] [v0, v1, y])))) : qSFld K "taken" y (.ref a) H QH := zf_new (js := ["row", "names"]) (vs := [v0, v1]) O (by decide +kernel) (by decide +kernel) rfl (by simp) e q
theorem ig_done (O : ClsN K C iK) (e : H a = some (.ins C dx (iF v0 v1 v2 v3 v4))) (q : Q v3 H) : qFld K "done" (.ref a) H Q := zf_get (i := 3) O iNd rfl rfl e q
theorem is_done (O : ClsN K C iK) (e : H a = some (.ins C dx (iF v0 v1 v2 v3 v4))) (q : QH (upd H a (.ins C dx (iF v0 v1 v2 y v4)))) : qSFld K "done" y (.ref a) H QH := zf_put (i := 3) O iNd rfl (by simp) (by simp) e q
theorem ia_done (O : ClsN K C iK) (e : H a = some (.ins C dx (iF v0 v1 v2 v3 v4))) (h : tv σ H fun y H2 => rd v3 y H2 fun z H3 => qFB C a "done" z H3 (nx σ)) : qFA K tv rd "done" σ nx (.ref a) H := zf_aug (i := 3) O iNd rfl rfl e h
theorem ib_done (e : H a = some (.ins C dx (iF v0 v1 v2 v3 v4))) (q : R (upd H a (.ins C dx (iF v0 v1 v2 y v4)))) : qFB C a "done" y H R := zf_augb (i := 3) iNd rfl (by simp) (by simp) e q
theorem in_done (O : ClsN K C iK) (e : H a = some (.ins C dx (zF ["row", "names", "taken"] [v0, v1, v2]))) (q : QH (upd H a (.ins C dx (zF ["row", "names", "taken", "done"] [v0, v1, v2, y])))) : qSFld K "done" y (.ref a) H QH := zf_new (js := ["row", "names", "taken"]) (vs := [v0, v1, v2]) O (by decide +kernel) (by decide +kernel) rfl (by simp) e q
theorem ig_letters (O : ClsN K C iK) (e : H a = some (.ins C dx (iF v0 v1 v2 v3 v4))) (q : Q v4 H) : qFld K "letters" (.ref a) H Q := zf_get (i := 4) O iNd rfl rfl e q
theorem is_letters (O : ClsN K C iK) (e : H a = some (.ins C dx (iF v0 v1 v2 v3 v4))) (q : QH (upd H a (.ins C dx (iF v0 v1 v2 v3 y)))) : qSFld K "letters" y (.ref a) H QH := zf_put (i := 4) O iNd rfl (by simp) (by simp) e q
theorem ia_letters (O : ClsN K C iK) (e : H a = some (.ins C dx (iF v0 v1 v2 v3 v4))) (h : tv σ H fun y H2 => rd v4 y H2 fun z H3 => qFB C a "letters" z H3 (nx σ)) : qFA K tv rd "letters" σ nx (.ref a) H := zf_aug (i := 4) O iNd rfl rfl e h
theorem ib_letters (e : H a = some (.ins C dx (iF v0 v1 v2 v3 v4))) (q : R (upd H a (.ins C dx (iF v0 v1 v2 v3 y)))) : qFB C a "letters" y H R := zf_augb (i := 4) iNd rfl (by simp) (by simp) e q
theorem in_letters (O : ClsN K C iK) (e : H a = some (.ins C dx (zF ["row", "names", "taken", "done"] [v0, v1, v2, v3]))) (q : QH (upd H a (.ins C dx (iF v0 v1 v2 v3 y)))) : qSFld K "letters" y (.ref a) H QH := zf_new (js := ["row", "names", "taken", "done"]) (vs := [v0, v1, v2, v3]) O (by decide +kernel) (by decide +kernel) rfl (by simp) e q
theorem im_follow (e : H a = some (.ins C dx (iF v0 v1 v2 v3 v4))) {QP : Prop} (q : QP) : qMeth C "follow" (.ref a) H QP := go_qmeth e (zF_no (by decide +kernel)) q
theorem im_twin (e : H a = some (.ins C dx (iF v0 v1 v2 v3 v4))) {QP : Prop} (q : QP) : qMeth C "twin" (.ref a) H QP := go_qmeth e (zF_no (by decide +kernel)) q
end
def cK : List Str := ["follows", "fault", "name", "worth", "takes", "file", "numbers", "letter"]
theorem cNd : cK.Nodup := by decide +kernel
def cF (v0 v1 v2 v3 v4 v5 v6 v7 : V) : List (Str × V) := zF cK [v0, v1, v2, v3, v4, v5, v6, v7]
section
variable {H : Hp} {Q : VK} {QH R : Hp → Prop} {K : PySem.W.Frag} {a C dx : Addr} {v0 v1 v2 v3 v4 v5 v6 v7 y : V} {nx : St → Hp → Prop} {σ : St} {tv : TE} {rd : V → V → Hp → VK → Prop}
theorem cg_follows (O : ClsN K C cK) (e : H a = some (.ins C dx (cF v0 v1 v2 v3 v4 v5 v6 v7))) (q : Q v0 H) : qFld K "follows" (.ref a) H Q := zf_get (i := 0) O cNd rfl rfl e q
theorem cs_follows (O : ClsN K C cK) (e : H a = some (.ins C dx (cF v0 v1 v2 v3 v4 v5 v6 v7))) (q : QH (upd H a (.ins C dx (cF y v1 v2 v3 v4 v5 v6 v7)))) : qSFld K "follows" y (.ref a) H QH := zf_put (i := 0) O cNd rfl (by simp) (by simp) e q
theorem ca_follows (O : ClsN K C cK) (e : H a = some (.ins C dx (cF v0 v1 v2 v3 v4 v5 v6 v7))) (h : tv σ H fun y H2 => rd v0 y H2 fun z H3 => qFB C a "follows" z H3 (nx σ)) : qFA K tv rd "follows" σ nx (.ref a) H := zf_aug (i := 0) O cNd rfl rfl e h
theorem cb_follows (e : H a = some (.ins C dx (cF v0 v1 v2 v3 v4 v5 v6 v7))) (q : R (upd H a (.ins C dx (cF y v1 v2 v3 v4 v5 v6 v7)))) : qFB C a "follows" y H R := zf_augb (i := 0) cNd rfl (by simp) (by simp) e q
theorem cn_follows (O : ClsN K C cK) (e : H a = some (.ins C dx ([]))) (q : QH (upd H a (.ins C dx (zF ["follows"] [y])))) : qSFld K "follows" y (.ref a) H QH := zf_new (js := []) (vs := []) O (by decide +kernel) (by decide +kernel) rfl (by simp) e q
theorem cg_fault (O : ClsN K C cK) (e : H a = some (.ins C dx (cF v0 v1 v2 v3 v4 v5 v6 v7))) (q : Q v1 H) : qFld K "fault" (.ref a) H Q := zf_get (i := 1) O cNd rfl rfl e q
theorem cs_fault (O : ClsN K C cK) (e : H a = some (.ins C dx (cF v0 v1 v2 v3 v4 v5 v6 v7))) (q : QH (upd H a (.ins C dx (cF v0 y v2 v3 v4 v5 v6 v7)))) : qSFld K "fault" y (.ref a) H QH := zf_put (i := 1) O cNd rfl (by simp) (by simp) e q
theorem ca_fault (O : ClsN K C cK) (e : H a = some (.ins C dx (cF v0 v1 v2 v3 v4 v5 v6 v7))) (h : tv σ H fun y H2 => rd v1 y H2 fun z H3 => qFB C a "fault" z H3 (nx σ)) : qFA K tv rd "fault" σ nx (.ref a) H := zf_aug (i := 1) O cNd rfl rfl e h
theorem cb_fault (e : H a = some (.ins C dx (cF v0 v1 v2 v3 v4 v5 v6 v7))) (q : R (upd H a (.ins C dx (cF v0 y v2 v3 v4 v5 v6 v7)))) : qFB C a "fault" y H R := zf_augb (i := 1) cNd rfl (by simp) (by simp) e q
theorem cn_fault (O : ClsN K C cK) (e : H a = some (.ins C dx (zF ["follows"] [v0]))) (q : QH (upd H a (.ins C dx (zF ["follows", "fault"] [v0, y])))) : qSFld K "fault" y (.ref a) H QH := zf_new (js := ["follows"]) (vs := [v0]) O (by decide +kernel) (by decide +kernel) rfl (by simp) e q
theorem cg_name (O : ClsN K C cK) (e : H a = some (.ins C dx (cF v0 v1 v2 v3 v4 v5 v6 v7))) (q : Q v2 H) : qFld K "name" (.ref a) H Q := zf_get (i := 2) O cNd rfl rfl e q
theorem cs_name (O : ClsN K C cK) (e : H a = some (.ins C dx (cF v0 v1 v2 v3 v4 v5 v6 v7))) (q : QH (upd H a (.ins C dx (cF v0 v1 y v3 v4 v5 v6 v7)))) : qSFld K "name" y (.ref a) H QH := zf_put (i := 2) O cNd rfl (by simp) (by simp) e q
theorem ca_name (O : ClsN K C cK) (e : H a = some (.ins C dx (cF v0 v1 v2 v3 v4 v5 v6 v7))) (h : tv σ H fun y H2 => rd v2 y H2 fun z H3 => qFB C a "name" z H3 (nx σ)) : qFA K tv rd "name" σ nx (.ref a) H := zf_aug (i := 2) O cNd rfl rfl e h
theorem cb_name (e : H a = some (.ins C dx (cF v0 v1 v2 v3 v4 v5 v6 v7))) (q : R (upd H a (.ins C dx (cF v0 v1 y v3 v4 v5 v6 v7)))) : qFB C a "name" y H R := zf_augb (i := 2) cNd rfl (by simp) (by simp) e q
theorem cn_name (O : ClsN K C cK) (e : H a = some (.ins C dx (zF ["follows", "fault"] [v0, v1]))) (q : QH (upd H a (.ins C dx (zF ["follows", "fault", "name"] [v0, v1, y])))) : qSFld K "name" y (.ref a) H QH := zf_new (js := ["follows", "fault"]) (vs := [v0, v1]) O (by decide +kernel) (by decide +kernel) rfl (by simp) e q
theorem cg_worth (O : ClsN K C cK) (e : H a = some (.ins C dx (cF v0 v1 v2 v3 v4 v5 v6 v7))) (q : Q v3 H) : qFld K "worth" (.ref a) H Q := zf_get (i := 3) O cNd rfl rfl e q
theorem cs_worth (O : ClsN K C cK) (e : H a = some (.ins C dx (cF v0 v1 v2 v3 v4 v5 v6 v7))) (q : QH (upd H a (.ins C dx (cF v0 v1 v2 y v4 v5 v6 v7)))) : qSFld K "worth" y (.ref a) H QH := zf_put (i := 3) O cNd rfl (by simp) (by simp) e q
theorem ca_worth (O : ClsN K C cK) (e : H a = some (.ins C dx (cF v0 v1 v2 v3 v4 v5 v6 v7))) (h : tv σ H fun y H2 => rd v3 y H2 fun z H3 => qFB C a "worth" z H3 (nx σ)) : qFA K tv rd "worth" σ nx (.ref a) H := zf_aug (i := 3) O cNd rfl rfl e h
theorem cb_worth (e : H a = some (.ins C dx (cF v0 v1 v2 v3 v4 v5 v6 v7))) (q : R (upd H a (.ins C dx (cF v0 v1 v2 y v4 v5 v6 v7)))) : qFB C a "worth" y H R := zf_augb (i := 3) cNd rfl (by simp) (by simp) e q
theorem cn_worth (O : ClsN K C cK) (e : H a = some (.ins C dx (zF ["follows", "fault", "name"] [v0, v1, v2]))) (q : QH (upd H a (.ins C dx (zF ["follows", "fault", "name", "worth"] [v0, v1, v2, y])))) : qSFld K "worth" y (.ref a) H QH := zf_new (js := ["follows", "fault", "name"]) (vs := [v0, v1, v2]) O (by decide +kernel) (by decide +kernel) rfl (by simp) e q
theorem cg_takes (O : ClsN K C cK) (e : H a = some (.ins C dx (cF v0 v1 v2 v3 v4 v5 v6 v7))) (q : Q v4 H) : qFld K "takes" (.ref a) H Q := zf_get (i := 4) O cNd rfl rfl e q
theorem cs_takes (O : ClsN K C cK) (e : H a = some (.ins C dx (cF v0 v1 v2 v3 v4 v5 v6 v7))) (q : QH (upd H a (.ins C dx (cF v0 v1 v2 v3 y v5 v6 v7)))) : qSFld K "takes" y (.ref a) H QH := zf_put (i := 4) O cNd rfl (by simp) (by simp) e q
theorem ca_takes (O : ClsN K C cK) (e : H a = some (.ins C dx (cF v0 v1 v2 v3 v4 v5 v6 v7))) (h : tv σ H fun y H2 => rd v4 y H2 fun z H3 => qFB C a "takes" z H3 (nx σ)) : qFA K tv rd "takes" σ nx (.ref a) H := zf_aug (i := 4) O cNd rfl rfl e h
theorem cb_takes (e : H a = some (.ins C dx (cF v0 v1 v2 v3 v4 v5 v6 v7))) (q : R (upd H a (.ins C dx (cF v0 v1 v2 v3 y v5 v6 v7)))) : qFB C a "takes" y H R := zf_augb (i := 4) cNd rfl (by simp) (by simp) e q
theorem cn_takes (O : ClsN K C cK) (e : H a = some (.ins C dx (zF ["follows", "fault", "name", "worth"] [v0, v1, v2, v3]))) (q : QH (upd H a (.ins C dx (zF ["follows", "fault", "name", "worth", "takes"] [v0, v1, v2, v3, y])))) : qSFld K "takes" y (.ref a) H QH := zf_new (js := ["follows", "fault", "name", "worth"]) (vs := [v0, v1, v2, v3]) O (by decide +kernel) (by decide +kernel) rfl (by simp) e q
theorem cg_file (O : ClsN K C cK) (e : H a = some (.ins C dx (cF v0 v1 v2 v3 v4 v5 v6 v7))) (q : Q v5 H) : qFld K "file" (.ref a) H Q := zf_get (i := 5) O cNd rfl rfl e q
theorem cs_file (O : ClsN K C cK) (e : H a = some (.ins C dx (cF v0 v1 v2 v3 v4 v5 v6 v7))) (q : QH (upd H a (.ins C dx (cF v0 v1 v2 v3 v4 y v6 v7)))) : qSFld K "file" y (.ref a) H QH := zf_put (i := 5) O cNd rfl (by simp) (by simp) e q
theorem ca_file (O : ClsN K C cK) (e : H a = some (.ins C dx (cF v0 v1 v2 v3 v4 v5 v6 v7))) (h : tv σ H fun y H2 => rd v5 y H2 fun z H3 => qFB C a "file" z H3 (nx σ)) : qFA K tv rd "file" σ nx (.ref a) H := zf_aug (i := 5) O cNd rfl rfl e h
theorem cb_file (e : H a = some (.ins C dx (cF v0 v1 v2 v3 v4 v5 v6 v7))) (q : R (upd H a (.ins C dx (cF v0 v1 v2 v3 v4 y v6 v7)))) : qFB C a "file" y H R := zf_augb (i := 5) cNd rfl (by simp) (by simp) e q
theorem cn_file (O : ClsN K C cK) (e : H a = some (.ins C dx (zF ["follows", "fault", "name", "worth", "takes"] [v0, v1, v2, v3, v4]))) (q : QH (upd H a (.ins C dx (zF ["follows", "fault", "name", "worth", "takes", "file"] [v0, v1, v2, v3, v4, y])))) : qSFld K "file" y (.ref a) H QH := zf_new (js := ["follows", "fault", "name", "worth", "takes"]) (vs := [v0, v1, v2, v3, v4]) O (by decide +kernel) (by decide +kernel) rfl (by simp) e q
theorem cg_numbers (O : ClsN K C cK) (e : H a = some (.ins C dx (cF v0 v1 v2 v3 v4 v5 v6 v7))) (q : Q v6 H) : qFld K "numbers" (.ref a) H Q := zf_get (i := 6) O cNd rfl rfl e q
theorem cs_numbers (O : ClsN K C cK) (e : H a = some (.ins C dx (cF v0 v1 v2 v3 v4 v5 v6 v7))) (q : QH (upd H a (.ins C dx (cF v0 v1 v2 v3 v4 v5 y v7)))) : qSFld K "numbers" y (.ref a) H QH := zf_put (i := 6) O cNd rfl (by simp) (by simp) e q
theorem ca_numbers (O : ClsN K C cK) (e : H a = some (.ins C dx (cF v0 v1 v2 v3 v4 v5 v6 v7))) (h : tv σ H fun y H2 => rd v6 y H2 fun z H3 => qFB C a "numbers" z H3 (nx σ)) : qFA K tv rd "numbers" σ nx (.ref a) H := zf_aug (i := 6) O cNd rfl rfl e h
theorem cb_numbers (e : H a = some (.ins C dx (cF v0 v1 v2 v3 v4 v5 v6 v7))) (q : R (upd H a (.ins C dx (cF v0 v1 v2 v3 v4 v5 y v7)))) : qFB C a "numbers" y H R := zf_augb (i := 6) cNd rfl (by simp) (by simp) e q
theorem cn_numbers (O : ClsN K C cK) (e : H a = some (.ins C dx (zF ["follows", "fault", "name", "worth", "takes", "file"] [v0, v1, v2, v3, v4, v5]))) (q : QH (upd H a (.ins C dx (zF ["follows", "fault", "name", "worth", "takes", "file", "numbers"] [v0, v1, v2, v3, v4, v5, y])))) : qSFld K "numbers" y (.ref a) H QH := zf_new (js := ["follows", "fault", "name", "worth", "takes", "file"]) (vs := [v0, v1, v2, v3, v4, v5]) O (by decide +kernel) (by decide +kernel) rfl (by simp) e q
theorem cg_letter (O : ClsN K C cK) (e : H a = some (.ins C dx (cF v0 v1 v2 v3 v4 v5 v6 v7))) (q : Q v7 H) : qFld K "letter" (.ref a) H Q := zf_get (i := 7) O cNd rfl rfl e q
theorem cs_letter (O : ClsN K C cK) (e : H a = some (.ins C dx (cF v0 v1 v2 v3 v4 v5 v6 v7))) (q : QH (upd H a (.ins C dx (cF v0 v1 v2 v3 v4 v5 v6 y)))) : qSFld K "letter" y (.ref a) H QH := zf_put (i := 7) O cNd rfl (by simp) (by simp) e q
theorem ca_letter (O : ClsN K C cK) (e : H a = some (.ins C dx (cF v0 v1 v2 v3 v4 v5 v6 v7))) (h : tv σ H fun y H2 => rd v7 y H2 fun z H3 => qFB C a "letter" z H3 (nx σ)) : qFA K tv rd "letter" σ nx (.ref a) H := zf_aug (i := 7) O cNd rfl rfl e h
theorem cb_letter (e : H a = some (.ins C dx (cF v0 v1 v2 v3 v4 v5 v6 v7))) (q : R (upd H a (.ins C dx (cF v0 v1 v2 v3 v4 v5 v6 y)))) : qFB C a "letter" y H R := zf_augb (i := 7) cNd rfl (by simp) (by simp) e q
theorem cn_letter (O : ClsN K C cK) (e : H a = some (.ins C dx (zF ["follows", "fault", "name", "worth", "takes", "file", "numbers"] [v0, v1, v2, v3, v4, v5, v6]))) (q : QH (upd H a (.ins C dx (cF v0 v1 v2 v3 v4 v5 v6 y)))) : qSFld K "letter" y (.ref a) H QH := zf_new (js := ["follows", "fault", "name", "worth", "takes", "file", "numbers"]) (vs := [v0, v1, v2, v3, v4, v5, v6]) O (by decide +kernel) (by decide +kernel) rfl (by simp) e q
theorem cm_hold (e : H a = some (.ins C dx (cF v0 v1 v2 v3 v4 v5 v6 v7))) {QP : Prop} (q : QP) : qMeth C "hold" (.ref a) H QP := go_qmeth e (zF_no (by decide +kernel)) q
theorem cm_fill (e : H a = some (.ins C dx (cF v0 v1 v2 v3 v4 v5 v6 v7))) {QP : Prop} (q : QP) : qMeth C "fill" (.ref a) H QP := go_qmeth e (zF_no (by decide +kernel)) q
end
def dK : List Str := ["row", "change", "was", "done"]
def dF (v0 v1 v2 v3 : V) : List (Str × V) := zF dK [v0, v1, v2, v3]
section
variable {H : Hp} {Q : VK} {QH R : Hp → Prop} {K : PySem.W.Frag} {a C dx : Addr} {v0 v1 v2 v3 y : V} {nx : St → Hp → Prop} {σ : St} {tv : TE} {rd : V → V → Hp → VK → Prop}
theorem dn_row (O : ClsN K C dK) (e : H a = some (.ins C dx ([]))) (q : QH (upd H a (.ins C dx (zF ["row"] [y])))) : qSFld K "row" y (.ref a) H QH := zf_new (js := []) (vs := []) O (by decide +kernel) (by decide +kernel) rfl (by simp) e q
theorem dn_change (O : ClsN K C dK) (e : H a = some (.ins C dx (zF ["row"] [v0]))) (q : QH (upd H a (.ins C dx (zF ["row", "change"] [v0, y])))) : qSFld K "change" y (.ref a) H QH := zf_new (js := ["row"]) (vs := [v0]) O (by decide +kernel) (by decide +kernel) rfl (by simp) e q
theorem dn_was (O : ClsN K C dK) (e : H a = some (.ins C dx (zF ["row", "change"] [v0, v1]))) (q : QH (upd H a (.ins C dx (zF ["row", "change", "was"] [v0, v1, y])))) : qSFld K "was" y (.ref a) H QH := zf_new (js := ["row", "change"]) (vs := [v0, v1]) O (by decide +kernel) (by decide +kernel) rfl (by simp) e q
theorem dn_done (O : ClsN K C dK) (e : H a = some (.ins C dx (zF ["row", "change", "was"] [v0, v1, v2]))) (q : QH (upd H a (.ins C dx (dF v0 v1 v2 y)))) : qSFld K "done" y (.ref a) H QH := zf_new (js := ["row", "change", "was"]) (vs := [v0, v1, v2]) O (by decide +kernel) (by decide +kernel) rfl (by simp) e q
end
def wK : List Str := ["rows", "handed", "way", "often", "disk", "out", "mark", "notes", "ending", "all_done", "inside", "ahead", "about", "letter_out"]
def wF (v0 v1 v2 v3 v4 v5 v6 v7 v8 v9 v10 v11 v12 v13 : V) : List (Str × V) := zF wK [v0, v1, v2, v3, v4, v5, v6, v7, v8, v9, v10, v11, v12, v13]
section
variable {H : Hp} {Q : VK} {QH R : Hp → Prop} {K : PySem.W.Frag} {a C dx : Addr} {v0 v1 v2 v3 v4 v5 v6 v7 v8 v9 v10 v11 v12 v13 y : V} {nx : St → Hp → Prop} {σ : St} {tv : TE} {rd : V → V → Hp → VK → Prop}
theorem wn_rows (O : ClsN K C wK) (e : H a = some (.ins C dx ([]))) (q : QH (upd H a (.ins C dx (zF ["rows"] [y])))) : qSFld K "rows" y (.ref a) H QH := zf_new (js := []) (vs := []) O (by decide +kernel) (by decide +kernel) rfl (by simp) e q
theorem wn_handed (O : ClsN K C wK) (e : H a = some (.ins C dx (zF ["rows"] [v0]))) (q : QH (upd H a (.ins C dx (zF ["rows", "handed"] [v0, y])))) : qSFld K "handed" y (.ref a) H QH := zf_new (js := ["rows"]) (vs := [v0]) O (by decide +kernel) (by decide +kernel) rfl (by simp) e q
theorem wn_way (O : ClsN K C wK) (e : H a = some (.ins C dx (zF ["rows", "handed"] [v0, v1]))) (q : QH (upd H a (.ins C dx (zF ["rows", "handed", "way"] [v0, v1, y])))) : qSFld K "way" y (.ref a) H QH := zf_new (js := ["rows", "handed"]) (vs := [v0, v1]) O (by decide +kernel) (by decide +kernel) rfl (by simp) e q
theorem wn_often (O : ClsN K C wK) (e : H a = some (.ins C dx (zF ["rows", "handed", "way"] [v0, v1, v2]))) (q : QH (upd H a (.ins C dx (zF ["rows", "handed", "way", "often"] [v0, v1, v2, y])))) : qSFld K "often" y (.ref a) H QH := zf_new (js := ["rows", "handed", "way"]) (vs := [v0, v1, v2]) O (by decide +kernel) (by decide +kernel) rfl (by simp) e q
theorem wn_disk (O : ClsN K C wK) (e : H a = some (.ins C dx (zF ["rows", "handed", "way", "often"] [v0, v1, v2, v3]))) (q : QH (upd H a (.ins C dx (zF ["rows", "handed", "way", "often", "disk"] [v0, v1, v2, v3, y])))) : qSFld K "disk" y (.ref a) H QH := zf_new (js := ["rows", "handed", "way", "often"]) (vs := [v0, v1, v2, v3]) O (by decide +kernel) (by decide +kernel) rfl (by simp) e q
theorem wn_out (O : ClsN K C wK) (e : H a = some (.ins C dx (zF ["rows", "handed", "way", "often", "disk"] [v0, v1, v2, v3, v4]))) (q : QH (upd H a (.ins C dx (zF ["rows", "handed", "way", "often", "disk", "out"] [v0, v1, v2, v3, v4, y])))) : qSFld K "out" y (.ref a) H QH := zf_new (js := ["rows", "handed", "way", "often", "disk"]) (vs := [v0, v1, v2, v3, v4]) O (by decide +kernel) (by decide +kernel) rfl (by simp) e q
theorem wn_mark (O : ClsN K C wK) (e : H a = some (.ins C dx (zF ["rows", "handed", "way", "often", "disk", "out"] [v0, v1, v2, v3, v4, v5]))) (q : QH (upd H a (.ins C dx (zF ["rows", "handed", "way", "often", "disk", "out", "mark"] [v0, v1, v2, v3, v4, v5, y])))) : qSFld K "mark" y (.ref a) H QH := zf_new (js := ["rows", "handed", "way", "often", "disk", "out"]) (vs := [v0, v1, v2, v3, v4, v5]) O (by decide +kernel) (by decide +kernel) rfl (by simp) e q
theorem wn_notes (O : ClsN K C wK) (e : H a = some (.ins C dx (zF ["rows", "handed", "way", "often", "disk", "out", "mark"] [v0, v1, v2, v3, v4, v5, v6]))) (q : QH (upd H a (.ins C dx (zF ["rows", "handed", "way", "often", "disk", "out", "mark", "notes"] [v0, v1, v2, v3, v4, v5, v6, y])))) : qSFld K "notes" y (.ref a) H QH := zf_new (js := ["rows", "handed", "way", "often", "disk", "out", "mark"]) (vs := [v0, v1, v2, v3, v4, v5, v6]) O (by decide +kernel) (by decide +kernel) rfl (by simp) e q
theorem wn_ending (O : ClsN K C wK) (e : H a = some (.ins C dx (zF ["rows", "handed", "way", "often", "disk", "out", "mark", "notes"] [v0, v1, v2, v3, v4, v5, v6, v7]))) (q : QH (upd H a (.ins C dx (zF ["rows", "handed", "way", "often", "disk", "out", "mark", "notes", "ending"] [v0, v1, v2, v3, v4, v5, v6, v7, y])))) : qSFld K "ending" y (.ref a) H QH := zf_new (js := ["rows", "handed", "way", "often", "disk", "out", "mark", "notes"]) (vs := [v0, v1, v2, v3, v4, v5, v6, v7]) O (by decide +kernel) (by decide +kernel) rfl (by simp) e q
theorem wn_all_done (O : ClsN K C wK) (e : H a = some (.ins C dx (zF ["rows", "handed", "way", "often", "disk", "out", "mark", "notes", "ending"] [v0, v1, v2, v3, v4, v5, v6, v7, v8]))) (q : QH (upd H a (.ins C dx (zF ["rows", "handed", "way", "often", "disk", "out", "mark", "notes", "ending", "all_done"] [v0, v1, v2, v3, v4, v5, v6, v7, v8, y])))) : qSFld K "all_done" y (.ref a) H QH := zf_new (js := ["rows", "handed", "way", "often", "disk", "out", "mark", "notes", "ending"]) (vs := [v0, v1, v2, v3, v4, v5, v6, v7, v8]) O (by decide +kernel) (by decide +kernel) rfl (by simp) e q
theorem wn_inside (O : ClsN K C wK) (e : H a = some (.ins C dx (zF ["rows", "handed", "way", "often", "disk", "out", "mark", "notes", "ending", "all_done"] [v0, v1, v2, v3, v4, v5, v6, v7, v8, v9]))) (q : QH (upd H a (.ins C dx (zF ["rows", "handed", "way", "often", "disk", "out", "mark", "notes", "ending", "all_done", "inside"] [v0, v1, v2, v3, v4, v5, v6, v7, v8, v9, y])))) : qSFld K "inside" y (.ref a) H QH := zf_new (js := ["rows", "handed", "way", "often", "disk", "out", "mark", "notes", "ending", "all_done"]) (vs := [v0, v1, v2, v3, v4, v5, v6, v7, v8, v9]) O (by decide +kernel) (by decide +kernel) rfl (by simp) e q
theorem wn_ahead (O : ClsN K C wK) (e : H a = some (.ins C dx (zF ["rows", "handed", "way", "often", "disk", "out", "mark", "notes", "ending", "all_done", "inside"] [v0, v1, v2, v3, v4, v5, v6, v7, v8, v9, v10]))) (q : QH (upd H a (.ins C dx (zF ["rows", "handed", "way", "often", "disk", "out", "mark", "notes", "ending", "all_done", "inside", "ahead"] [v0, v1, v2, v3, v4, v5, v6, v7, v8, v9, v10, y])))) : qSFld K "ahead" y (.ref a) H QH := zf_new (js := ["rows", "handed", "way", "often", "disk", "out", "mark", "notes", "ending", "all_done", "inside"]) (vs := [v0, v1, v2, v3, v4, v5, v6, v7, v8, v9, v10]) O (by decide +kernel) (by decide +kernel) rfl (by simp) e q
theorem wn_about (O : ClsN K C wK) (e : H a = some (.ins C dx (zF ["rows", "handed", "way", "often", "disk", "out", "mark", "notes", "ending", "all_done", "inside", "ahead"] [v0, v1, v2, v3, v4, v5, v6, v7, v8, v9, v10, v11]))) (q : QH (upd H a (.ins C dx (zF ["rows", "handed", "way", "often", "disk", "out", "mark", "notes", "ending", "all_done", "inside", "ahead", "about"] [v0, v1, v2, v3, v4, v5, v6, v7, v8, v9, v10, v11, y])))) : qSFld K "about" y (.ref a) H QH := zf_new (js := ["rows", "handed", "way", "often", "disk", "out", "mark", "notes", "ending", "all_done", "inside", "ahead"]) (vs := [v0, v1, v2, v3, v4, v5, v6, v7, v8, v9, v10, v11]) O (by decide +kernel) (by decide +kernel) rfl (by simp) e q
theorem wn_letter_out (O : ClsN K C wK) (e : H a = some (.ins C dx (zF ["rows", "handed", "way", "often", "disk", "out", "mark", "notes", "ending", "all_done", "inside", "ahead", "about"] [v0, v1, v2, v3, v4, v5, v6, v7, v8, v9, v10, v11, v12]))) (q : QH (upd H a (.ins C dx (wF v0 v1 v2 v3 v4 v5 v6 v7 v8 v9 v10 v11 v12 y)))) : qSFld K "letter_out" y (.ref a) H QH := zf_new (js := ["rows", "handed", "way", "often", "disk", "out", "mark", "notes", "ending", "all_done", "inside", "ahead", "about"]) (vs := [v0, v1, v2, v3, v4, v5, v6, v7, v8, v9, v10, v11, v12]) O (by decide +kernel) (by decide +kernel) rfl (by simp) e q
end
end Lw
set_option Elab.async false
set_option linter.all false
set_option maxRecDepth 100000
namespace Lw
open PySem L2
inductive Op3 where | sum | diff | less
  deriving DecidableEq
def Op3.str : Op3 → Str
  | .sum => "sum" | .diff => "diff" | .less => "less"
inductive Part where
  | num (n : Int) | name (k : Int) | op (o : Op3) (a b : Part)
def Part.ok (nm : Int) : Nat → Part → Prop
  | 0, _ => False
  | _ + 1, .num n => 0 ≤ n ∧ n ≤ 10006
  | _ + 1, .name k => 0 ≤ k ∧ k < nm
  | d + 1, .op _ a b => a.ok nm d ∧ b.ok nm d
inductive Row where
  | set (n : Int) (p : Part) | take (n : Int) | get (n f : Int) (p : Part) | size (n f : Int)
  | add (f : Int) (p : Part) | put (f : Int) (p q : Part) | cut (f : Int) (p : Part) | send (p : Part)
  | go (r : Int) | unl (n r : Int) | mark
def Row.ok (nm fl many : Int) : Row → Prop
  | .set n p => 0 ≤ n ∧ n < nm ∧ p.ok nm 3
  | .take n => 0 ≤ n ∧ n < nm
  | .get n f p => 0 ≤ n ∧ n < nm ∧ 0 ≤ f ∧ f < fl ∧ p.ok nm 3
  | .size n f => 0 ≤ n ∧ n < nm ∧ 0 ≤ f ∧ f < fl
  | .add f p => 0 ≤ f ∧ f < fl ∧ p.ok nm 3
  | .put f p q => 0 ≤ f ∧ f < fl ∧ p.ok nm 3 ∧ q.ok nm 3
  | .cut f p => 0 ≤ f ∧ f < fl ∧ p.ok nm 3
  | .send p => p.ok nm 3
  | .go r => 0 ≤ r ∧ r ≤ many
  | .unl n r => 0 ≤ n ∧ n < nm ∧ 0 ≤ r ∧ r ≤ many
  | .mark => True
theorem Part.ok_mono {nm : Int} : ∀ {p : Part} {d e : Nat}, d ≤ e → p.ok nm d → p.ok nm e
  | p, 0, _, _, h => h.elim
  | .num _, _ + 1, 0, l, _ => by omega
  | .name _, _ + 1, 0, l, _ => by omega
  | .op .., _ + 1, 0, l, _ => by omega
  | .num _, _ + 1, _ + 1, _, h => h
  | .name _, _ + 1, _ + 1, _, h => h
  | .op o a b, d + 1, e + 1, l, h => ⟨Part.ok_mono (by omega) h.1, Part.ok_mono (by omega) h.2⟩
theorem Row.ok_mono {nm fl m m' : Int} {r : Row} (l : m ≤ m') (h : r.ok nm fl m) : r.ok nm fl m' := by
  cases r with
  | go r => exact ⟨h.1, Int.le_trans h.2 l⟩
  | unl n r => exact ⟨h.1, h.2.1, h.2.2.1, Int.le_trans h.2.2.2 l⟩
  | _ => exact h
def Imm : HO → Prop
  | .tup _ => True
  | .frz _ _ => True
  | _ => False
def TK (H H' : Hp) : Prop := ∀ a o, Imm o → H a = some o → H' a = some o
theorem TK.refl (H : Hp) : TK H H := fun _ _ _ h => h
theorem TK.trans {H H1 H2 : Hp} (a : TK H H1) (b : TK H1 H2) : TK H H2 := fun c o m h => b c o m (a c o m h)
theorem TK.get {H H' : Hp} {a : Addr} {xs : List V} (s : TK H H') (h : H a = some (.tup xs)) : H' a = some (.tup xs) := s a _ True.intro h
theorem _root_.L2.Same.tk {H H' : Hp} (s : Same H H') : TK H H' := fun a o _ h => s a o h
theorem TK.new {H : Hp} {p : Addr} {o : HO} (h : H p = none) : TK H (upd H p o) := (same_new h o).tk
theorem _root_.L2.Off.tkm {d : Addr} {H H' : Hp} {u : HO} (s : Off d H H') (h : H d = some u) (n : ¬ Imm u) : TK H H' := fun a o m q => s a o q (ne_of q h (by intro z; subst z; exact n m))
theorem _root_.L2.Off.tk {d : Addr} {H H' : Hp} {ys : List V} (s : Off d H H') (h : H d = some (.lst ys)) : TK H H' := s.tkm h (fun z => z)
theorem TK.updL {H : Hp} {p : Addr} {o : HO} {ys : List V} (h : H p = some (.lst ys)) : TK H (upd H p o) := (off_upd H p o).tk h
def Scr (K : PySem.W.Frag) (H : Hp) (a : Addr) (ns : List Int) : Prop := (∃ o, H a = some (.frz o (.lst (ns.map V.int)))) ∨ SqL K (fun _ => none) a (ns.map V.int)
theorem Scr.mono {K : PySem.W.Frag} {H H' : Hp} {a : Addr} {ns : List Int} (t : TK H H') : Scr K H a ns → Scr K H' a ns
  | .inl ⟨o, h⟩ => .inl ⟨o, t a _ True.intro h⟩
  | .inr h => .inr h
theorem Scr.sq {K : PySem.W.Frag} {H : Hp} {a : Addr} {ns : List Int} : Scr K H a ns → SqL K H a (ns.map V.int)
  | .inl ⟨o, h⟩ => .inl (.inr ⟨o, h⟩)
  | .inr h => by
    rcases h with (h | ⟨o, h⟩) | h
    · cases h
    · cases h
    · exact .inr h
theorem Scr.of {K : PySem.W.Frag} {H : Hp} {a : Addr} {ns : List Int} (O : Only H) (h : SqL K H a (ns.map V.int)) : Scr K H a ns := by
  rcases h with (h | ⟨o, h⟩) | h
  · rcases O a with z | ⟨o, xs, z⟩
    · rw [h] at z; cases z
    · rw [h] at z; cases z
  · exact .inl ⟨o, h⟩
  · exact .inr (.inr h)
def PartAt (H : Hp) : Part → V → Prop
  | .num n, v => ∃ a, v = .ref a ∧ H a = some (.tup [.str "num", .int n])
  | .name k, v => ∃ a, v = .ref a ∧ H a = some (.tup [.str "name", .int k])
  | .op o x y, v => ∃ a u w, v = .ref a ∧ H a = some (.tup [.str o.str, u, w]) ∧ PartAt H x u ∧ PartAt H y w
def RowXs (H : Hp) : Row → List V → Prop
  | .set n p, xs => ∃ v, xs = [.str "set", .int n, v] ∧ PartAt H p v
  | .take n, xs => xs = [.str "take", .int n]
  | .get n f p, xs => ∃ v, xs = [.str "get", .int n, .int f, v] ∧ PartAt H p v
  | .size n f, xs => xs = [.str "size", .int n, .int f]
  | .add f p, xs => ∃ v, xs = [.str "add", .int f, v] ∧ PartAt H p v
  | .put f p q, xs => ∃ v u, xs = [.str "put", .int f, v, u] ∧ PartAt H p v ∧ PartAt H q u
  | .cut f p, xs => ∃ v, xs = [.str "cut", .int f, v] ∧ PartAt H p v
  | .send p, xs => ∃ v, xs = [.str "send", v] ∧ PartAt H p v
  | .go r, xs => xs = [.str "go", .int r]
  | .unl n r, xs => xs = [.str "unless", .int n, .int r]
  | .mark, xs => xs = [.str "mark"]
def RowAt (H : Hp) (r : Row) (v : V) : Prop := ∃ a xs, v = .ref a ∧ H a = some (.tup xs) ∧ RowXs H r xs
theorem PartAt.mono {H H' : Hp} (t : TK H H') : ∀ {p : Part} {v : V}, PartAt H p v → PartAt H' p v
  | .num _, _, ⟨a, e, h⟩ => ⟨a, e, t.get h⟩
  | .name _, _, ⟨a, e, h⟩ => ⟨a, e, t.get h⟩
  | .op .., _, ⟨a, u, w, e, h, h1, h2⟩ => ⟨a, u, w, e, t.get h, PartAt.mono t h1, PartAt.mono t h2⟩
theorem RowXs.mono {H H' : Hp} (t : TK H H') : ∀ {r : Row} {xs : List V}, RowXs H r xs → RowXs H' r xs
  | .set .., _, ⟨v, e, h⟩ => ⟨v, e, h.mono t⟩
  | .take _, _, h => h
  | .get .., _, ⟨v, e, h⟩ => ⟨v, e, h.mono t⟩
  | .size .., _, h => h
  | .add .., _, ⟨v, e, h⟩ => ⟨v, e, h.mono t⟩
  | .put .., _, ⟨v, u, e, h, h'⟩ => ⟨v, u, e, h.mono t, h'.mono t⟩
  | .cut .., _, ⟨v, e, h⟩ => ⟨v, e, h.mono t⟩
  | .send _, _, ⟨v, e, h⟩ => ⟨v, e, h.mono t⟩
  | .go _, _, h => h
  | .unl .., _, h => h
  | .mark, _, h => h
theorem RowAt.mono {H H' : Hp} (t : TK H H') {r : Row} {v : V} : RowAt H r v → RowAt H' r v := fun ⟨a, xs, e, h, q⟩ => ⟨a, xs, e, t.get h, q.mono t⟩
inductive RowsAt (H : Hp) : List Row → List V → Prop
  | nil : RowsAt H [] []
  | cons {r : Row} {v : V} {rs : List Row} {vs : List V} : RowAt H r v → RowsAt H rs vs → RowsAt H (r :: rs) (v :: vs)
theorem RowsAt.length {H : Hp} {rs : List Row} {vs : List V} (h : RowsAt H rs vs) : rs.length = vs.length := by
  induction h with
  | nil => rfl
  | cons _ _ ih => simp [ih]
theorem RowsAt.mono {H H' : Hp} (t : TK H H') {rs : List Row} {vs : List V} (h : RowsAt H rs vs) : RowsAt H' rs vs := by
  induction h with
  | nil => exact .nil
  | cons h _ ih => exact .cons (h.mono t) ih
theorem RowsAt.snoc {H : Hp} {rs : List Row} {vs : List V} {r : Row} {v : V} (h : RowsAt H rs vs) (q : RowAt H r v) : RowsAt H (rs ++ [r]) (vs ++ [v]) := by
  induction h with
  | nil => exact .cons q .nil
  | cons h _ ih => exact .cons h ih
theorem RowsAt.get {H : Hp} {rs : List Row} {vs : List V} (h : RowsAt H rs vs) : ∀ {i : Nat} {r : Row}, rs[i]? = some r → ∃ v, vs[i]? = some v ∧ RowAt H r v := by
  induction h with
  | nil => intro i r e; simp at e
  | cons h _ ih =>
    intro i r e
    cases i with
    | zero => simp at e; subst e; exact ⟨_, rfl, h⟩
    | succ i => simpa using ih (by simpa using e)
theorem RowsAt.set {H : Hp} {rs : List Row} {vs : List V} (h : RowsAt H rs vs) : ∀ {i : Nat} {r : Row} {v : V}, RowAt H r v → RowsAt H (rs.set i r) (vs.set i v) := by
  induction h with
  | nil => intro i r v _; exact .nil
  | cons h t ih =>
    intro i r v q
    cases i with
    | zero => exact .cons q t
    | succ i => exact .cons h (ih q)
structure Prog where
  nm : Int
  fl : Int
  rows : List Row
structure Prog.Ok (p : Prog) : Prop where
  n1 : 1 ≤ p.nm
  n2 : p.nm ≤ 8
  f1 : 1 ≤ p.fl
  f2 : p.fl ≤ 4
  ln : p.rows.length ≤ 60
  rw : ∀ r ∈ p.rows, r.ok p.nm p.fl p.rows.length
def ProgAt (H : Hp) (p : Prog) (v : V) : Prop := ∃ a b vs, v = .ref a ∧ H a = some (.tup [.int p.nm, .int p.fl, .ref b]) ∧ H b = some (.tup vs) ∧ RowsAt H p.rows vs
theorem ProgAt.mono {H H' : Hp} (t : TK H H') {p : Prog} {v : V} : ProgAt H p v → ProgAt H' p v := fun ⟨a, b, vs, e, h, h', q⟩ => ⟨a, b, vs, e, t.get h, t.get h', q.mono t⟩
theorem at_op3 {r : Int} (h0 : 0 ≤ r) (h1 : r < 3) : ∃ o : Op3, atI [V.str "sum", V.str "diff", V.str "less"] r = some (.str o.str) := by
  have : r = 0 ∨ r = 1 ∨ r = 2 := by omega
  rcases this with rfl | rfl | rfl
  · exact ⟨.sum, rfl⟩
  · exact ⟨.diff, rfl⟩
  · exact ⟨.less, rfl⟩
theorem at_two {x y : V} {r : Int} (h0 : 0 ≤ r) (h1 : r < 2) : ∃ z, atI [x, y] r = some z ∧ (z = x ∨ z = y) := by
  have : r = 0 ∨ r = 1 := by omega
  rcases this with rfl | rfl
  · exact ⟨x, rfl, .inl rfl⟩
  · exact ⟨y, rfl, .inr rfl⟩
def zD (keys : List Str) (vals : List V) : List (Key × V) := (keys.zip vals).map fun p => (.inr p.1, p.2)
theorem zD_cons (k : Str) (v : V) (ks : List Str) (vs : List V) : zD (k :: ks) (v :: vs) = (.inr k, v) :: zD ks vs := rfl
theorem zD_get {k : Str} {v : V} : ∀ {ks : List Str} {vs : List V} {i : Nat}, ks.Nodup → ks[i]? = some k → vs[i]? = some v → valV (zD ks vs) (.inr k) = some v
  | [], _, _, _, h, _ => by simp at h
  | _ :: _, [], _, _, _, h => by simp at h
  | k' :: ks, v' :: vs, 0, _, h, h' => by
    simp at h h'; subst h h'
    rw [zD_cons, valV_pos rfl]
  | k' :: ks, v' :: vs, i + 1, nd, h, h' => by
    simp at h h'
    have hm : k ∈ ks := List.mem_of_getElem? h
    rw [zD_cons, valV_neg (by intro e; exact (List.nodup_cons.mp nd).1 (by rw [Sum.inr.inj e]; exact hm))]
    exact zD_get (List.nodup_cons.mp nd).2 h h'
theorem putK_ne {k k' : Key} {v x : V} {r : List (Key × V)} (h : ¬ k' = k) : putK ((k', v) :: r) k x = (k', v) :: putK r k x := by
  unfold putK
  simp only [List.any_cons, h, decide_false, Bool.false_or, List.map_cons, if_false]
  split <;> rfl
theorem map_no {k : Str} {x : V} : ∀ {ks : List Str} {vs : List V}, k ∉ ks → (zD ks vs).map (fun kv => if kv.1 = (.inr k : Key) then (kv.1, x) else kv) = zD ks vs
  | [], _, _ => rfl
  | _ :: _, [], _ => rfl
  | k' :: ks, v :: vs, h => by
    rw [zD_cons, List.map_cons, map_no fun m => h (List.mem_cons_of_mem _ m), if_neg (by intro e; exact h (by rw [Sum.inr.inj e]; exact List.mem_cons_self ..))]
theorem zD_put {k : Str} {x : V} : ∀ {ks : List Str} {vs : List V} {i : Nat}, ks.Nodup → ks[i]? = some k → i < vs.length → putK (zD ks vs) (.inr k) x = zD ks (vs.set i x)
  | [], _, _, _, h, _ => by simp at h
  | _ :: _, [], _, _, _, h => by simp at h
  | k' :: ks, v' :: vs, 0, nd, h, _ => by
    simp at h; subst h
    rw [zD_cons]
    unfold putK
    simp only [List.any_cons, decide_true, Bool.true_or, if_true, List.map_cons, if_true]
    rw [map_no (List.nodup_cons.mp nd).1]
    rfl
  | k' :: ks, v' :: vs, i + 1, nd, h, hl => by
    simp at h
    have hm : k ∈ ks := List.mem_of_getElem? h
    rw [zD_cons, putK_ne (by intro e; exact (List.nodup_cons.mp nd).1 (by rw [Sum.inr.inj e]; exact hm)), zD_put (List.nodup_cons.mp nd).2 h (by simpa using hl)]
    rfl
theorem zD_app {k : Str} {x : V} : ∀ {ks : List Str} {vs : List V}, k ∉ ks → ks.length = vs.length → putK (zD ks vs) (.inr k) x = zD (ks ++ [k]) (vs ++ [x])
  | [], [], _, _ => rfl
  | [], _ :: _, _, h => by simp at h
  | _ :: _, [], _, h => by simp at h
  | k' :: ks, v' :: vs, h, hl => by
    rw [zD_cons, putK_ne (by intro e; exact h (by rw [Sum.inr.inj e]; exact List.mem_cons_self ..)), zD_app (fun m => h (List.mem_cons_of_mem _ m)) (by simpa using hl)]
    rfl
theorem zD_merge : ∀ {kb ka : List Str} {vb va : List V}, (ka ++ kb).Nodup → ka.length = va.length → kb.length = vb.length → mergeK (zD ka va) (zD kb vb) = zD (ka ++ kb) (va ++ vb)
  | [], ka, [], va, _, _, _ => by rw [List.append_nil, List.append_nil]; rfl
  | [], _, _ :: _, _, _, _, h => by simp at h
  | _ :: _, _, [], _, _, _, h => by simp at h
  | k :: kb, ka, v :: vb, va, nd, ha, hb => by
    have hk : k ∉ ka := fun m => by
      have := (List.nodup_append.mp nd).2.2 k m k (List.mem_cons_self ..)
      exact this rfl
    show mergeK (putK (zD ka va) (.inr k) v) (zD kb vb) = _
    rw [zD_app hk ha, zD_merge (by rw [List.append_assoc]; exact nd) (by simp [ha]) (by simpa using hb), List.append_assoc, List.append_assoc]
    rfl
theorem ixN_of {n : Nat} {i : Int} (h0 : 0 ≤ i) (h1 : i < n) : ixN n i = some i.toNat := by
  unfold ixN
  rw [if_pos h0, if_pos h1]
def Row.jumps : Row → Bool
  | .go _ => true
  | .unl .. => true
  | _ => false
theorem RowXs.word {H : Hp} : ∀ {r : Row} {xs : List V}, RowXs H r xs → ∃ w rest, xs = .str w :: rest ∧ inV (.str w) [.str "go", .str "unless"] = r.jumps
  | .set .., _, ⟨v, e, _⟩ => ⟨_, _, e, by show _ = false; decide +kernel⟩
  | .take _, _, e => ⟨_, _, e, by show _ = false; decide +kernel⟩
  | .get .., _, ⟨v, e, _⟩ => ⟨_, _, e, by show _ = false; decide +kernel⟩
  | .size .., _, e => ⟨_, _, e, by show _ = false; decide +kernel⟩
  | .add .., _, ⟨v, e, _⟩ => ⟨_, _, e, by show _ = false; decide +kernel⟩
  | .put .., _, ⟨v, u, e, _⟩ => ⟨_, _, e, by show _ = false; decide +kernel⟩
  | .cut .., _, ⟨v, e, _⟩ => ⟨_, _, e, by show _ = false; decide +kernel⟩
  | .send _, _, ⟨v, e, _⟩ => ⟨_, _, e, by show _ = false; decide +kernel⟩
  | .go _, _, e => ⟨_, _, e, by show _ = true; decide +kernel⟩
  | .unl .., _, e => ⟨_, _, e, by show _ = true; decide +kernel⟩
  | .mark, _, e => ⟨_, _, e, by show _ = false; decide +kernel⟩
def Row.clip (m : Int) : Row → Row
  | .go r => .go (min r m)
  | .unl n r => .unl n (min r m)
  | r => r
theorem Row.clip_ok {nm fl m : Int} {r : Row} (hm : 0 ≤ m) (h : r.ok nm fl m) : (r.clip m).ok nm fl m := by
  cases r with
  | go r => exact ⟨by have := h.1; omega, by have := h.2; omega⟩
  | unl n r => exact ⟨h.1, h.2.1, by have := h.2.2.1; omega, by have := h.2.2.2; omega⟩
  | _ => exact h
theorem Row.clip_no {m : Int} {r : Row} (h : r.jumps = false) : r.clip m = r := by
  cases r with
  | go r => cases h
  | unl n r => cases h
  | _ => rfl
theorem mem_set {α : Type} {P : α → Prop} {xs : List α} {i : Nat} {y : α} (h : ∀ x ∈ xs, P x) (hy : P y) : ∀ x ∈ xs.set i y, P x := fun x hx => by
  rcases List.mem_or_eq_of_mem_set hx with z | z
  · exact h x z
  · subst z; exact hy
theorem mem_snoc {α : Type} {P : α → Prop} {xs : List α} {y : α} (h : ∀ x ∈ xs, P x) (hy : P y) : ∀ x ∈ xs ++ [y], P x := fun x hx => by
  rcases List.mem_append.mp hx with z | z
  · exact h x z
  · rw [List.mem_singleton.mp z]; exact hy
theorem RowsAt.take_succ {H : Hp} {rs : List Row} {vs : List V} (h : RowsAt H rs vs) {i : Nat} {v : V} (e : vs[i]? = some v) : ∃ r, rs[i]? = some r ∧ RowAt H r v := by
  have hl := h.length
  have hi : i < rs.length := by
    have := (List.getElem?_eq_some_iff.mp e).1
    omega
  obtain ⟨v', e', q⟩ := h.get (List.getElem?_eq_getElem hi)
  rw [e] at e'
  cases e'
  exact ⟨_, List.getElem?_eq_getElem hi, q⟩
theorem take_snoc {α : Type} {xs : List α} {i : Nat} {x : α} (e : xs[i]? = some x) : xs.take (i + 1) = xs.take i ++ [x] := by
  rw [List.take_succ, e]; rfl
theorem small_line {n : Nat} (h : n ≤ 100000) : n < sizeLine := Nat.lt_of_le_of_lt h (by decide)
theorem small_le {n : Nat} (h : n ≤ 100000) : n ≤ sizeLine := Nat.le_of_lt (small_line h)
end Lw
set_option Elab.async false
set_option linter.all false
set_option maxRecDepth 100000
namespace Lw
open PySem L2
def Part.val (ns : List Int) : Part → Int
  | .num n => n
  | .name k => ns.getD k.toNat 0
  | .op .sum a b => (a.val ns + b.val ns) % 10007
  | .op .diff a b => (a.val ns - b.val ns) % 10007
  | .op .less a b => if a.val ns < b.val ns then 1 else 0
structure S where
  row : Int
  names : List Int
  taken : Nat
  done : Nat
  files : List (List Int)
  sent : List Int
inductive Out where
  | fault (w : Str)
  | next (s : S)
def S.hold (s : S) (n x : Int) : S := { s with row := s.row + 1, done := s.done + 1, names := s.names.set n.toNat x }
def S.file (s : S) (f : Int) : List Int := s.files.getD f.toNat []
def S.fill (s : S) (f : Int) (xs : List Int) : S := { s with row := s.row + 1, done := s.done + 1, files := s.files.set f.toNat xs }
def stepM (hs : List Int) (s : S) : Row → Out
  | .set n p => .next (s.hold n (p.val s.names))
  | .take n => if s.taken = hs.length then .fault "none" else .next { s.hold n (hs.getD s.taken 0) with taken := s.taken + 1 }
  | .get n f p => if ((s.file f).length : Int) ≤ p.val s.names then .fault "place" else .next (s.hold n ((s.file f).getD (p.val s.names).toNat 0))
  | .size n f => .next (s.hold n ((s.file f).length : Int))
  | .add f p => if (s.file f).length = 40 then .fault "full" else .next (s.fill f (s.file f ++ [p.val s.names]))
  | .put f p q => if ((s.file f).length : Int) ≤ p.val s.names then .fault "place" else .next (s.fill f ((s.file f).set (p.val s.names).toNat (q.val s.names)))
  | .cut f p => .next (s.fill f ((s.file f).take (p.val s.names).toNat))
  | .send p => .next { s with row := s.row + 1, done := s.done + 1, sent := s.sent ++ [p.val s.names] }
  | .go r => .next { s with row := r, done := s.done + 1 }
  | .unl n r => .next { s with row := if s.names.getD n.toNat 0 = 0 then r else s.row + 1, done := s.done + 1 }
  | .mark => .next { s with row := s.row + 1, done := s.done + 1 }
def Num (xs : List Int) : Prop := ∀ x ∈ xs, 0 ≤ x ∧ x ≤ 10006
theorem Num.getD {xs : List Int} (h : Num xs) (i : Nat) : 0 ≤ xs.getD i 0 ∧ xs.getD i 0 ≤ 10006 := by
  rw [List.getD_eq_getElem?_getD]
  cases e : xs[i]? with
  | none => exact ⟨by decide, by decide⟩
  | some x => exact h x (List.mem_of_getElem? e)
theorem Part.val_num {ns : List Int} (h : Num ns) {nm : Int} : ∀ {p : Part} {d : Nat}, p.ok nm d → 0 ≤ p.val ns ∧ p.val ns ≤ 10006
  | _, 0, k => k.elim
  | .num _, _ + 1, k => k
  | .name k, _ + 1, _ => h.getD k.toNat
  | .op .sum a b, _ + 1, _ => by show 0 ≤ (_ : Int) % 10007 ∧ (_ : Int) % 10007 ≤ 10006; omega
  | .op .diff a b, _ + 1, _ => by show 0 ≤ (_ : Int) % 10007 ∧ (_ : Int) % 10007 ≤ 10006; omega
  | .op .less a b, _ + 1, _ => by show 0 ≤ (if _ then (1 : Int) else 0) ∧ (if _ then (1 : Int) else 0) ≤ 10006; split <;> omega
theorem Num.set {xs : List Int} (h : Num xs) {i : Nat} {x : Int} (hx : 0 ≤ x ∧ x ≤ 10006) : Num (xs.set i x) := mem_set (P := fun x => 0 ≤ x ∧ x ≤ 10006) h hx
theorem Num.snoc {xs : List Int} (h : Num xs) {x : Int} (hx : 0 ≤ x ∧ x ≤ 10006) : Num (xs ++ [x]) := mem_snoc (P := fun x => 0 ≤ x ∧ x ≤ 10006) h hx
theorem Num.take {xs : List Int} (h : Num xs) (i : Nat) : Num (xs.take i) := fun x hx => h x (List.mem_of_mem_take hx)
structure Good (p : Prog) (hs : List Int) (s : S) : Prop where
  r0 : 0 ≤ s.row
  r1 : s.row ≤ p.rows.length
  nl : s.names.length = p.nm.toNat
  nn : Num s.names
  tk : s.taken ≤ hs.length
  fl : s.files.length = p.fl.toNat
  ff : ∀ f ∈ s.files, f.length ≤ 40 ∧ Num f
  st : s.sent.length ≤ s.done
  dn : s.done ≤ 1000
theorem Good.file {p : Prog} {hs : List Int} {s : S} (g : Good p hs s) (f : Int) : (s.file f).length ≤ 40 ∧ Num (s.file f) := by
  unfold S.file
  rw [List.getD_eq_getElem?_getD]
  cases e : s.files[f.toNat]? with
  | none => exact ⟨by decide, fun x hx => by cases hx⟩
  | some x => exact g.ff x (List.mem_of_getElem? e)
theorem Good.hold {p : Prog} {hs : List Int} {s : S} (g : Good p hs s) {n x : Int} (hx : 0 ≤ x ∧ x ≤ 10006) (hr : s.row < p.rows.length) (hd : s.done < 1000) : Good p hs (s.hold n x) :=
  ⟨by have := g.r0; show 0 ≤ s.row + 1; omega, by show s.row + 1 ≤ _; omega, by show (s.names.set _ _).length = _; rw [List.length_set]; exact g.nl, g.nn.set hx, g.tk, g.fl, g.ff, by have := g.st; show s.sent.length ≤ s.done + 1; omega, hd⟩
theorem Good.fill {p : Prog} {hs : List Int} {s : S} (g : Good p hs s) {f : Int} {xs : List Int} (hx : xs.length ≤ 40 ∧ Num xs) (hr : s.row < p.rows.length) (hd : s.done < 1000) : Good p hs (s.fill f xs) :=
  ⟨by have := g.r0; show 0 ≤ s.row + 1; omega, by show s.row + 1 ≤ _; omega, g.nl, g.nn, g.tk, by show (s.files.set _ _).length = _; rw [List.length_set]; exact g.fl, mem_set (P := fun (f : List Int) => f.length ≤ 40 ∧ Num f) g.ff hx, by have := g.st; show s.sent.length ≤ s.done + 1; omega, hd⟩
theorem Good.step {p : Prog} {hs : List Int} {s s' : S} {r : Row} (g : Good p hs s) (hh : Num hs) (hr : s.row < p.rows.length) (hd : s.done < 1000) (ok : r.ok p.nm p.fl p.rows.length) (e : stepM hs s r = .next s') : Good p hs s' := by
  have g0 := g.r0; have g1 := g.r1; have g2 := g.st; have g3 := g.tk
  cases r with
  | set n q => cases e; exact g.hold (Part.val_num g.nn ok.2.2) hr hd
  | take n =>
    simp only [stepM] at e
    split at e
    · cases e
    · cases e
      have z := g.hold (n := n) (x := hs.getD s.taken 0) (Num.getD hh s.taken) hr hd
      exact ⟨z.r0, z.r1, z.nl, z.nn, by show s.taken + 1 ≤ _; omega, z.fl, z.ff, z.st, z.dn⟩
  | get n f q =>
    simp only [stepM] at e
    split at e
    · cases e
    · cases e; exact g.hold ((g.file f).2.getD _) hr hd
  | size n f => cases e; exact g.hold (by have := (g.file f).1; omega) hr hd
  | add f q =>
    simp only [stepM] at e
    split at e
    · cases e
    · cases e
      have hf := g.file f
      exact g.fill ⟨by rw [List.length_append]; show _ + 1 ≤ 40; omega, hf.2.snoc (Part.val_num g.nn ok.2.2)⟩ hr hd
  | put f q r =>
    simp only [stepM] at e
    split at e
    · cases e
    · cases e
      have hf := g.file f
      exact g.fill ⟨by rw [List.length_set]; exact hf.1, hf.2.set (Part.val_num g.nn ok.2.2.2)⟩ hr hd
  | cut f q =>
    cases e
    have hf := g.file f
    exact g.fill ⟨by rw [List.length_take]; omega, hf.2.take _⟩ hr hd
  | send q => cases e; exact ⟨by show 0 ≤ s.row + 1; omega, by show s.row + 1 ≤ _; omega, g.nl, g.nn, g.tk, g.fl, g.ff, by show (s.sent ++ [_]).length ≤ s.done + 1; rw [List.length_append]; show _ + 1 ≤ _; omega, hd⟩
  | go r => cases e; exact ⟨ok.1, ok.2, g.nl, g.nn, g.tk, g.fl, g.ff, by show s.sent.length ≤ s.done + 1; omega, hd⟩
  | unl n r =>
    cases e
    have k1 : 0 ≤ r := ok.2.2.1
    have k2 : r ≤ p.rows.length := ok.2.2.2
    have z : 0 ≤ (if s.names.getD n.toNat 0 = 0 then r else s.row + 1) ∧ (if s.names.getD n.toNat 0 = 0 then r else s.row + 1) ≤ p.rows.length := by split <;> omega
    exact ⟨z.1, z.2, g.nl, g.nn, g.tk, g.fl, g.ff, by show s.sent.length ≤ s.done + 1; omega, hd⟩
  | mark => cases e; exact ⟨by show 0 ≤ s.row + 1; omega, by show s.row + 1 ≤ _; omega, g.nl, g.nn, g.tk, g.fl, g.ff, by show s.sent.length ≤ s.done + 1; omega, hd⟩
theorem step_done {hs : List Int} {s s' : S} {r : Row} (e : stepM hs s r = .next s') : s'.done = s.done + 1 := by
  cases r <;> simp only [stepM] at e
  all_goals first | (cases e; rfl) | (split at e <;> first | (cases e; done) | (cases e; rfl))
def s0 (p : Prog) : S := ⟨0, List.replicate p.nm.toNat 0, 0, 0, List.replicate p.fl.toNat [], []⟩
theorem good0 (p : Prog) (hs : List Int) : Good p hs (s0 p) :=
  ⟨by show (0 : Int) ≤ 0; omega, by show (0 : Int) ≤ _; omega, List.length_replicate, fun x hx => by rw [(List.mem_replicate.mp hx).2]; omega, Nat.zero_le _, List.length_replicate, fun f hf => by rw [(List.mem_replicate.mp hf).2]; exact ⟨by decide, fun x hx => by cases hx⟩, Nat.zero_le _, by show 0 ≤ 1000; omega⟩
inductive End where
  | done | long | fault (w : Str)
def outM (p : Prog) (hs : List Int) : Nat → S → S × End
  | 0, s => if s.row = p.rows.length then (s, .done) else (s, .long)
  | k + 1, s => if s.row = p.rows.length then (s, .done) else match stepM hs s (p.rows.getD s.row.toNat .mark) with
    | .fault w => (s, .fault w)
    | .next s' => outM p hs k s'
def fin (p : Prog) (hs : List Int) (s : S) : S × End := outM p hs (1000 - s.done) s
theorem fin_end {p : Prog} {hs : List Int} {s : S} (h : s.row = p.rows.length) : fin p hs s = (s, .done) := by
  unfold fin
  cases 1000 - s.done <;> (unfold outM; rw [if_pos h])
theorem fin_long {p : Prog} {hs : List Int} {s : S} (h : s.row ≠ p.rows.length) (hd : s.done = 1000) : fin p hs s = (s, .long) := by
  unfold fin
  rw [hd]
  show outM p hs 0 s = _
  unfold outM
  rw [if_neg h]
theorem fin_fault {p : Prog} {hs : List Int} {s : S} {r : Row} {w : Str} (h : s.row ≠ p.rows.length) (hd : s.done < 1000) (hr : p.rows[s.row.toNat]? = some r) (e : stepM hs s r = .fault w) : fin p hs s = (s, .fault w) := by
  unfold fin
  obtain ⟨k, hk⟩ : ∃ k, 1000 - s.done = k + 1 := ⟨999 - s.done, by omega⟩
  rw [hk]
  unfold outM
  rw [if_neg h, List.getD_eq_getElem?_getD, hr]
  show (match stepM hs s r with | .fault w => (s, End.fault w) | .next s' => outM p hs k s') = _
  rw [e]
theorem fin_next {p : Prog} {hs : List Int} {s s' : S} {r : Row} (h : s.row ≠ p.rows.length) (hd : s.done < 1000) (hr : p.rows[s.row.toNat]? = some r) (e : stepM hs s r = .next s') : fin p hs s = fin p hs s' := by
  unfold fin
  rw [step_done e]
  obtain ⟨k, hk⟩ : ∃ k, 1000 - s.done = k + 1 := ⟨999 - s.done, by omega⟩
  rw [hk, show 1000 - (s.done + 1) = k by omega]
  show outM p hs (k + 1) s = _
  conv => lhs; unfold outM
  rw [if_neg h, List.getD_eq_getElem?_getD, hr]
  show (match stepM hs s r with | .fault w => (s, End.fault w) | .next s' => outM p hs k s') = _
  rw [e]
end Lw
set_option Elab.async false
set_option linter.all false
set_option maxRecDepth 100000
namespace Lw
open PySem L2
structure Eff where
  row : Int
  taken : Nat
  name : Option (Int × Int)
  file : Option (Int × List Int)
  letter : Option Int
  fault : Option Str
def effM (hs : List Int) (s : S) : Row → Eff
  | .set n p => ⟨s.row + 1, s.taken, some (n, p.val s.names), none, none, none⟩
  | .take n => ⟨s.row + 1, s.taken + 1, some (n, (hs ++ [0]).getD s.taken 0), none, none, if s.taken = hs.length then some "none" else none⟩
  | .get n f p => ⟨s.row + 1, s.taken, some (n, (s.file f ++ [0]).getD (min (p.val s.names) (s.file f).length).toNat 0), none, none, if ((s.file f).length : Int) ≤ p.val s.names then some "place" else none⟩
  | .size n f => ⟨s.row + 1, s.taken, some (n, (s.file f).length), none, none, none⟩
  | .add f p => ⟨s.row + 1, s.taken, none, some (f, s.file f ++ [p.val s.names]), none, if (s.file f).length = 40 then some "full" else none⟩
  | .put f p q => ⟨s.row + 1, s.taken, none, some (f, (s.file f).take (p.val s.names).toNat ++ [q.val s.names] ++ (s.file f).drop ((p.val s.names).toNat + 1)), none, if ((s.file f).length : Int) ≤ p.val s.names then some "place" else none⟩
  | .cut f p => ⟨s.row + 1, s.taken, none, some (f, (s.file f).take (p.val s.names).toNat), none, none⟩
  | .send p => ⟨s.row + 1, s.taken, none, none, some (p.val s.names), none⟩
  | .go r => ⟨r, s.taken, none, none, none, none⟩
  | .unl n r => ⟨if s.names.getD n.toNat 0 = 0 then r else s.row + 1, s.taken, none, none, none, none⟩
  | .mark => ⟨s.row + 1, s.taken, none, none, none, none⟩
def S.app (s : S) (e : Eff) : S := ⟨e.row, match e.name with | none => s.names | some (n, x) => s.names.set n.toNat x, e.taken, s.done + 1, match e.file with | none => s.files | some (f, xs) => s.files.set f.toNat xs, s.sent ++ e.letter.toList⟩
theorem set_split {xs : List Int} {i : Nat} {v : Int} (h : i < xs.length) : xs.take i ++ [v] ++ xs.drop (i + 1) = xs.set i v := by
  rw [List.set_eq_take_append_cons_drop, if_pos h, List.append_assoc]; rfl
theorem getD_snoc {xs : List Int} {i : Nat} (h : i < xs.length) : (xs ++ [0]).getD i 0 = xs.getD i 0 := by
  rw [List.getD_eq_getElem?_getD, List.getD_eq_getElem?_getD, List.getElem?_append_left h]
theorem eff_step {hs : List Int} {s : S} {r : Row} (hn : Num s.names) (ht : s.taken ≤ hs.length) {nm fl m : Int} (ok : r.ok nm fl m) : stepM hs s r = match (effM hs s r).fault with | some w => .fault w | none => .next (s.app (effM hs s r)) := by
  cases r with
  | set n p => simp [stepM, effM, S.app, S.hold]
  | take n =>
    by_cases c : s.taken = hs.length
    · simp [stepM, effM, c]
    · simp only [stepM, effM, if_neg c, S.app, S.hold, Option.toList_none, List.append_nil]
      rw [getD_snoc (by omega)]
  | get n f p =>
    have hv := Part.val_num hn ok.2.2.2.2
    by_cases c : ((s.file f).length : Int) ≤ p.val s.names
    · simp only [stepM, effM, if_pos c]
    · simp only [stepM, effM, if_neg c, S.app, S.hold, Option.toList_none, List.append_nil]
      rw [show min (p.val s.names) (s.file f).length = p.val s.names by omega, getD_snoc (by omega)]
  | size n f => simp [stepM, effM, S.app, S.hold]
  | add f p =>
    by_cases c : (s.file f).length = 40
    · simp only [stepM, effM, if_pos c]
    · simp only [stepM, effM, if_neg c, S.app, S.fill, Option.toList_none, List.append_nil]
  | put f p q =>
    have hv := Part.val_num hn ok.2.2.1
    by_cases c : ((s.file f).length : Int) ≤ p.val s.names
    · simp only [stepM, effM, if_pos c]
    · simp only [stepM, effM, if_neg c, S.app, S.fill, Option.toList_none, List.append_nil]
      rw [set_split (by omega)]
  | cut f p => simp [stepM, effM, S.app, S.fill]
  | send p => simp [stepM, effM, S.app]
  | go r => simp [stepM, effM, S.app]
  | unl n r => simp [stepM, effM, S.app]
  | mark => simp [stepM, effM, S.app]
end Lw
set_option Elab.async false
set_option linter.all false
set_option maxRecDepth 100000
namespace Lw
open PySem L2
theorem rep_one {α : Type} (n : Nat) (v : α) : (List.replicate n [v]).flatten = List.replicate n v := by
  induction n with
  | zero => rfl
  | succ n ih => rw [List.replicate_succ, List.flatten_cons, ih, List.replicate_succ]; rfl
theorem go_rep1 {H : Hp} {Q : VK} {p : Addr} {k : Int} {v : V} (h : H p = some (.lst [v])) (h0 : 0 ≤ k) (h1 : k ≤ 1000) (q : ∀ a, H a = none → Q (.ref a) (upd H a (.lst (List.replicate k.toNat v)))) : rRep (.ref p) (.int k) H Q := by
  refine ⟨p, k, [v], rfl, rfl, h, by omega, by omega, small_le (by show 1 * k.toNat ≤ _; omega), fun a ha => ?_⟩
  rw [rep_one]
  exact q a ha
theorem same_upd {H H' : Hp} {p : Addr} {o : HO} (h : H p = none) (s : Same H H') : Same H (upd H' p o) := fun b u q => by rw [upd_ne (ne_of_none q h)]; exact s b u q
theorem _root_.L2.Same.none {H H' : Hp} {p : Addr} (s : Same H H') (h : H' p = Option.none) : H p = Option.none := s.free h
theorem go_repF {H : Hp} {Q : VK} {p : Addr} {v : V} (h : H p = some (.lst [v])) (q : ∀ a, H a = none → Q (.ref a) (upd H a (.lst []))) : rRep (.ref p) (.int (if false = true then 1 else 0)) H Q := go_rep1 h (by decide) (by decide) q
theorem go_repT {H : Hp} {Q : VK} {p : Addr} {v : V} (h : H p = some (.lst [v])) (q : ∀ a, H a = none → Q (.ref a) (upd H a (.lst [v]))) : rRep (.ref p) (.int (if true = true then 1 else 0)) H Q := go_rep1 h (by decide) (by decide) q
inductive FilesAt (H : Hp) : List V → List (List Int) → Prop
  | nil : FilesAt H [] []
  | cons {a : Addr} {xs : List Int} {vs : List V} {fs : List (List Int)} : H a = some (.lst (xs.map V.int)) → FilesAt H vs fs → FilesAt H (.ref a :: vs) (xs :: fs)
theorem FilesAt.length {H : Hp} {vs : List V} {fs : List (List Int)} (h : FilesAt H vs fs) : vs.length = fs.length := by
  induction h with
  | nil => rfl
  | cons _ _ ih => simp [ih]
theorem FilesAt.get {H : Hp} {vs : List V} {fs : List (List Int)} (h : FilesAt H vs fs) : ∀ {i : Nat}, i < fs.length → ∃ a, vs[i]? = some (.ref a) ∧ H a = some (.lst ((fs.getD i []).map V.int)) := by
  induction h with
  | nil => intro i hi; simp at hi
  | cons h _ ih =>
    intro i hi
    cases i with
    | zero => exact ⟨_, rfl, h⟩
    | succ i => simpa using ih (by simpa using hi)
theorem FilesAt.same {H H' : Hp} {vs : List V} {fs : List (List Int)} (h : FilesAt H vs fs) (s : Same H H') : FilesAt H' vs fs := by
  induction h with
  | nil => exact .nil
  | cons h _ ih => exact .cons (s _ _ h) ih
theorem upd_tup {H : Hp} {p a : Addr} {o : HO} {kvs : List (Key × V)} {xs : List V} (hp : H p = some (.dK kvs)) (h : H a = some (.tup xs)) : upd H p o a = some (.tup xs) := by
  rw [upd_ne (ne_of h hp (by intro z; cases z))]; exact h
theorem upd_lst {H : Hp} {p a : Addr} {o : HO} {kvs : List (Key × V)} {xs : List V} (hp : H p = some (.dK kvs)) (h : H a = some (.lst xs)) : upd H p o a = some (.lst xs) := by
  rw [upd_ne (ne_of h hp (by intro z; cases z))]; exact h
theorem at_file {H : Hp} {fv : List V} {fs : List (List Int)} (h : FilesAt H fv fs) {g : Int} (h0 : 0 ≤ g) (h1 : g < fs.length) : ∃ a, atI fv g = some (.ref a) ∧ H a = some (.lst ((fs.getD g.toNat []).map V.int)) := by
  obtain ⟨a, e, q⟩ := h.get (i := g.toNat) (by omega)
  refine ⟨a, ?_, q⟩
  rw [show g = ((g.toNat : Nat) : Int) by omega]
  exact atI_nat e
theorem at_num {xs : List Int} {g : Int} (h0 : 0 ≤ g) (h1 : g < xs.length) : atI (xs.map V.int) g = some (.int (xs.getD g.toNat 0)) := by
  have hlt : g.toNat < xs.length := by omega
  have q : atI (xs.map V.int) ((g.toNat : Nat) : Int) = some (.int (xs.getD g.toNat 0)) := atI_nat (by rw [List.getElem?_map, List.getD_eq_getElem?_getD, List.getElem?_eq_getElem hlt]; rfl)
  rwa [show ((g.toNat : Nat) : Int) = g by omega] at q
theorem cut_to {xs : List V} {i : Int} (h : 0 ≤ i) : cutV xs none (some i) = xs.take i.toNat := by
  unfold cutV HT.sIx
  rw [List.drop_zero]
  simp only [if_neg (show ¬ i < 0 by omega), Nat.sub_zero]
  by_cases c : i.toNat ≤ xs.length
  · rw [Nat.min_eq_left c]
  · rw [Nat.min_eq_right (by omega), List.take_of_length_le (Nat.le_refl _), List.take_of_length_le (by omega)]
theorem cut_from {xs : List V} {i : Int} (h : 0 ≤ i) : cutV xs (some i) none = xs.drop i.toNat := by
  unfold cutV HT.sIx
  simp only [if_neg (show ¬ i < 0 by omega)]
  by_cases c : i.toNat ≤ xs.length
  · rw [Nat.min_eq_left c, List.take_of_length_le (by rw [List.length_drop]; omega)]
  · rw [Nat.min_eq_right (by omega), List.drop_eq_nil_of_le (Nat.le_refl _), List.drop_eq_nil_of_le (by omega), List.take_nil]
def Off2 (d c : Addr) (H H' : Hp) : Prop := ∀ b o, H b = some o → b ≠ d → b ≠ c → H' b = some o
def whM (W : Nat → St → Hp → Prop) (m : Nat) (tb : TS) (D : Ends) (σ : St) (b : Bool) (H1 : Hp) : Prop :=
  if b = true then ∃ N : St → Hp → Prop, (∀ σ' H', N σ' H' → ∃ m', m' < m ∧ W m' σ' H') ∧ tb { D with nx := N, ct := N, bk := D.nx } σ H1 else D.nx σ H1
theorem go_whileM {σ : St} {H : Hp} {nx : St → Hp → Prop} {rt : VK} {bk ct : St → Hp → Prop} {tb : TS} {c : TT} (W : Nat → St → Hp → Prop) (m : Nat) (h0 : W m σ H) (hs : ∀ m σ H, W m σ H → c σ H fun b H1 => whM W m tb ⟨nx, rt, bk, ct⟩ σ b H1) : tWhile c tb ⟨nx, rt, bk, ct⟩ σ H := ⟨W, ⟨m, h0⟩, hs⟩
theorem go_whM {σ : St} {H : Hp} {nx : St → Hp → Prop} {rt : VK} {bk ct : St → Hp → Prop} {tb : TS} {W : Nat → St → Hp → Prop} {m : Nat} {b : Bool} (h : if b = true then tb ⟨fun σ' H' => ∃ m', m' < m ∧ W m' σ' H', rt, nx, fun σ' H' => ∃ m', m' < m ∧ W m' σ' H'⟩ σ H else nx σ H) : whM W m tb ⟨nx, rt, bk, ct⟩ σ b H := by
  unfold whM
  cases b with
  | true =>
    rw [if_pos rfl] at h ⊢
    exact ⟨_, fun _ _ z => z, h⟩
  | false =>
    rw [if_neg Bool.false_ne_true] at h ⊢
    exact h
theorem FilesAt.keep {H H' : Hp} {vs : List V} {fs : List (List Int)} (h : FilesAt H vs fs) : (∀ a xs, V.ref a ∈ vs → H a = some (.lst xs) → H' a = some (.lst xs)) → FilesAt H' vs fs := by
  induction h with
  | nil => intro _; exact .nil
  | cons h _ ih => intro z; exact .cons (z _ _ (List.mem_cons_self ..) h) (ih fun a xs m => z a xs (List.mem_cons_of_mem _ m))
theorem FilesAt.set {H : Hp} {vs : List V} {fs : List (List Int)} (h : FilesAt H vs fs) : ∀ {i : Nat} {a : Addr} {xs : List Int}, H a = some (.lst (xs.map V.int)) → FilesAt H (vs.set i (.ref a)) (fs.set i xs) := by
  induction h with
  | nil => intro i a xs _; exact .nil
  | cons h t ih =>
    intro i a xs q
    cases i with
    | zero => exact .cons q t
    | succ i => exact .cons h (ih q)
theorem FilesAt.snoc {H : Hp} {vs : List V} {fs : List (List Int)} {a : Addr} {xs : List Int} (h : FilesAt H vs fs) (q : H a = some (.lst (xs.map V.int))) : FilesAt H (vs ++ [.ref a]) (fs ++ [xs]) := by
  induction h with
  | nil => exact .cons q .nil
  | cons h _ ih => exact .cons h ih
def EndAt (H : Hp) : End → V → Prop
  | .done, v => ∃ a, v = .ref a ∧ H a = some (.tup [.str "end"])
  | .long, v => ∃ a, v = .ref a ∧ H a = some (.tup [.str "long"])
  | .fault w, v => ∃ a, v = .ref a ∧ H a = some (.tup [.str "fault", .str w])
def OutAt (H : Hp) (o : S × End) (v : V) : Prop := ∃ a fl sn nl ev fv, v = .ref a ∧ H a = some (.tup [.ref fl, .ref sn, ev, .ref nl, .int o.1.done]) ∧ H fl = some (.lst fv) ∧ FilesAt H fv o.1.files ∧ H sn = some (.lst (o.1.sent.map V.int)) ∧ EndAt H o.2 ev ∧ H nl = some (.lst (o.1.names.map V.int))
theorem EndAt.ref {H : Hp} {e : End} {v : V} (h : EndAt H e v) : ∃ a, v = .ref a := by
  cases e with
  | done => exact ⟨h.choose, h.choose_spec.1⟩
  | long => exact ⟨h.choose, h.choose_spec.1⟩
  | fault w => exact ⟨h.choose, h.choose_spec.1⟩
theorem EndAt.mono {H H' : Hp} (t : TK H H') {e : End} {v : V} (h : EndAt H e v) : EndAt H' e v := by
  cases e with
  | done => obtain ⟨a, e, q⟩ := h; exact ⟨a, e, t.get q⟩
  | long => obtain ⟨a, e, q⟩ := h; exact ⟨a, e, t.get q⟩
  | fault w => obtain ⟨a, e, q⟩ := h; exact ⟨a, e, t.get q⟩
theorem same_off2 {H H1 H2 : Hp} {d c : Addr} (s : Same H H1) (o : Off2 d c H1 H2) (h1 : H d = none) (h2 : H c = none) : Same H H2 := fun b u q => o b u (s b u q) (ne_of_none q h1) (ne_of_none q h2)
end Lw
set_option Elab.async false
set_option linter.all false
set_option maxRecDepth 100000
namespace Lw
open PySem L2
structure Chg where
  follows : Int
  fault : Option Str
  name : Option Int
  worth : Int
  takes : Int
  file : Option Int
  numbers : List Int
  letter : Option Int
def chg0 (s : S) : Chg := ⟨s.row + 1, none, none, 0, 0, none, [], none⟩
def chgM (hs : List Int) (s : S) : Row → Chg
  | .set n p => { chg0 s with name := some n, worth := p.val s.names }
  | .take n => if s.taken = hs.length then { chg0 s with fault := some "none" } else { chg0 s with name := some n, worth := hs.getD s.taken 0, takes := 1 }
  | .get n f p => if ((s.file f).length : Int) ≤ p.val s.names then { chg0 s with fault := some "place" } else { chg0 s with name := some n, worth := (s.file f).getD (p.val s.names).toNat 0 }
  | .size n f => { chg0 s with name := some n, worth := ((s.file f).length : Int) }
  | .add f p => if (s.file f).length = 40 then { chg0 s with fault := some "full" } else { chg0 s with file := some f, numbers := s.file f ++ [p.val s.names] }
  | .put f p q => if ((s.file f).length : Int) ≤ p.val s.names then { chg0 s with fault := some "place" } else { chg0 s with file := some f, numbers := (s.file f).set (p.val s.names).toNat (q.val s.names) }
  | .cut f p => { chg0 s with file := some f, numbers := (s.file f).take (p.val s.names).toNat }
  | .send p => { chg0 s with letter := some (p.val s.names) }
  | .go r => { chg0 s with follows := r }
  | .unl n r => if s.names.getD n.toNat 0 = 0 then { chg0 s with follows := r } else chg0 s
  | .mark => chg0 s
def Chg.names (c : Chg) (ns : List Int) : List Int := match c.name with | none => ns | some n => ns.set n.toNat c.worth
def Chg.files (c : Chg) (fs : List (List Int)) : List (List Int) := match c.file with | none => fs | some f => fs.set f.toNat c.numbers
def S.appC (s : S) (c : Chg) : S := ⟨c.follows, c.names s.names, s.taken + c.takes.toNat, s.done + 1, c.files s.files, s.sent ++ c.letter.toList⟩
theorem chg_step {hs : List Int} {s : S} {r : Row} : stepM hs s r = match (chgM hs s r).fault with | some w => .fault w | none => .next (s.appC (chgM hs s r)) := by
  cases r with
  | set n p => simp [stepM, chgM, S.appC, S.hold, chg0, Chg.names, Chg.files]
  | take n =>
    by_cases c : s.taken = hs.length
    · simp [stepM, chgM, c]
    · simp [stepM, chgM, c, S.appC, S.hold, chg0, Chg.names, Chg.files]
  | get n f p =>
    by_cases c : ((s.file f).length : Int) ≤ p.val s.names
    · simp [stepM, chgM, c]
    · simp [stepM, chgM, c, S.appC, S.hold, chg0, Chg.names, Chg.files]
  | size n f => simp [stepM, chgM, S.appC, S.hold, chg0, Chg.names, Chg.files]
  | add f p =>
    by_cases c : (s.file f).length = 40
    · simp [stepM, chgM, c]
    · simp [stepM, chgM, c, S.appC, S.fill, chg0, Chg.names, Chg.files]
  | put f p q =>
    by_cases c : ((s.file f).length : Int) ≤ p.val s.names
    · simp [stepM, chgM, c]
    · simp [stepM, chgM, c, S.appC, S.fill, chg0, Chg.names, Chg.files]
  | cut f p => simp [stepM, chgM, S.appC, S.fill, chg0, Chg.names, Chg.files]
  | send p => simp [stepM, chgM, S.appC, chg0, Chg.names, Chg.files]
  | go r => simp [stepM, chgM, S.appC, chg0, Chg.names, Chg.files]
  | unl n r =>
    by_cases c : s.names.getD n.toNat 0 = 0
    · simp only [stepM, chgM, if_pos c, S.appC, chg0, Chg.names, Chg.files]; simp
    · simp only [stepM, chgM, if_neg c, S.appC, chg0, Chg.names, Chg.files]; simp
  | mark => simp [stepM, chgM, S.appC, chg0, Chg.names, Chg.files]
theorem chg_fault {hs : List Int} {s : S} {r : Row} {w : Str} (h : (chgM hs s r).fault = some w) : stepM hs s r = .fault w := by rw [chg_step, h]
theorem chg_next {hs : List Int} {s : S} {r : Row} (h : (chgM hs s r).fault = none) : stepM hs s r = .next (s.appC (chgM hs s r)) := by rw [chg_step, h]
structure Chg.In (c : Chg) (nm fl : Int) : Prop where
  n : ∀ n, c.name = some n → 0 ≤ n ∧ n < nm
  f : ∀ f, c.file = some f → 0 ≤ f ∧ f < fl
  t : 0 ≤ c.takes
theorem chg_in {hs : List Int} {s : S} {r : Row} {nm fl m : Int} (ok : r.ok nm fl m) : (chgM hs s r).In nm fl := by
  cases r with
  | set n p => exact ⟨fun z e => by cases e; exact ⟨ok.1, ok.2.1⟩, (fun z e => by cases e), Int.le_refl _⟩
  | take n =>
    by_cases c : s.taken = hs.length
    · simp only [chgM, if_pos c]; exact ⟨(fun z e => by cases e), (fun z e => by cases e), Int.le_refl _⟩
    · simp only [chgM, if_neg c]; exact ⟨fun z e => by cases e; exact ⟨ok.1, ok.2⟩, (fun z e => by cases e), by show (0 : Int) ≤ 1; decide⟩
  | get n f p =>
    by_cases c : ((s.file f).length : Int) ≤ p.val s.names
    · simp only [chgM, if_pos c]; exact ⟨(fun z e => by cases e), (fun z e => by cases e), Int.le_refl _⟩
    · simp only [chgM, if_neg c]; exact ⟨fun z e => by cases e; exact ⟨ok.1, ok.2.1⟩, (fun z e => by cases e), Int.le_refl _⟩
  | size n f => exact ⟨fun z e => by cases e; exact ⟨ok.1, ok.2.1⟩, (fun z e => by cases e), Int.le_refl _⟩
  | add f p =>
    by_cases c : (s.file f).length = 40
    · simp only [chgM, if_pos c]; exact ⟨(fun z e => by cases e), (fun z e => by cases e), Int.le_refl _⟩
    · simp only [chgM, if_neg c]; exact ⟨(fun z e => by cases e), fun z e => by cases e; exact ⟨ok.1, ok.2.1⟩, Int.le_refl _⟩
  | put f p q =>
    by_cases c : ((s.file f).length : Int) ≤ p.val s.names
    · simp only [chgM, if_pos c]; exact ⟨(fun z e => by cases e), (fun z e => by cases e), Int.le_refl _⟩
    · simp only [chgM, if_neg c]; exact ⟨(fun z e => by cases e), fun z e => by cases e; exact ⟨ok.1, ok.2.1⟩, Int.le_refl _⟩
  | cut f p => exact ⟨(fun z e => by cases e), fun z e => by cases e; exact ⟨ok.1, ok.2.1⟩, Int.le_refl _⟩
  | send p => exact ⟨(fun z e => by cases e), (fun z e => by cases e), Int.le_refl _⟩
  | go r => exact ⟨(fun z e => by cases e), (fun z e => by cases e), Int.le_refl _⟩
  | unl n r =>
    by_cases c : s.names.getD n.toNat 0 = 0
    · simp only [chgM, if_pos c]; exact ⟨(fun z e => by cases e), (fun z e => by cases e), Int.le_refl _⟩
    · simp only [chgM, if_neg c]; exact ⟨(fun z e => by cases e), (fun z e => by cases e), Int.le_refl _⟩
  | mark => exact ⟨(fun z e => by cases e), (fun z e => by cases e), Int.le_refl _⟩
def optI : Option Int → V
  | none => .non
  | some n => .int n
def optS : Option Str → V
  | none => .non
  | some n => .str n
structure ChgAt (cC : Addr) (H : Hp) (ch nu : Addr) (e : Chg) : Prop where
  o : ∃ dy, H ch = some (.ins cC dy (cF (.int e.follows) (optS e.fault) (optI e.name) (.int e.worth) (.int e.takes) (optI e.file) (.ref nu) (optI e.letter)))
  l : H nu = some (.lst (e.numbers.map V.int))
theorem ChgAt.same {cC ch nu : Addr} {H H' : Hp} {e : Chg} (c : ChgAt cC H ch nu e) (s : Same H H') : ChgAt cC H' ch nu e := by
  obtain ⟨dy, h⟩ := c.o
  exact ⟨⟨dy, s _ _ h⟩, s _ _ c.l⟩
def endM (row : Int) (len : Nat) (done : Int) : Option End := if row = len then some .done else if done = 1000 then some .long else none
def EndO (H : Hp) (o : Option End) (v : V) : Prop := match o with | none => v = .non | some e => EndAt H e v
structure InAt (cI : Addr) (H : Hp) (ip nl : Addr) (row : Int) (ns : List Int) (tk dn lt : Int) : Prop where
  o : ∃ dx, H ip = some (.ins cI dx (iF (.int row) (.ref nl) (.int tk) (.int dn) (.int lt)))
  n : H nl = some (.lst (ns.map V.int))
theorem InAt.same {cI ip nl : Addr} {H H' : Hp} {row tk dn lt : Int} {ns : List Int} (c : InAt cI H ip nl row ns tk dn lt) (s : Same H H') : InAt cI H' ip nl row ns tk dn lt := by
  obtain ⟨dy, h⟩ := c.o
  exact ⟨⟨dy, s _ _ h⟩, s _ _ c.n⟩
end Lw
set_option Elab.async false
set_option linter.all false
set_option maxRecDepth 100000
namespace Lw
open PySem L2
theorem dp_ints (K : PySem.W.Frag) (H : Hp) : ∀ ns : List Int, DpAll K H (ns.map V.int) (ns.map PyData.int)
  | [] => .nil
  | n :: ns => .cons (.int n) (dp_ints K H ns)
theorem lay_ints : ∀ ns : List Int, PyData.canLayAll0 (ns.map PyData.int) = true ∧ PyData.depthAll (ns.map PyData.int) = 0
  | [] => ⟨by simp [PyData.canLayAll0], by simp [PyData.depthAll]⟩
  | n :: ns => by
    obtain ⟨h1, h2⟩ := lay_ints ns
    rw [List.map_cons]
    exact ⟨by simp [PyData.canLayAll0, PyData.canLay0, h1], by simp [PyData.depthAll, PyData.depth, h2]⟩
theorem lay_list (W : List Int) : PyData.canLay0 (.list (W.map .int)) = true := by simp [PyData.canLay0, lay_ints]
theorem shape_list (W : List Int) : SeqAt.shaped (.list (W.map .int)) = true := by
  unfold SeqAt.shaped
  rw [lay_list]
  simp [PyData.depth, lay_ints]
theorem go_neL {K : PySem.W.Frag} {H : Hp} {Q : VK} {a b : Addr} {ns : List Int} (h1 : H a = some (.lst (ns.map V.int))) (h2 : H b = some (.lst (ns.map V.int))) (q : Q (.bl false) H) : rNeD K (.ref a) (.ref b) H Q := by
  refine ⟨.list (ns.map .int), .list (ns.map .int), .lst (SqL.of h1) (dp_ints _ _ _), .lst (SqL.of h2) (dp_ints _ _ _), shape_list _, shape_list _, ?_⟩
  rw [show PyData.eqv (.list (ns.map .int)) (.list (ns.map .int)) = true from SeqAt.eqv_refl _ (lay_list _)]
  exact q
theorem good_out {p : Prog} {hs : List Int} (hok : p.Ok) (hN : Num hs) : ∀ (n : Nat) (s : S), Good p hs s → s.done + n ≤ 1000 → Good p hs (outM p hs n s).1
  | 0, s, g, _ => by
    unfold outM
    split <;> exact g
  | n + 1, s, g, h => by
    unfold outM
    split
    · exact g
    · rename_i c
      have r0 := g.r0
      have r1 := g.r1
      have hr : s.row.toNat < p.rows.length := by omega
      rw [List.getD_eq_getElem?_getD, List.getElem?_eq_getElem hr]
      show Good p hs (match stepM hs s (p.rows[s.row.toNat]) with | .fault w => (s, End.fault w) | .next s' => outM p hs n s').1
      cases e : stepM hs s (p.rows[s.row.toNat]) with
      | fault w => exact g
      | next s' =>
        have g' := g.step hN (by omega) (by omega) (hok.rw _ (List.getElem_mem hr)) e
        exact good_out hok hN n s' g' (by rw [step_done e]; omega)
theorem good_fin {p : Prog} {hs : List Int} (hok : p.Ok) (hN : Num hs) : Good p hs (Lw.fin p hs (s0 p)).1 := good_out hok hN _ _ (good0 p hs) (by show 0 + (1000 - 0) ≤ 1000; omega)
end Lw
set_option Elab.async false
set_option linter.all false
set_option maxRecDepth 100000
set_option maxHeartbeats 4000000
namespace Lw
open PySem L2
local macro_rules | `(tactic| walk_at "lw_hp") => `(tactic| (repeat (first | assumption | exact upd_same | (refine' upd_new (by assumption) ?_) | (refine' tup_off (by assumption) (by assumption) ?_) | (refine' lst_off (by assumption) (by assumption) (by assumption) ?_) | (refine' Same.get (by assumption) ?_) | (refine' Off.get (by assumption) (by assumption) ?_) | (refine' upd_oth (by assumption) ?_))))
local macro_rules | `(tactic| walk_at "lw_go") => `(tactic| (repeat (first | (with_reducible (first | refine go_var rfl ?_ | refine go_c ?_ | refine go_cons ?_ | refine go_op ?_ | refine go_nil ?_ | refine go_seq ?_ | refine go_qb ?_ | refine go_test ?_ | refine go_ifS ?_ | refine go_gname ?_ | refine go_cb ?_)) | ((with_reducible refine' go_ixT ?hp ?ha ?_); (case hp => walk_at "lw_hp"); (case ha => first | rfl | assumption)) | (with_reducible (first | refine go_asg ?_ | refine go_callC ?_ | refine go_next ?_ | refine go_tup ?_ | refine go_i0 ?_ | refine go_ret ?_ | refine go_dget ?_ | refine go_gcons ?_ | refine go_gsub ?_ | refine go_testB ?_)) | ((with_reducible refine' go_ixL ?hp ?ha ?_); (case hp => walk_at "lw_hp"); (case ha => first | rfl | assumption)) | (with_reducible (first | refine' go_ixLs (by assumption) (by assumption) ?_ | refine go_lst ?_)) | ((with_reducible refine' go_i ?cc ?_); (case cc => first | omega | (simp only [CDiv, CMul, CPow]; omega) | (simp only [CDiv, CMul, CPow]; decide))) | (with_reducible (first | refine go_drop ?_ | refine go_eqI ?_ | refine go_eqS ?_ | refine go_eqB ?_ | refine go_eq (by rfl) ?_ | refine go_gnil ?_ | refine go_iteT ?_ | refine go_iteF ?_ | refine go_iteNt ?_ | refine go_iteNf ?_ | refine go_iteNN ?_)) | (with_reducible refine go_iteDT (by first | assumption | rfl | omega | (simp only [List.length_cons, List.length_nil, List.length_map]; omega)) ?_) | (with_reducible refine go_iteDF (by first | assumption | omega | decide | decide +kernel | (simp only [List.length_cons, List.length_nil, List.length_map]; omega)) ?_) | (with_reducible refine go_iteNT (by first | assumption | rfl | omega | (simp only [List.length_cons, List.length_nil, List.length_map]; omega)) ?_) | (with_reducible refine go_iteNF (by first | assumption | omega | decide | decide +kernel | (simp only [List.length_cons, List.length_nil, List.length_map]; omega)) ?_) | (with_reducible refine go_iteBT (by first | assumption | decide +kernel) ?_) | (with_reducible refine go_iteBF (by first | assumption | decide +kernel) ?_) | (with_reducible (first | refine go_dput ?_ | refine go_setD ?_)) | ((with_reducible refine' go_gtup ?hp ?ha ?_); (case hp => walk_at "lw_hp"); (case ha => first | rfl | assumption)) | (with_reducible refine go_if ?_) | ((with_reducible refine' go_setL ?hp ?ha ?_); (case hp => walk_at "lw_hp"); (case ha => first | rfl | assumption)) | (with_reducible (first | refine go_not ?_ | refine go_or ?_ | refine go_andV ?_ | refine go_sl ?_ | refine go_nopart ?_ | refine go_part ?_ | refine go_qI ?_ | refine' go_lenLs (by assumption) ?_)) | ((with_reducible refine' go_lenL ?hp ?_); (case hp => walk_at "lw_hp")) | ((with_reducible refine' go_lenT ?hp ?_); (case hp => walk_at "lw_hp")) | ((with_reducible refine' go_inT ?hp ?ha ?hb ?_); (case hp => walk_at "lw_hp"); (case ha => rfl); (case hb => rfl)) | ((with_reducible refine' go_notInT ?hp ?ha ?hb ?_); (case hp => walk_at "lw_hp"); (case ha => rfl); (case hb => rfl)) | (with_reducible (first | refine go_pnil ?_ | refine go_pcons ?_ | refine go_un ?_ | refine go_u ?_ | refine go_for ?_ | refine go_rng1 ?_ | refine go_qrng1 (by omega) (by omega) ?_ | refine go_notN_non ?_ | refine go_notN_int ?_ | refine go_notN_str ?_ | refine go_notN_bl ?_ | refine go_notN_ref ?_ | refine go_min ?_ | refine go_bm ?_ | refine go_lc ?_)) | ((with_reducible refine' go_qbm ?hp ?_); (case hp => walk_at "lw_hp")) | (with_reducible (first | refine go_int ?_ | refine go_intB ?_ | refine go_yes ?_ | refine go_and ?_ | refine go_notV ?_ | refine go_iL ?_)) | ((with_reducible refine' go_glst ?hp ?ha ?_); (case hp => walk_at "lw_hp"); (case ha => first | rfl | assumption)) | ((with_reducible refine' go_qiL ?hp ?_); (case hp => walk_at "lw_hp")) | (with_reducible (first | refine go_par ?_ | refine go_gpar ?_ | refine go_isN_non ?_ | refine go_isN_int ?_ | refine go_isN_str ?_ | refine go_isN_bl ?_ | refine go_isN_ref ?_ | refine go_neI ?_ | refine go_neS ?_ | refine go_neB ?_ | refine go_iT ?_ | refine go_ne (by rfl) ?_)) | ((with_reducible refine' go_ixAL ?hp ?ha ?_); (case hp => walk_at "lw_hp"); (case ha => first | rfl | assumption)) | ((with_reducible refine' go_ixAT ?hp ?ha ?_); (case hp => walk_at "lw_hp"); (case ha => first | rfl | assumption)) | ((with_reducible refine' go_qiT ?hp ?_); (case hp => walk_at "lw_hp")) | (with_reducible (first | refine go_is_non_int ?_ | refine go_is_non_bool ?_ | refine go_is_non_str ?_ | refine go_is_non_tuple ?_ | refine go_is_non_list ?_ | refine go_is_bl_int ?_ | refine go_is_bl_bool ?_ | refine go_is_bl_str ?_ | refine go_is_bl_tuple ?_ | refine go_is_bl_list ?_ | refine go_is_int_int ?_ | refine go_is_int_bool ?_ | refine go_is_int_str ?_ | refine go_is_int_tuple ?_ | refine go_is_int_list ?_ | refine go_is_str_int ?_ | refine go_is_str_bool ?_ | refine go_is_str_str ?_ | refine go_is_str_tuple ?_ | refine go_is_str_list ?_)) | ((with_reducible refine' go_is_lst_int ?hp ?_); (case hp => walk_at "lw_hp")) | ((with_reducible refine' go_is_lst_bool ?hp ?_); (case hp => walk_at "lw_hp")) | ((with_reducible refine' go_is_lst_str ?hp ?_); (case hp => walk_at "lw_hp")) | ((with_reducible refine' go_is_lst_tuple ?hp ?_); (case hp => walk_at "lw_hp")) | ((with_reducible refine' go_is_lst_list ?hp ?_); (case hp => walk_at "lw_hp")) | ((with_reducible refine' go_is_tup_int ?hp ?_); (case hp => walk_at "lw_hp")) | ((with_reducible refine' go_is_tup_bool ?hp ?_); (case hp => walk_at "lw_hp")) | ((with_reducible refine' go_is_tup_str ?hp ?_); (case hp => walk_at "lw_hp")) | ((with_reducible refine' go_is_tup_tuple ?hp ?_); (case hp => walk_at "lw_hp")) | ((with_reducible refine' go_is_tup_list ?hp ?_); (case hp => walk_at "lw_hp")) | (with_reducible (first | refine go_max ?_ | refine go_bm0 ?_ | refine go_chain ?_ | refine go_qch ?_)) | ((with_reducible refine' go_qbm0 ?hp ?_); (case hp => walk_at "lw_hp")) | (with_reducible (first | refine go_retN ?_ | refine go_orV ?_ | refine go_whQ ?_ | refine go_rng2 ?_ | refine go_qrng2 (by omega) (by omega) (by omega) (by omega) ?_ | refine go_rvr ?_ | refine go_qrvr (by omega) (by omega) ?_ | refine go_enum ?_ | refine go_aug rfl ?_ | refine go_ipI ?_)) | ((with_reducible refine' go_qenum ?hp ?_); (case hp => walk_at "lw_hp")) | ((with_reducible refine' go_sumL ?hp ?_); (case hp => walk_at "lw_hp")))))
def top (i : Nat) : Stmt := PySem.Challenge.pw_longwork_k03_without_falls.main.body.getD i (.Pass ⟨0, 0, 0, 0⟩)
abbrev s__law_next : Stmt := top 47
abbrev s__law_dice : Stmt := top 46
structure Dice (K : PySem.W.Frag) (H : Hp) (d : Addr) : Prop where
  ex : ∃ (a : Addr) (ns : List Int) (i m r : Int), H d = some (.lst [.ref a, .int i, .int m, .int r]) ∧ Scr K H a ns ∧ ns.length ≤ 63 ∧ 0 ≤ i ∧ 0 ≤ m ∧ m < 2147483647
def spNext (K : PySem.W.Frag) : Sp := fun vs H Q _ => ∃ (d : Addr) (many : Int), vs = [.ref d, .int many] ∧ Dice K H d ∧ 0 < many ∧ many < 1073741824 ∧
  ∀ (r : Int) (H' : Hp), 0 ≤ r → r < many → Dice K H' d → Off d H H' → Q (.int r) H'
def spDice (K : PySem.W.Frag) : Sp := fun vs H Q _ => ∃ (a : Addr) (ns : List Int), vs = [.ref a] ∧ Scr K H a ns ∧ ns.length ≤ 63 ∧ ∀ (d : Addr) (H' : Hp), Same H H' → Dice K H' d → Q (.ref d) H'
structure Txt (mg : Str → Option Value) : Prop where
  n_len : mg "len" = none
  n_range : mg "range" = none
  n_isinstance : mg "isinstance" = none
  n_int : mg "int" = none
  n_bool : mg "bool" = none
  n_str : mg "str" = none
  n_tuple : mg "tuple" = none
  n_list : mg "list" = none
  n_min : mg "min" = none
  n_max : mg "max" = none
  n_enumerate : mg "enumerate" = none
  n_zip : mg "zip" = none
  g_MOST_NAMES : ∃ t, mg "MOST_NAMES" = some (.int 8 t)
  g_MOST_FILES : ∃ t, mg "MOST_FILES" = some (.int 4 t)
  g_MOST_ROWS : ∃ t, mg "MOST_ROWS" = some (.int 60 t)
  g_MOST_HANDED : ∃ t, mg "MOST_HANDED" = some (.int 40 t)
  g_MOST_DEEP : ∃ t, mg "MOST_DEEP" = some (.int 3 t)
  g_TOP : ∃ t, mg "TOP" = some (.int 10006 t)
  g_REST : ∃ t, mg "REST" = some (.int 10007 t)
  g_MOST_NUMBERS : ∃ t, mg "MOST_NUMBERS" = some (.int 40 t)
  g_MOST_DONE : ∃ t, mg "MOST_DONE" = some (.int 1000 t)
section
variable {P : Program} {w : World} {K : PySem.W.Frag} {mg : Str → Option Value} {base : Heap} {f : Addr} {fd : FuncData}
theorem scs__law_next : FnScope ["_law_dice_here", "_law_many", "_law_found", "_law_cell"] ["_law_dice_here", "_law_many"] (defScope s__law_next) := ⟨rfl, rfl, rfl, by decide +kernel, rfl, by decide +kernel, by decide +kernel⟩
theorem ok_next (F : Fun K "_law_next" "_law_next" s__law_next f fd) (T : Txt mg) : FnOk P w K mg base CX0 1 f fd ["_law_dice_here", "_law_many"] (spNext K) := by
  refine F.ok scs__law_next (fun vs H Q E h => ?_) (fun cdv A outer s H vs Q E hr h => ?_)
  · obtain ⟨d, many, rfl, _⟩ := h
    rfl
  obtain ⟨d, many, rfl, ⟨a, ns, i, m, r, hd, hS, hl, hi, hm0, hm1⟩, hk0, hk1, k⟩ := h
  have nd := scs__law_next.nd
  have hu := hu_of hr
  refine ⟨_, (pss_cons (ps_if (pt_cmpR op_gt (pe_ix (kIxL K) (pv 0) pe_int (fun _ _ => rfl)) pe_int (nomark _)) (pss_cons (ps_set (i := 2) nd rfl (Or.inl rfl) (pe_op op_mod (pe_ix (kIxL K) (pv 0) pe_int (fun _ _ => rfl)) (pv 1)))
      (pss_cons (ps_asg (pe_op op_fdiv (pe_ix (kIxL K) (pv 0) pe_int (fun _ _ => rfl)) (pv 1)) (pg_sub (pv 0) pe_int set_list))
      (pss_one (ps_ret (pv 2))))) pss_nil)
      (pss_cons (ps_asg (pe_op op_add (pe_ix (kIxL K) (pv 0) pe_int (fun _ _ => rfl)) pe_int) (pg_sub (pv 0) pe_int set_list))
      (pss_cons (ps_if (pt_cmpR op_le (pe_ix (kIxL K) (pv 0) pe_int (fun _ _ => rfl)) (pe_callB (kLen K) (by rfl) T.n_len (by decide +kernel) (pa_cons (pe_ix (kIxL K) (pv 0) pe_int (fun _ _ => rfl)) pa_nil)) (nomark _)) (pss_cons (ps_set (i := 3) nd rfl (Or.inl rfl) (pe_ix (kIxL K) (pe_ix (kIxL K) (pv 0) pe_int (fun _ _ => rfl)) (pe_op op_sub (pe_ix (kIxL K) (pv 0) pe_int (fun _ _ => rfl)) pe_int) (fun _ _ => rfl)))
      (pss_cons (ps_asg (pe_ifExp (pt_cmpR op_ge (pv 3) (pe_op op_pow pe_int pe_int) (nomark _)) (pe_op op_fdiv (pv 3) (pv 1)) pe_int) (pg_sub (pv 0) pe_int set_list))
      (pss_one (ps_ret (pe_op op_mod (pv 3) (pv 1)))))) pss_nil)
      (pss_cons (ps_asg (pe_op op_mod (pe_op op_mul (pe_ix (kIxL K) (pv 0) pe_int (fun _ _ => rfl)) pe_int) pe_int) (pg_sub (pv 0) pe_int set_list))
      (pss_one (ps_ret (pe_op op_mod (pe_op op_fdiv (pe_ix (kIxL K) (pv 0) pe_int (fun _ _ => rfl)) pe_int) (pv 1)))))))), ?_⟩
  walk_at "lw_go"
  refine go_iteD (fun c => ?_) (fun c => ?_)
  · walk_at "lw_go"
    exact k _ _ (Int.emod_nonneg _ (by omega)) (Int.emod_lt_of_pos _ hk0) ⟨a, ns, i, m, _, upd_same, hS.mono (TK.updL hd), hl, hi, hm0, hm1⟩ (off_upd _ _ _)
  · walk_at "lw_go"
    have hs1 := (hS.mono (TK.updL (o := HO.lst [V.ref a, V.int (i + 1), V.int m, V.int r]) hd)).sq
    refine go_lenLs hs1 ?_
    walk_at "lw_go"
    rw [List.length_map]
    refine go_iteD (fun c => ?_) (fun c => ?_)
    · obtain ⟨v, hv⟩ : ∃ v, ns[i.toNat]? = some v := ⟨_, List.getElem?_eq_getElem (by omega)⟩
      have hat : atI (ns.map V.int) (i + 1 - 1) = some (.int v) := by
        rw [show i + 1 - 1 = ((i.toNat : Nat) : Int) by omega]
        exact atI_nat (by rw [List.getElem?_map, hv]; rfl)
      walk_at "lw_go"
      refine go_ixLs hs1 hat ?_
      walk_at "lw_go"
      refine go_iteD (fun c => ?_) (fun c => ?_)
      all_goals
        walk_at "lw_go"
        have o1 : ∀ o, Off d H (upd (upd H d (HO.lst [V.ref a, V.int (i + 1), V.int m, V.int r])) d o) := fun o => (off_upd _ _ _).trans (off_upd _ d _)
        exact k _ _ (Int.emod_nonneg _ (by omega)) (Int.emod_lt_of_pos _ hk0) ⟨a, ns, i + 1, m, _, upd_same, hS.mono ((o1 _).tk hd), hl, by omega, hm0, hm1⟩ (o1 _)
    · walk_at "lw_go"
      have o1 : ∀ o, Off d H (upd (upd H d (HO.lst [V.ref a, V.int (i + 1), V.int m, V.int r])) d o) := fun o => (off_upd _ _ _).trans (off_upd _ d _)
      exact k _ _ (Int.emod_nonneg _ (by omega)) (Int.emod_lt_of_pos _ hk0) ⟨a, ns, i + 1, _, r, upd_same, hS.mono ((o1 _).tk hd), hl, by omega, Int.emod_nonneg _ (by omega), Int.emod_lt_of_pos _ (by omega)⟩ (o1 _)
theorem scs__law_dice : FnScope ["_law_script", "_law_mixed", "_law_cell"] ["_law_script"] (defScope s__law_dice) := ⟨rfl, rfl, rfl, by decide +kernel, rfl, by decide +kernel, by decide +kernel⟩
theorem ok_dice (F : Fun K "_law_dice" "_law_dice" s__law_dice f fd) (T : Txt mg) : FnOk P w K mg base CX0 1 f fd ["_law_script"] (spDice K) := by
  refine F.ok scs__law_dice (fun vs H Q E h => ?_) (fun cdv A outer s H vs Q E hr h => ?_)
  · obtain ⟨a, ns, rfl, _⟩ := h
    rfl
  obtain ⟨a, ns, rfl, hS, hl, k⟩ := h
  have hs := hS.sq
  have nd := scs__law_dice.nd
  have hu := hu_of hr
  refine ⟨_, (pss_cons (ps_set (i := 1) nd rfl (Or.inl rfl) pe_int)
      (pss_cons (ps_for PassesOwn.never rfl (kPiL K (pv 0)) (pg_name (i := 2) nd rfl (Or.inl rfl)) (pss_one (ps_set (i := 1) nd rfl (Or.inl rfl) (pe_op op_mod (pe_op op_add (pe_op op_add (pe_op op_mul (pv 1) pe_int) (pe_op op_mul (pe_op op_mod (pv 2) pe_int) pe_int)) pe_int) pe_int))))
      (pss_one (ps_ret (pe_lst (pa_cons (pv 0) (pa_cons pe_int (pa_cons (pe_op op_mul (pv 1) (pe_callTy c_int (by rfl) T.n_int (by decide +kernel) (pa_cons (pe_cmpR op_gt (pe_callB (kLen K) (by rfl) T.n_len (by decide +kernel) (pa_cons (pv 0) pa_nil)) pe_int (nomark _)) pa_nil))) (pa_cons pe_int pa_nil))))))))), ?_⟩
  walk_at "lw_go"
  refine go_qiLs hs ?_
  refine fq_list (ns.map V.int) (fun i σ H' => ∃ m v, σ = [some (.ref a), some (.int m), v] ∧ H' = H ∧ 0 ≤ m ∧ m < 2147483647) ⟨0, none, rfl, rfl, by omega, by omega⟩ ?_ ?_ ?_
  · rintro i σ H' _ ⟨m, v, rfl, rfl, _⟩
    exact hs
  · rintro i x σ H' hx ⟨m, v, rfl, rfl, h0, h1⟩
    obtain ⟨n, rfl⟩ : ∃ n, x = V.int n := by
      rw [List.getElem?_map] at hx
      cases e : ns[i]? with
      | none => rw [e] at hx; cases hx
      | some z => rw [e] at hx; exact ⟨z, (Option.some.inj hx).symm⟩
    walk_at "lw_go"
    exact ⟨_, _, rfl, rfl, Int.emod_nonneg _ (by omega), Int.emod_lt_of_pos _ (by omega)⟩
  · rintro σ H' ⟨m, v, rfl, rfl, h0, h1⟩
    walk_at "lw_go"
    refine go_qlst (Nat.le_of_ble_eq_true rfl) (fun p hp => ?_)
    refine k p _ (same_new hp _) ⟨a, ns, 0, _, 0, upd_same, hS.mono (TK.new hp), hl, Int.le_refl _, ?_, ?_⟩
    · split <;> omega
    · split <;> omega
end
theorem nx_go {K : PySem.W.Frag} {H : Hp} {d : Addr} {many : Int} {Q : VK} {E : XK} (D : Dice K H d) (h0 : 0 < many) (h1 : many < 1073741824) (k : ∀ (r : Int) (H' : Hp), 0 ≤ r → r < many → Dice K H' d → Off d H H' → Q (.int r) H') : spNext K [.ref d, .int many] H Q E := ⟨d, many, rfl, D, h0, h1, k⟩
theorem Dice.tk {K : PySem.W.Frag} {H H' : Hp} {d : Addr} (D : Dice K H d) (o : Off d H H') : TK H H' := by
  obtain ⟨a, ns, i, m, r, h, _⟩ := D.ex
  exact o.tk h
theorem Dice.same {K : PySem.W.Frag} {H H' : Hp} {d : Addr} (D : Dice K H d) (s : Same H H') : Dice K H' d := by
  obtain ⟨a, ns, i, m, r, h, hs, q⟩ := D.ex
  exact ⟨a, ns, i, m, r, s _ _ h, hs.mono s.tk, q⟩
theorem Dice.ne {K : PySem.W.Frag} {H : Hp} {d a : Addr} {xs : List V} (D : Dice K H d) (h : H a = some (.tup xs)) : a ≠ d := by
  obtain ⟨_, ns, i, m, r, hd, _⟩ := D.ex
  exact ne_of h hd (by intro z; cases z)
theorem Dice.nef {K : PySem.W.Frag} {H : Hp} {d p : Addr} (D : Dice K H d) (h : H p = none) : p ≠ d := by
  obtain ⟨_, ns, i, m, r, hd, _⟩ := D.ex
  exact (ne_of_none hd h).symm
theorem lst_off {K : PySem.W.Frag} {H H' H0 : Hp} {d p : Addr} {u : HO} (o : Off d H H') (hn : H0 p = none) (D : Dice K H0 d) (h : H p = some u) : H' p = some u := o _ _ h (D.nef hn)
theorem Dice.keep {K : PySem.W.Frag} {H H' : Hp} {d : Addr} (D : Dice K H d) (t : TK H H') (h : ∀ o, H d = some o → H' d = some o) : Dice K H' d := by
  obtain ⟨a, ns, i, m, r, hd, hs, q⟩ := D.ex
  exact ⟨a, ns, i, m, r, h _ hd, hs.mono t, q⟩
theorem Dice.updL {K : PySem.W.Frag} {H : Hp} {d p : Addr} {o : HO} {ys : List V} (D : Dice K H d) (h : H p = some (.lst ys)) (n : d ≠ p) : Dice K (upd H p o) d := D.keep (TK.updL h) fun u q => by rw [upd_ne n]; exact q
theorem off_fresh {d p : Addr} {H H' : Hp} {o : HO} (h : H p = none) (s : Off d H H') : Off d H (upd H' p o) := fun b u q n => by rw [upd_ne (ne_of_none q h)]; exact s b u q n
theorem tk_off {K : PySem.W.Frag} {H H' : Hp} {d : Addr} (o : Off d H H') (D : Dice K H d) : TK H H' := D.tk o
theorem tup_off {K : PySem.W.Frag} {H H' : Hp} {d a : Addr} {xs : List V} (o : Off d H H') (D : Dice K H d) (h : H a = some (.tup xs)) : H' a = some (.tup xs) := D.tk o a _ True.intro h
end Lw
set_option Elab.async false
set_option linter.all false
set_option maxRecDepth 100000
set_option maxHeartbeats 4000000
namespace Lw
open PySem L2
local macro_rules | `(tactic| walk_at "lw_hp") => `(tactic| (repeat (first | assumption | exact upd_same | (refine' upd_new (by assumption) ?_) | (refine' tup_off (by assumption) (by assumption) ?_) | (refine' lst_off (by assumption) (by assumption) (by assumption) ?_) | (refine' Same.get (by assumption) ?_) | (refine' Off.get (by assumption) (by assumption) ?_) | (refine' upd_oth (by assumption) ?_))))
local macro_rules | `(tactic| walk_at "lw_go") => `(tactic| (repeat (first | (with_reducible (first | refine go_var rfl ?_ | refine go_c ?_ | refine go_cons ?_ | refine go_op ?_ | refine go_nil ?_ | refine go_seq ?_ | refine go_qb ?_ | refine go_test ?_ | refine go_ifS ?_ | refine go_gname ?_ | refine go_cb ?_)) | ((with_reducible refine' go_ixT ?hp ?ha ?_); (case hp => walk_at "lw_hp"); (case ha => first | rfl | assumption)) | (with_reducible (first | refine go_asg ?_ | refine go_callC ?_ | refine go_next ?_ | refine go_tup ?_ | refine go_i0 ?_ | refine go_ret ?_ | refine go_dget ?_ | refine go_gcons ?_ | refine go_gsub ?_ | refine go_testB ?_)) | ((with_reducible refine' go_ixL ?hp ?ha ?_); (case hp => walk_at "lw_hp"); (case ha => first | rfl | assumption)) | (with_reducible (first | refine' go_ixLs (by assumption) (by assumption) ?_ | refine go_lst ?_)) | ((with_reducible refine' go_i ?cc ?_); (case cc => first | omega | (simp only [CDiv, CMul, CPow]; omega) | (simp only [CDiv, CMul, CPow]; decide))) | (with_reducible (first | refine go_drop ?_ | refine go_eqI ?_ | refine go_eqS ?_ | refine go_eqB ?_ | refine go_eq (by rfl) ?_ | refine go_gnil ?_ | refine go_iteT ?_ | refine go_iteF ?_ | refine go_iteNt ?_ | refine go_iteNf ?_ | refine go_iteNN ?_)) | (with_reducible refine go_iteDT (by first | assumption | rfl | omega | (simp only [List.length_cons, List.length_nil, List.length_map]; omega)) ?_) | (with_reducible refine go_iteDF (by first | assumption | omega | decide | decide +kernel | (simp only [List.length_cons, List.length_nil, List.length_map]; omega)) ?_) | (with_reducible refine go_iteNT (by first | assumption | rfl | omega | (simp only [List.length_cons, List.length_nil, List.length_map]; omega)) ?_) | (with_reducible refine go_iteNF (by first | assumption | omega | decide | decide +kernel | (simp only [List.length_cons, List.length_nil, List.length_map]; omega)) ?_) | (with_reducible refine go_iteBT (by first | assumption | decide +kernel) ?_) | (with_reducible refine go_iteBF (by first | assumption | decide +kernel) ?_) | (with_reducible (first | refine go_dput ?_ | refine go_setD ?_)) | ((with_reducible refine' go_gtup ?hp ?ha ?_); (case hp => walk_at "lw_hp"); (case ha => first | rfl | assumption)) | (with_reducible refine go_if ?_) | ((with_reducible refine' go_setL ?hp ?ha ?_); (case hp => walk_at "lw_hp"); (case ha => first | rfl | assumption)) | (with_reducible (first | refine go_not ?_ | refine go_or ?_ | refine go_andV ?_ | refine go_sl ?_ | refine go_nopart ?_ | refine go_part ?_ | refine go_qI ?_ | refine' go_lenLs (by assumption) ?_)) | ((with_reducible refine' go_lenL ?hp ?_); (case hp => walk_at "lw_hp")) | ((with_reducible refine' go_lenT ?hp ?_); (case hp => walk_at "lw_hp")) | ((with_reducible refine' go_inT ?hp ?ha ?hb ?_); (case hp => walk_at "lw_hp"); (case ha => rfl); (case hb => rfl)) | ((with_reducible refine' go_notInT ?hp ?ha ?hb ?_); (case hp => walk_at "lw_hp"); (case ha => rfl); (case hb => rfl)) | (with_reducible (first | refine go_pnil ?_ | refine go_pcons ?_ | refine go_un ?_ | refine go_u ?_ | refine go_for ?_ | refine go_rng1 ?_ | refine go_qrng1 (by omega) (by omega) ?_ | refine go_notN_non ?_ | refine go_notN_int ?_ | refine go_notN_str ?_ | refine go_notN_bl ?_ | refine go_notN_ref ?_ | refine go_min ?_ | refine go_bm ?_ | refine go_lc ?_)) | ((with_reducible refine' go_qbm ?hp ?_); (case hp => walk_at "lw_hp")) | (with_reducible (first | refine go_int ?_ | refine go_intB ?_ | refine go_yes ?_ | refine go_and ?_ | refine go_notV ?_ | refine go_iL ?_)) | ((with_reducible refine' go_glst ?hp ?ha ?_); (case hp => walk_at "lw_hp"); (case ha => first | rfl | assumption)) | ((with_reducible refine' go_qiL ?hp ?_); (case hp => walk_at "lw_hp")) | (with_reducible (first | refine go_par ?_ | refine go_gpar ?_ | refine go_isN_non ?_ | refine go_isN_int ?_ | refine go_isN_str ?_ | refine go_isN_bl ?_ | refine go_isN_ref ?_ | refine go_neI ?_ | refine go_neS ?_ | refine go_neB ?_ | refine go_iT ?_ | refine go_ne (by rfl) ?_)) | ((with_reducible refine' go_ixAL ?hp ?ha ?_); (case hp => walk_at "lw_hp"); (case ha => first | rfl | assumption)) | ((with_reducible refine' go_ixAT ?hp ?ha ?_); (case hp => walk_at "lw_hp"); (case ha => first | rfl | assumption)) | ((with_reducible refine' go_qiT ?hp ?_); (case hp => walk_at "lw_hp")) | (with_reducible (first | refine go_is_non_int ?_ | refine go_is_non_bool ?_ | refine go_is_non_str ?_ | refine go_is_non_tuple ?_ | refine go_is_non_list ?_ | refine go_is_bl_int ?_ | refine go_is_bl_bool ?_ | refine go_is_bl_str ?_ | refine go_is_bl_tuple ?_ | refine go_is_bl_list ?_ | refine go_is_int_int ?_ | refine go_is_int_bool ?_ | refine go_is_int_str ?_ | refine go_is_int_tuple ?_ | refine go_is_int_list ?_ | refine go_is_str_int ?_ | refine go_is_str_bool ?_ | refine go_is_str_str ?_ | refine go_is_str_tuple ?_ | refine go_is_str_list ?_)) | ((with_reducible refine' go_is_lst_int ?hp ?_); (case hp => walk_at "lw_hp")) | ((with_reducible refine' go_is_lst_bool ?hp ?_); (case hp => walk_at "lw_hp")) | ((with_reducible refine' go_is_lst_str ?hp ?_); (case hp => walk_at "lw_hp")) | ((with_reducible refine' go_is_lst_tuple ?hp ?_); (case hp => walk_at "lw_hp")) | ((with_reducible refine' go_is_lst_list ?hp ?_); (case hp => walk_at "lw_hp")) | ((with_reducible refine' go_is_tup_int ?hp ?_); (case hp => walk_at "lw_hp")) | ((with_reducible refine' go_is_tup_bool ?hp ?_); (case hp => walk_at "lw_hp")) | ((with_reducible refine' go_is_tup_str ?hp ?_); (case hp => walk_at "lw_hp")) | ((with_reducible refine' go_is_tup_tuple ?hp ?_); (case hp => walk_at "lw_hp")) | ((with_reducible refine' go_is_tup_list ?hp ?_); (case hp => walk_at "lw_hp")) | (with_reducible (first | refine go_max ?_ | refine go_bm0 ?_ | refine go_chain ?_ | refine go_qch ?_)) | ((with_reducible refine' go_qbm0 ?hp ?_); (case hp => walk_at "lw_hp")) | (with_reducible (first | refine go_retN ?_ | refine go_orV ?_ | refine go_whQ ?_ | refine go_rng2 ?_ | refine go_qrng2 (by omega) (by omega) (by omega) (by omega) ?_ | refine go_rvr ?_ | refine go_qrvr (by omega) (by omega) ?_ | refine go_enum ?_ | refine go_aug rfl ?_ | refine go_ipI ?_)) | ((with_reducible refine' go_qenum ?hp ?_); (case hp => walk_at "lw_hp")) | ((with_reducible refine' go_sumL ?hp ?_); (case hp => walk_at "lw_hp")))))
abbrev s__law_like : Stmt := top 48
def Like : Nat → Hp → V → V → Prop
  | 0, _, _, _ => False
  | n + 1, H, x, y => (x = y ∧ ((∃ i, x = .int i) ∨ (∃ t, x = .str t) ∨ (∃ b, x = .bl b) ∨ x = .non)) ∨
    ∃ a b xs ys, x = .ref a ∧ y = .ref b ∧ ((H a = some (.tup xs) ∧ H b = some (.tup ys)) ∨ (H a = some (.lst xs) ∧ H b = some (.lst ys))) ∧ xs.length = ys.length ∧ ys.length ≤ 5000 ∧ ∀ (i : Nat) x' y', xs[i]? = some x' → ys[i]? = some y' → Like n H x' y'
def spLike (n : Nat) : Sp := fun vs H Q _ => ∃ x y, vs = [x, y] ∧ Like n H x y ∧ Q (.bl true) H
section
variable {P : Program} {w : World} {K : PySem.W.Frag} {mg : Str → Option Value} {base : Heap} {f : Addr} {fd : FuncData}
theorem scs__law_like : FnScope ["_law_found", "_law_due", "_law_k"] ["_law_found", "_law_due"] (defScope s__law_like) := ⟨rfl, rfl, rfl, by decide +kernel, rfl, by decide +kernel, by decide +kernel⟩
theorem ok_like {n : Nat} (F : Fun K "_law_like" "_law_like" s__law_like f fd) (T : Txt mg) (C_law_like : FnC P w K mg base n "_law_like" ["_law_found", "_law_due"] (spLike n)) : FnOk P w K mg base CX0 (n + 1) f fd ["_law_found", "_law_due"] (spLike (n + 1)) := by
  refine F.ok scs__law_like (fun vs H Q E h => ?_) (fun cdv A outer s H vs Q E hr h => ?_)
  · obtain ⟨x, y, rfl, _⟩ := h
    rfl
  obtain ⟨x, y, rfl, hL, k⟩ := h
  have nd := scs__law_like.nd
  have hu := hu_of hr
  refine ⟨_, (pss_cons (ps_if (pt_val (pe_callB (kIsinst K) (by rfl) T.n_isinstance (by decide +kernel) (pa_cons (pv 1) (pa_cons (pe_bltn (v := .ty "bool") (by rfl) T.n_bool (by decide +kernel) rfl) pa_nil)))) (pss_one (ps_ret (pe_and (pe_callB (kIsinst K) (by rfl) T.n_isinstance (by decide +kernel) (pa_cons (pv 0) (pa_cons (pe_bltn (v := .ty "bool") (by rfl) T.n_bool (by decide +kernel) rfl) pa_nil))) (pe_one (pe_cmpR op_eq (pv 0) (pv 1) (nomark _)))))) pss_nil)
      (pss_cons (ps_if (pt_val (pe_callB (kIsinst K) (by rfl) T.n_isinstance (by decide +kernel) (pa_cons (pv 1) (pa_cons (pe_bltn (v := .ty "str") (by rfl) T.n_str (by decide +kernel) rfl) pa_nil)))) (pss_one (ps_ret (pe_and (pe_callB (kIsinst K) (by rfl) T.n_isinstance (by decide +kernel) (pa_cons (pv 0) (pa_cons (pe_bltn (v := .ty "str") (by rfl) T.n_str (by decide +kernel) rfl) pa_nil))) (pe_one (pe_cmpR op_eq (pv 0) (pv 1) (nomark _)))))) pss_nil)
      (pss_cons (ps_if (pt_val (pe_callB (kIsinst K) (by rfl) T.n_isinstance (by decide +kernel) (pa_cons (pv 1) (pa_cons (pe_bltn (v := .ty "int") (by rfl) T.n_int (by decide +kernel) rfl) pa_nil)))) (pss_one (ps_ret (pe_and (pe_callB (kIsinst K) (by rfl) T.n_isinstance (by decide +kernel) (pa_cons (pv 0) (pa_cons (pe_bltn (v := .ty "int") (by rfl) T.n_int (by decide +kernel) rfl) pa_nil))) (pe_and (pe_not (pe_callB (kIsinst K) (by rfl) T.n_isinstance (by decide +kernel) (pa_cons (pv 0) (pa_cons (pe_bltn (v := .ty "bool") (by rfl) T.n_bool (by decide +kernel) rfl) pa_nil)))) (pe_one (pe_cmpR op_eq (pv 0) (pv 1) (nomark _))))))) pss_nil)
      (pss_cons (ps_if (pt_cmpR o_isN (pv 1) pe_non (nomark _)) (pss_one (ps_ret (pe_cmpR o_isN (pv 0) pe_non (nomark _)))) pss_nil)
      (pss_cons (ps_if (PW.pt (pw_or (pt_cmpR op_ne (pe_callB (kIsinst K) (by rfl) T.n_isinstance (by decide +kernel) (pa_cons (pv 1) (pa_cons (pe_bltn (v := .ty "tuple") (by rfl) T.n_tuple (by decide +kernel) rfl) pa_nil))) (pe_callB (kIsinst K) (by rfl) T.n_isinstance (by decide +kernel) (pa_cons (pv 0) (pa_cons (pe_bltn (v := .ty "tuple") (by rfl) T.n_tuple (by decide +kernel) rfl) pa_nil))) (nomark _)) (pw_or1 (pt_cmpR op_ne (pe_callB (kIsinst K) (by rfl) T.n_isinstance (by decide +kernel) (pa_cons (pv 1) (pa_cons (pe_bltn (v := .ty "list") (by rfl) T.n_list (by decide +kernel) rfl) pa_nil))) (pe_callB (kIsinst K) (by rfl) T.n_isinstance (by decide +kernel) (pa_cons (pv 0) (pa_cons (pe_bltn (v := .ty "list") (by rfl) T.n_list (by decide +kernel) rfl) pa_nil))) (nomark _))))) (pss_one (ps_ret pe_bl)) pss_nil)
      (pss_cons (ps_if (pt_cmpR op_ne (pe_callB (kLen K) (by rfl) T.n_len (by decide +kernel) (pa_cons (pv 0) pa_nil)) (pe_callB (kLen K) (by rfl) T.n_len (by decide +kernel) (pa_cons (pv 1) pa_nil)) (nomark _)) (pss_one (ps_ret pe_bl)) pss_nil)
      (pss_cons (ps_for PassesOwn.never rfl (pi_range1 (by rfl) T.n_range (pa_cons (pe_callB (kLen K) (by rfl) T.n_len (by decide +kernel) (pa_cons (pv 1) pa_nil)) pa_nil)) (pg_name (i := 2) nd rfl (Or.inl rfl)) (pss_one (ps_if (pt_not (pt_val (pe_callC C_law_like (hr.mono (by omega)) (by rfl) (pa_cons (pe_ix (kIx K) (pv 0) (pv 2) (fun _ _ => rfl)) (pa_cons (pe_ix (kIx K) (pv 1) (pv 2) (fun _ _ => rfl)) pa_nil))))) (pss_one (ps_ret pe_bl)) pss_nil)))
      (pss_one (ps_ret pe_bl))))))))), ?_⟩
  unfold Like at hL
  rcases hL with ⟨rfl, ⟨i, rfl⟩ | ⟨t, rfl⟩ | ⟨b, rfl⟩ | rfl⟩ | ⟨a, b, xs, ys, rfl, rfl, ht, hl, hm, hi⟩
  · walk_at "lw_go"
    rw [decide_eq_true rfl]; exact k
  · walk_at "lw_go"
    rw [decide_eq_true rfl]; exact k
  · walk_at "lw_go"
    rw [decide_eq_true rfl]; exact k
  · walk_at "lw_go"
    exact k
  · rcases ht with ⟨h1, h2⟩ | ⟨h1, h2⟩
    all_goals
      walk_at "lw_go"
      refine fq_range (fun i σ H' => ∃ v, σ = [some (.ref a), some (.ref b), v] ∧ H' = H) ⟨none, rfl, rfl⟩ ?_ ?_
      · rintro i σ H' hlt ⟨v, rfl, rfl⟩
        obtain ⟨x', hx⟩ : ∃ v, xs[i]? = some v := ⟨_, List.getElem?_eq_getElem (by omega)⟩
        obtain ⟨y', hy⟩ : ∃ v, ys[i]? = some v := ⟨_, List.getElem?_eq_getElem (by omega)⟩
        have e1 := atI_0n hx
        have e2 := atI_0n hy
        walk_at "lw_go"
        refine ⟨x', y', rfl, hi i x' y' hx hy, ?_⟩
        walk_at "lw_go"
        exact ⟨_, rfl, rfl⟩
      · rintro σ H' ⟨v, rfl, rfl⟩
        walk_at "lw_go"
        exact k
theorem no_like : FnOk P w K mg base CX0 0 f fd ["_law_found", "_law_due"] (spLike 0) :=
  ⟨fun vs H Q E h => by obtain ⟨x, y, rfl, h, _⟩ := h; exact h.elim, fun A outer s H args us vs Q E _ _ _ _ h => by obtain ⟨x, y, rfl, h, _⟩ := h; exact h.elim⟩
theorem c_like (F : Fun K "_law_like" "_law_like" s__law_like f fd) (b : Binds K fd ["_law_found", "_law_due"] []) (m : mg "_law_like" = some (.ref f)) (T : Txt mg) : ∀ n : Nat, FnC P w K mg base n "_law_like" ["_law_found", "_law_due"] (spLike n)
  | 0 => ⟨f, fd, no_like, m, F.kp, b⟩
  | n + 1 => ⟨f, fd, ok_like F T (c_like F b m T n), m, F.kp, b⟩
end
end Lw
set_option Elab.async false
set_option linter.all false
set_option maxRecDepth 100000
set_option maxHeartbeats 4000000
namespace Lw
open PySem L2
local macro_rules | `(tactic| walk_at "lw_hp") => `(tactic| (repeat (first | assumption | exact upd_same | (refine' upd_new (by assumption) ?_) | (refine' tup_off (by assumption) (by assumption) ?_) | (refine' lst_off (by assumption) (by assumption) (by assumption) ?_) | (refine' Same.get (by assumption) ?_) | (refine' Off.get (by assumption) (by assumption) ?_) | (refine' upd_oth (by assumption) ?_))))
set_option hygiene false in
local macro_rules | `(tactic| walk_at "lw_gon") => `(tactic| (repeat (first | (with_reducible (first | refine go_var rfl ?_ | refine go_c ?_ | refine go_cons ?_ | refine go_op ?_ | refine go_nil ?_ | refine go_seq ?_ | refine go_qb ?_ | refine go_test ?_ | refine go_ifS ?_ | refine go_gname ?_ | refine go_cb ?_)) | ((with_reducible refine' go_ixT ?hp ?ha ?_); (case hp => walk_at "lw_hp"); (case ha => first | rfl | assumption)) | (with_reducible (first | refine go_asg ?_ | refine go_callC ?_ | refine go_next ?_ | refine go_tup ?_ | refine' go_qtup (Nat.le_of_ble_eq_true rfl) (fun p hp => ?_) | refine go_i0 ?_ | refine go_ret ?_ | refine go_dget ?_ | refine go_gcons ?_ | refine go_gsub ?_ | refine go_testB ?_)) | (with_reducible refine' nx_go (by first | assumption | exact Dice.same (by assumption) (same_new (by assumption) _)) (by omega) (by omega) (fun r H' r0 r1 D' o' => ?_)) | ((with_reducible refine' go_ixL ?hp ?ha ?_); (case hp => walk_at "lw_hp"); (case ha => first | rfl | assumption)) | (with_reducible (first | refine' go_ixLs (by assumption) (by assumption) ?_ | refine' go_qlst (Nat.le_of_ble_eq_true rfl) (fun p hp => ?_) | refine go_lst ?_)) | ((with_reducible refine' go_i ?cc ?_); (case cc => first | omega | (simp only [CDiv, CMul, CPow]; omega) | (simp only [CDiv, CMul, CPow]; decide))) | (with_reducible (first | refine go_drop ?_ | refine go_eqI ?_ | refine go_eqS ?_ | refine go_eqB ?_ | refine go_eq (by rfl) ?_ | refine go_gnil ?_ | refine go_iteT ?_ | refine go_iteF ?_ | refine go_iteNt ?_ | refine go_iteNf ?_ | refine go_iteNN ?_)) | (with_reducible refine go_iteDT (by first | assumption | rfl | omega | (simp only [List.length_cons, List.length_nil, List.length_map]; omega)) ?_) | (with_reducible refine go_iteDF (by first | assumption | omega | decide | decide +kernel | (simp only [List.length_cons, List.length_nil, List.length_map]; omega)) ?_) | (with_reducible refine go_iteNT (by first | assumption | rfl | omega | (simp only [List.length_cons, List.length_nil, List.length_map]; omega)) ?_) | (with_reducible refine go_iteNF (by first | assumption | omega | decide | decide +kernel | (simp only [List.length_cons, List.length_nil, List.length_map]; omega)) ?_) | (with_reducible refine go_iteBT (by first | assumption | decide +kernel) ?_) | (with_reducible refine go_iteBF (by first | assumption | decide +kernel) ?_) | (with_reducible (first | refine go_dput ?_ | refine go_setD ?_)) | ((with_reducible refine' go_gtup ?hp ?ha ?_); (case hp => walk_at "lw_hp"); (case ha => first | rfl | assumption)) | (with_reducible refine go_if ?_) | ((with_reducible refine' go_setL ?hp ?ha ?_); (case hp => walk_at "lw_hp"); (case ha => first | rfl | assumption)) | (with_reducible (first | refine go_not ?_ | refine go_or ?_ | refine go_andV ?_ | refine go_sl ?_ | refine go_nopart ?_ | refine go_part ?_ | refine go_qI ?_ | refine' go_lenLs (by assumption) ?_)) | ((with_reducible refine' go_lenL ?hp ?_); (case hp => walk_at "lw_hp")) | ((with_reducible refine' go_lenT ?hp ?_); (case hp => walk_at "lw_hp")) | ((with_reducible refine' go_inT ?hp ?ha ?hb ?_); (case hp => walk_at "lw_hp"); (case ha => rfl); (case hb => rfl)) | ((with_reducible refine' go_notInT ?hp ?ha ?hb ?_); (case hp => walk_at "lw_hp"); (case ha => rfl); (case hb => rfl)) | (with_reducible (first | refine go_pnil ?_ | refine go_pcons ?_ | refine go_un ?_ | refine go_u ?_ | refine go_for ?_ | refine go_rng1 ?_ | refine go_qrng1 (by omega) (by omega) ?_ | refine go_notN_non ?_ | refine go_notN_int ?_ | refine go_notN_str ?_ | refine go_notN_bl ?_ | refine go_notN_ref ?_ | refine go_min ?_ | refine go_bm ?_ | refine go_lc ?_)) | ((with_reducible refine' go_qbm ?hp ?_); (case hp => walk_at "lw_hp")) | (with_reducible (first | refine go_int ?_ | refine go_intB ?_ | refine go_yes ?_ | refine go_and ?_ | refine go_notV ?_ | refine go_iL ?_)) | ((with_reducible refine' go_glst ?hp ?ha ?_); (case hp => walk_at "lw_hp"); (case ha => first | rfl | assumption)) | ((with_reducible refine' go_qiL ?hp ?_); (case hp => walk_at "lw_hp")) | (with_reducible (first | refine go_par ?_ | refine go_gpar ?_ | refine go_isN_non ?_ | refine go_isN_int ?_ | refine go_isN_str ?_ | refine go_isN_bl ?_ | refine go_isN_ref ?_ | refine go_neI ?_ | refine go_neS ?_ | refine go_neB ?_ | refine go_iT ?_ | refine go_ne (by rfl) ?_)) | ((with_reducible refine' go_ixAL ?hp ?ha ?_); (case hp => walk_at "lw_hp"); (case ha => first | rfl | assumption)) | ((with_reducible refine' go_ixAT ?hp ?ha ?_); (case hp => walk_at "lw_hp"); (case ha => first | rfl | assumption)) | ((with_reducible refine' go_qiT ?hp ?_); (case hp => walk_at "lw_hp")) | (with_reducible (first | refine go_is_non_int ?_ | refine go_is_non_bool ?_ | refine go_is_non_str ?_ | refine go_is_non_tuple ?_ | refine go_is_non_list ?_ | refine go_is_bl_int ?_ | refine go_is_bl_bool ?_ | refine go_is_bl_str ?_ | refine go_is_bl_tuple ?_ | refine go_is_bl_list ?_ | refine go_is_int_int ?_ | refine go_is_int_bool ?_ | refine go_is_int_str ?_ | refine go_is_int_tuple ?_ | refine go_is_int_list ?_ | refine go_is_str_int ?_ | refine go_is_str_bool ?_ | refine go_is_str_str ?_ | refine go_is_str_tuple ?_ | refine go_is_str_list ?_)) | ((with_reducible refine' go_is_lst_int ?hp ?_); (case hp => walk_at "lw_hp")) | ((with_reducible refine' go_is_lst_bool ?hp ?_); (case hp => walk_at "lw_hp")) | ((with_reducible refine' go_is_lst_str ?hp ?_); (case hp => walk_at "lw_hp")) | ((with_reducible refine' go_is_lst_tuple ?hp ?_); (case hp => walk_at "lw_hp")) | ((with_reducible refine' go_is_lst_list ?hp ?_); (case hp => walk_at "lw_hp")) | ((with_reducible refine' go_is_tup_int ?hp ?_); (case hp => walk_at "lw_hp")) | ((with_reducible refine' go_is_tup_bool ?hp ?_); (case hp => walk_at "lw_hp")) | ((with_reducible refine' go_is_tup_str ?hp ?_); (case hp => walk_at "lw_hp")) | ((with_reducible refine' go_is_tup_tuple ?hp ?_); (case hp => walk_at "lw_hp")) | ((with_reducible refine' go_is_tup_list ?hp ?_); (case hp => walk_at "lw_hp")) | (with_reducible (first | refine go_max ?_ | refine go_bm0 ?_ | refine go_chain ?_ | refine go_qch ?_)) | ((with_reducible refine' go_qbm0 ?hp ?_); (case hp => walk_at "lw_hp")) | (with_reducible (first | refine go_retN ?_ | refine go_orV ?_ | refine go_whQ ?_ | refine go_rng2 ?_ | refine go_qrng2 (by omega) (by omega) (by omega) (by omega) ?_ | refine go_rvr ?_ | refine go_qrvr (by omega) (by omega) ?_ | refine go_enum ?_ | refine go_aug rfl ?_ | refine go_ipI ?_)) | ((with_reducible refine' go_qenum ?hp ?_); (case hp => walk_at "lw_hp")) | ((with_reducible refine' go_sumL ?hp ?_); (case hp => walk_at "lw_hp")))))
abbrev s__law_any_part : Stmt := top 49
def spPart (K : PySem.W.Frag) (n : Nat) : Sp := fun vs H Q _ => ∃ (d : Addr) (nm dp : Int), vs = [.ref d, .int nm, .int dp] ∧ Dice K H d ∧ 1 ≤ nm ∧ nm ≤ 8 ∧ 1 ≤ dp ∧ dp ≤ n ∧
  ∀ (v : V) (p : Part) (H' : Hp), p.ok nm dp.toNat → PartAt H' p v → Dice K H' d → Off d H H' → Q v H'
section
variable {P : Program} {w : World} {K : PySem.W.Frag} {mg : Str → Option Value} {base : Heap} {f : Addr} {fd : FuncData}
theorem scs__law_any_part : FnScope ["_law_d", "_law_names", "_law_deep", "_law_way", "_law_one"] ["_law_d", "_law_names", "_law_deep"] (defScope s__law_any_part) := ⟨rfl, rfl, rfl, by decide +kernel, rfl, by decide +kernel, by decide +kernel⟩
theorem ok_part {n : Nat} (F : Fun K "_law_any_part" "_law_any_part" s__law_any_part f fd) (T : Txt mg) (C_law_next : FnC P w K mg base 1 "_law_next" ["_law_dice_here", "_law_many"] (spNext K)) (C_law_any_part : FnC P w K mg base (n + 1) "_law_any_part" ["_law_d", "_law_names", "_law_deep"] (spPart K n)) : FnOk P w K mg base CX0 (n + 2) f fd ["_law_d", "_law_names", "_law_deep"] (spPart K (n + 1)) := by
  refine F.ok scs__law_any_part (fun vs H Q E h => ?_) (fun cdv A outer s H vs Q E hr h => ?_)
  · obtain ⟨d, nm, dp, rfl, _⟩ := h
    rfl
  obtain ⟨d, nm, dp, rfl, D, hn1, hn2, hd1, hd2, k⟩ := h
  have nd := scs__law_any_part.nd
  have hu := hu_of hr
  refine ⟨_, (pss_cons (ps_set (i := 3) nd rfl (Or.inl rfl) (pe_callC C_law_next (hr.mono (by omega)) (by rfl) (pa_cons (pv 0) (pa_cons pe_int pa_nil))))
      (pss_cons (ps_if (PW.pt (pw_and (pt_cmpR op_gt (pv 2) pe_int (nomark _)) (pw_and1 (pt_cmpR op_lt (pv 3) pe_int (nomark _))))) (pss_cons (ps_set (i := 4) nd rfl (Or.inl rfl) (pe_callC C_law_any_part (hr.mono (by omega)) (by rfl) (pa_cons (pv 0) (pa_cons (pv 1) (pa_cons (pe_op op_sub (pv 2) pe_int) pa_nil)))))
      (pss_one (ps_ret (pe_tup (pa_cons (pe_ix (kIxL K) (pe_lst (pa_cons pe_str (pa_cons pe_str (pa_cons pe_str pa_nil)))) (pe_callC C_law_next (hr.mono (by omega)) (by rfl) (pa_cons (pv 0) (pa_cons pe_int pa_nil))) (fun _ _ => rfl)) (pa_cons (pv 4) (pa_cons (pe_callC C_law_any_part (hr.mono (by omega)) (by rfl) (pa_cons (pv 0) (pa_cons (pv 1) (pa_cons (pe_op op_sub (pv 2) pe_int) pa_nil)))) pa_nil))))))) pss_nil)
      (pss_cons (ps_if (pt_cmpR op_lt (pv 3) pe_int (nomark _)) (pss_one (ps_ret (pe_tup (pa_cons pe_str (pa_cons (pe_callC C_law_next (hr.mono (by omega)) (by rfl) (pa_cons (pv 0) (pa_cons (pv 1) pa_nil))) pa_nil))))) pss_nil)
      (pss_one (ps_ret (pe_tup (pa_cons pe_str (pa_cons (pe_ix (kIxL K) (pe_lst (pa_cons (pe_callC C_law_next (hr.mono (by omega)) (by rfl) (pa_cons (pv 0) (pa_cons pe_int pa_nil))) (pa_cons (pe_callC C_law_next (hr.mono (by omega)) (by rfl) (pa_cons (pv 0) (pa_cons pe_int pa_nil))) pa_nil))) (pe_op op_mul (pe_op op_mod (pv 3) pe_int) (pe_callC C_law_next (hr.mono (by omega)) (by rfl) (pa_cons (pv 0) (pa_cons pe_int pa_nil)))) (fun _ _ => rfl)) pa_nil)))))))), ?_⟩
  obtain ⟨m, hm⟩ : ∃ m, dp.toNat = m + 1 := ⟨dp.toNat - 1, by omega⟩
  rw [hm] at k
  walk_at "lw_gon"
  rename Int => wy
  refine go_iteD (fun c1 => ?_) (fun c1 => ?_)
  · walk_at "lw_gon"
    refine go_iteD (fun c2 => ?_) (fun c2 => ?_)
    ·
      walk_at "lw_gon"
      refine ⟨d, nm, dp - 1, rfl, D', hn1, hn2, by omega, by omega, fun v1 p1 H1 k1 a1 D1 o1 => ?_⟩
      walk_at "lw_gon"
      obtain ⟨o, ho⟩ := at_op3 (r := _) (by assumption) (by assumption)
      walk_at "lw_gon"
      refine ⟨d, nm, dp - 1, rfl, by assumption, hn1, hn2, by omega, by omega, fun v2 p2 H2 k2 a2 D2 o2 => ?_⟩
      walk_at "lw_gon"
      have e1 : (dp - 1).toNat = m := by omega
      rw [e1] at k1 k2
      refine k _ (.op o p1 p2) _ ⟨k1, k2⟩ ⟨p, v1, v2, rfl, upd_same, a1.mono ?_, a2.mono ?_⟩ (D2.same (same_new hp _)) ?_
      · (repeat (first | assumption | exact TK.refl _ | (refine' TK.trans ?_ (TK.new (by assumption))) | (refine' TK.trans ?_ (tk_off (by assumption) (by first | assumption | exact Dice.same (by assumption) (same_new (by assumption) _))))))
      · (repeat (first | assumption | exact TK.refl _ | (refine' TK.trans ?_ (TK.new (by assumption))) | (refine' TK.trans ?_ (tk_off (by assumption) (by first | assumption | exact Dice.same (by assumption) (same_new (by assumption) _))))))
      · (repeat (first | assumption | exact Off.refl _ _ | (refine' Off.trans ?_ (Same.off (same_new (by assumption) _))) | (refine' Off.trans ?_ (by assumption))))
    · walk_at "lw_gon"
      refine go_iteD (fun c3 => ?_) (fun c3 => ?_)
      · walk_at "lw_gon"
        exact k _ (.name r) _ ⟨r0, r1⟩ ⟨p, rfl, upd_same⟩ (D'.same (same_new hp _)) (by (repeat (first | assumption | exact Off.refl _ _ | (refine' Off.trans ?_ (Same.off (same_new (by assumption) _))) | (refine' Off.trans ?_ (by assumption)))))
      · walk_at "lw_gon"
        have hb : 0 ≤ wy % 2 * r ∧ wy % 2 * r < 2 := by
          rcases (by omega : wy % 2 = 0 ∨ wy % 2 = 1) with e | e <;> rw [e] <;> omega
        obtain ⟨z, hz, hz'⟩ := at_two (x := V.int _) (y := V.int _) hb.1 hb.2
        walk_at "lw_gon"
        rcases hz' with rfl | rfl
        · exact k _ (.num _) _ ⟨by assumption, by omega⟩ ⟨p, rfl, upd_same⟩ (D'.same (same_new hp _)) (by (repeat (first | assumption | exact Off.refl _ _ | (refine' Off.trans ?_ (Same.off (same_new (by assumption) _))) | (refine' Off.trans ?_ (by assumption)))))
        · exact k _ (.num _) _ ⟨by assumption, by omega⟩ ⟨p, rfl, upd_same⟩ (D'.same (same_new hp _)) (by (repeat (first | assumption | exact Off.refl _ _ | (refine' Off.trans ?_ (Same.off (same_new (by assumption) _))) | (refine' Off.trans ?_ (by assumption)))))
  · walk_at "lw_gon"
    refine go_iteD (fun c3 => ?_) (fun c3 => ?_)
    · walk_at "lw_gon"
      exact k _ (.name r) _ ⟨r0, r1⟩ ⟨p, rfl, upd_same⟩ (D'.same (same_new hp _)) (by (repeat (first | assumption | exact Off.refl _ _ | (refine' Off.trans ?_ (Same.off (same_new (by assumption) _))) | (refine' Off.trans ?_ (by assumption)))))
    · walk_at "lw_gon"
      have hb : 0 ≤ wy % 2 * r ∧ wy % 2 * r < 2 := by
        rcases (by omega : wy % 2 = 0 ∨ wy % 2 = 1) with e | e <;> rw [e] <;> omega
      obtain ⟨z, hz, hz'⟩ := at_two (x := V.int _) (y := V.int _) hb.1 hb.2
      walk_at "lw_gon"
      rcases hz' with rfl | rfl
      · exact k _ (.num _) _ ⟨by assumption, by omega⟩ ⟨p, rfl, upd_same⟩ (D'.same (same_new hp _)) (by (repeat (first | assumption | exact Off.refl _ _ | (refine' Off.trans ?_ (Same.off (same_new (by assumption) _))) | (refine' Off.trans ?_ (by assumption)))))
      · exact k _ (.num _) _ ⟨by assumption, by omega⟩ ⟨p, rfl, upd_same⟩ (D'.same (same_new hp _)) (by (repeat (first | assumption | exact Off.refl _ _ | (refine' Off.trans ?_ (Same.off (same_new (by assumption) _))) | (refine' Off.trans ?_ (by assumption)))))
theorem no_part : FnOk P w K mg base CX0 1 f fd ["_law_d", "_law_names", "_law_deep"] (spPart K 0) :=
  ⟨fun vs H Q E h => by obtain ⟨d, nm, dp, rfl, _⟩ := h; rfl, fun A outer s H args us vs Q E _ _ _ _ h => by obtain ⟨d, nm, dp, rfl, _, _, _, h1, h2, _⟩ := h; omega⟩
theorem c_part (F : Fun K "_law_any_part" "_law_any_part" s__law_any_part f fd) (b : Binds K fd ["_law_d", "_law_names", "_law_deep"] []) (m : mg "_law_any_part" = some (.ref f)) (T : Txt mg) (C_law_next : FnC P w K mg base 1 "_law_next" ["_law_dice_here", "_law_many"] (spNext K)) : ∀ n : Nat, FnC P w K mg base (n + 1) "_law_any_part" ["_law_d", "_law_names", "_law_deep"] (spPart K n)
  | 0 => ⟨f, fd, no_part, m, F.kp, b⟩
  | n + 1 => ⟨f, fd, ok_part F T C_law_next (c_part F b m T C_law_next n), m, F.kp, b⟩
end
end Lw
set_option Elab.async false
set_option linter.all false
set_option maxRecDepth 100000
set_option maxHeartbeats 4000000
namespace Lw
open PySem L2
local macro_rules | `(tactic| walk_at "lw_hp") => `(tactic| (repeat (first | assumption | exact upd_same | (refine' upd_new (by assumption) ?_) | (refine' tup_off (by assumption) (by assumption) ?_) | (refine' lst_off (by assumption) (by assumption) (by assumption) ?_) | (refine' Same.get (by assumption) ?_) | (refine' Off.get (by assumption) (by assumption) ?_) | (refine' upd_oth (by assumption) ?_))))
local macro_rules | `(tactic| walk_at "lw_go") => `(tactic| (repeat (first | (with_reducible (first | refine go_var rfl ?_ | refine go_c ?_ | refine go_cons ?_ | refine go_op ?_ | refine go_nil ?_ | refine go_seq ?_ | refine go_qb ?_ | refine go_test ?_ | refine go_ifS ?_ | refine go_gname ?_ | refine go_cb ?_)) | ((with_reducible refine' go_ixT ?hp ?ha ?_); (case hp => walk_at "lw_hp"); (case ha => first | rfl | assumption)) | (with_reducible (first | refine go_asg ?_ | refine go_callC ?_ | refine go_next ?_ | refine go_tup ?_ | refine go_i0 ?_ | refine go_ret ?_ | refine go_dget ?_ | refine go_gcons ?_ | refine go_gsub ?_ | refine go_testB ?_)) | ((with_reducible refine' go_ixL ?hp ?ha ?_); (case hp => walk_at "lw_hp"); (case ha => first | rfl | assumption)) | (with_reducible (first | refine' go_ixLs (by assumption) (by assumption) ?_ | refine go_lst ?_)) | ((with_reducible refine' go_i ?cc ?_); (case cc => first | omega | (simp only [CDiv, CMul, CPow]; omega) | (simp only [CDiv, CMul, CPow]; decide))) | (with_reducible (first | refine go_drop ?_ | refine go_eqI ?_ | refine go_eqS ?_ | refine go_eqB ?_ | refine go_eq (by rfl) ?_ | refine go_gnil ?_ | refine go_iteT ?_ | refine go_iteF ?_ | refine go_iteNt ?_ | refine go_iteNf ?_ | refine go_iteNN ?_)) | (with_reducible refine go_iteDT (by first | assumption | rfl | omega | (simp only [List.length_cons, List.length_nil, List.length_map]; omega)) ?_) | (with_reducible refine go_iteDF (by first | assumption | omega | decide | decide +kernel | (simp only [List.length_cons, List.length_nil, List.length_map]; omega)) ?_) | (with_reducible refine go_iteNT (by first | assumption | rfl | omega | (simp only [List.length_cons, List.length_nil, List.length_map]; omega)) ?_) | (with_reducible refine go_iteNF (by first | assumption | omega | decide | decide +kernel | (simp only [List.length_cons, List.length_nil, List.length_map]; omega)) ?_) | (with_reducible refine go_iteBT (by first | assumption | decide +kernel) ?_) | (with_reducible refine go_iteBF (by first | assumption | decide +kernel) ?_) | (with_reducible (first | refine go_dput ?_ | refine go_setD ?_)) | ((with_reducible refine' go_gtup ?hp ?ha ?_); (case hp => walk_at "lw_hp"); (case ha => first | rfl | assumption)) | (with_reducible refine go_if ?_) | ((with_reducible refine' go_setL ?hp ?ha ?_); (case hp => walk_at "lw_hp"); (case ha => first | rfl | assumption)) | (with_reducible (first | refine go_not ?_ | refine go_or ?_ | refine go_andV ?_ | refine go_sl ?_ | refine go_nopart ?_ | refine go_part ?_ | refine go_qI ?_ | refine' go_lenLs (by assumption) ?_)) | ((with_reducible refine' go_lenL ?hp ?_); (case hp => walk_at "lw_hp")) | ((with_reducible refine' go_lenT ?hp ?_); (case hp => walk_at "lw_hp")) | ((with_reducible refine' go_inT ?hp ?ha ?hb ?_); (case hp => walk_at "lw_hp"); (case ha => rfl); (case hb => rfl)) | ((with_reducible refine' go_notInT ?hp ?ha ?hb ?_); (case hp => walk_at "lw_hp"); (case ha => rfl); (case hb => rfl)) | (with_reducible (first | refine go_pnil ?_ | refine go_pcons ?_ | refine go_un ?_ | refine go_u ?_ | refine go_for ?_ | refine go_rng1 ?_ | refine go_qrng1 (by omega) (by omega) ?_ | refine go_notN_non ?_ | refine go_notN_int ?_ | refine go_notN_str ?_ | refine go_notN_bl ?_ | refine go_notN_ref ?_ | refine go_min ?_ | refine go_bm ?_ | refine go_lc ?_)) | ((with_reducible refine' go_qbm ?hp ?_); (case hp => walk_at "lw_hp")) | (with_reducible (first | refine go_int ?_ | refine go_intB ?_ | refine go_yes ?_ | refine go_and ?_ | refine go_notV ?_ | refine go_iL ?_)) | ((with_reducible refine' go_glst ?hp ?ha ?_); (case hp => walk_at "lw_hp"); (case ha => first | rfl | assumption)) | ((with_reducible refine' go_qiL ?hp ?_); (case hp => walk_at "lw_hp")) | (with_reducible (first | refine go_par ?_ | refine go_gpar ?_ | refine go_isN_non ?_ | refine go_isN_int ?_ | refine go_isN_str ?_ | refine go_isN_bl ?_ | refine go_isN_ref ?_ | refine go_neI ?_ | refine go_neS ?_ | refine go_neB ?_ | refine go_iT ?_ | refine go_ne (by rfl) ?_)) | ((with_reducible refine' go_ixAL ?hp ?ha ?_); (case hp => walk_at "lw_hp"); (case ha => first | rfl | assumption)) | ((with_reducible refine' go_ixAT ?hp ?ha ?_); (case hp => walk_at "lw_hp"); (case ha => first | rfl | assumption)) | ((with_reducible refine' go_qiT ?hp ?_); (case hp => walk_at "lw_hp")) | (with_reducible (first | refine go_is_non_int ?_ | refine go_is_non_bool ?_ | refine go_is_non_str ?_ | refine go_is_non_tuple ?_ | refine go_is_non_list ?_ | refine go_is_bl_int ?_ | refine go_is_bl_bool ?_ | refine go_is_bl_str ?_ | refine go_is_bl_tuple ?_ | refine go_is_bl_list ?_ | refine go_is_int_int ?_ | refine go_is_int_bool ?_ | refine go_is_int_str ?_ | refine go_is_int_tuple ?_ | refine go_is_int_list ?_ | refine go_is_str_int ?_ | refine go_is_str_bool ?_ | refine go_is_str_str ?_ | refine go_is_str_tuple ?_ | refine go_is_str_list ?_)) | ((with_reducible refine' go_is_lst_int ?hp ?_); (case hp => walk_at "lw_hp")) | ((with_reducible refine' go_is_lst_bool ?hp ?_); (case hp => walk_at "lw_hp")) | ((with_reducible refine' go_is_lst_str ?hp ?_); (case hp => walk_at "lw_hp")) | ((with_reducible refine' go_is_lst_tuple ?hp ?_); (case hp => walk_at "lw_hp")) | ((with_reducible refine' go_is_lst_list ?hp ?_); (case hp => walk_at "lw_hp")) | ((with_reducible refine' go_is_tup_int ?hp ?_); (case hp => walk_at "lw_hp")) | ((with_reducible refine' go_is_tup_bool ?hp ?_); (case hp => walk_at "lw_hp")) | ((with_reducible refine' go_is_tup_str ?hp ?_); (case hp => walk_at "lw_hp")) | ((with_reducible refine' go_is_tup_tuple ?hp ?_); (case hp => walk_at "lw_hp")) | ((with_reducible refine' go_is_tup_list ?hp ?_); (case hp => walk_at "lw_hp")) | (with_reducible (first | refine go_max ?_ | refine go_bm0 ?_ | refine go_chain ?_ | refine go_qch ?_)) | ((with_reducible refine' go_qbm0 ?hp ?_); (case hp => walk_at "lw_hp")) | (with_reducible (first | refine go_retN ?_ | refine go_orV ?_ | refine go_whQ ?_ | refine go_rng2 ?_ | refine go_qrng2 (by omega) (by omega) (by omega) (by omega) ?_ | refine go_rvr ?_ | refine go_qrvr (by omega) (by omega) ?_ | refine go_enum ?_ | refine go_aug rfl ?_ | refine go_ipI ?_)) | ((with_reducible refine' go_qenum ?hp ?_); (case hp => walk_at "lw_hp")) | ((with_reducible refine' go_sumL ?hp ?_); (case hp => walk_at "lw_hp")))))
set_option hygiene false in
local macro_rules | `(tactic| walk_at "lw_goa") => `(tactic| (repeat (first | (with_reducible (first | refine go_var rfl ?_ | refine go_c ?_ | refine go_cons ?_ | refine go_op ?_ | refine go_nil ?_ | refine go_seq ?_ | refine go_qb ?_ | refine go_test ?_ | refine go_ifS ?_ | refine go_gname ?_ | refine go_cb ?_)) | ((with_reducible refine' go_ixT ?hp ?ha ?_); (case hp => walk_at "lw_hp"); (case ha => first | rfl | assumption)) | (with_reducible (first | refine go_asg ?_ | refine go_callC ?_ | refine go_next ?_ | refine go_tup ?_ | refine' go_qtup (Nat.le_of_ble_eq_true rfl) (fun p hp => ?_) | refine go_i0 ?_ | refine go_ret ?_ | refine go_dget ?_ | refine go_gcons ?_ | refine go_gsub ?_ | refine go_testB ?_)) | ((with_reducible refine' go_ixL ?hp ?ha ?_); (case hp => walk_at "lw_hp"); (case ha => first | rfl | assumption)) | (with_reducible (first | refine' go_ixLs (by assumption) (by assumption) ?_ | refine' go_qlst (Nat.le_of_ble_eq_true rfl) (fun p hp => ?_) | refine go_lst ?_)) | ((with_reducible refine' go_i ?cc ?_); (case cc => first | omega | (simp only [CDiv, CMul, CPow]; omega) | (simp only [CDiv, CMul, CPow]; decide))) | (with_reducible (first | refine go_drop ?_ | refine go_eqI ?_ | refine go_eqS ?_ | refine go_eqB ?_ | refine go_eq (by rfl) ?_ | refine go_gnil ?_ | refine go_iteT ?_ | refine go_iteF ?_ | refine go_iteNt ?_ | refine go_iteNf ?_ | refine go_iteNN ?_)) | (with_reducible refine go_iteDT (by first | assumption | rfl | omega | (simp only [List.length_cons, List.length_nil, List.length_map]; omega)) ?_) | (with_reducible refine go_iteDF (by first | assumption | omega | decide | decide +kernel | (simp only [List.length_cons, List.length_nil, List.length_map]; omega)) ?_) | (with_reducible refine go_iteNT (by first | assumption | rfl | omega | (simp only [List.length_cons, List.length_nil, List.length_map]; omega)) ?_) | (with_reducible refine go_iteNF (by first | assumption | omega | decide | decide +kernel | (simp only [List.length_cons, List.length_nil, List.length_map]; omega)) ?_) | (with_reducible refine go_iteBT (by first | assumption | decide +kernel) ?_) | (with_reducible refine go_iteBF (by first | assumption | decide +kernel) ?_) | (with_reducible (first | refine go_dput ?_ | refine go_setD ?_)) | ((with_reducible refine' go_gtup ?hp ?ha ?_); (case hp => walk_at "lw_hp"); (case ha => first | rfl | assumption)) | (with_reducible refine go_if ?_) | ((with_reducible refine' go_setL ?hp ?ha ?_); (case hp => walk_at "lw_hp"); (case ha => first | rfl | assumption)) | (with_reducible (first | refine go_not ?_ | refine go_or ?_ | refine go_andV ?_ | refine go_sl ?_ | refine go_nopart ?_ | refine go_part ?_ | refine go_qI ?_ | refine' go_lenLs (by assumption) ?_)) | ((with_reducible refine' go_lenL ?hp ?_); (case hp => walk_at "lw_hp")) | ((with_reducible refine' go_lenT ?hp ?_); (case hp => walk_at "lw_hp")) | ((with_reducible refine' go_inT ?hp ?ha ?hb ?_); (case hp => walk_at "lw_hp"); (case ha => rfl); (case hb => rfl)) | ((with_reducible refine' go_notInT ?hp ?ha ?hb ?_); (case hp => walk_at "lw_hp"); (case ha => rfl); (case hb => rfl)) | (with_reducible (first | refine go_pnil ?_ | refine go_pcons ?_ | refine go_un ?_ | refine go_u ?_ | refine go_for ?_ | refine go_rng1 ?_ | refine go_qrng1 (by omega) (by omega) ?_ | refine go_notN_non ?_ | refine go_notN_int ?_ | refine go_notN_str ?_ | refine go_notN_bl ?_ | refine go_notN_ref ?_ | refine go_min ?_ | refine go_bm ?_ | refine go_lc ?_)) | ((with_reducible refine' go_qbm ?hp ?_); (case hp => walk_at "lw_hp")) | (with_reducible (first | refine go_int ?_ | refine go_intB ?_ | refine go_yes ?_ | refine go_and ?_ | refine go_notV ?_ | refine go_iL ?_)) | ((with_reducible refine' go_glst ?hp ?ha ?_); (case hp => walk_at "lw_hp"); (case ha => first | rfl | assumption)) | ((with_reducible refine' go_qiL ?hp ?_); (case hp => walk_at "lw_hp")) | (with_reducible (first | refine go_par ?_ | refine go_gpar ?_ | refine go_isN_non ?_ | refine go_isN_int ?_ | refine go_isN_str ?_ | refine go_isN_bl ?_ | refine go_isN_ref ?_ | refine go_neI ?_ | refine go_neS ?_ | refine go_neB ?_ | refine go_iT ?_ | refine go_ne (by rfl) ?_)) | ((with_reducible refine' go_ixAL ?hp ?ha ?_); (case hp => walk_at "lw_hp"); (case ha => first | rfl | assumption)) | ((with_reducible refine' go_ixAT ?hp ?ha ?_); (case hp => walk_at "lw_hp"); (case ha => first | rfl | assumption)) | ((with_reducible refine' go_qiT ?hp ?_); (case hp => walk_at "lw_hp")) | (with_reducible (first | refine go_is_non_int ?_ | refine go_is_non_bool ?_ | refine go_is_non_str ?_ | refine go_is_non_tuple ?_ | refine go_is_non_list ?_ | refine go_is_bl_int ?_ | refine go_is_bl_bool ?_ | refine go_is_bl_str ?_ | refine go_is_bl_tuple ?_ | refine go_is_bl_list ?_ | refine go_is_int_int ?_ | refine go_is_int_bool ?_ | refine go_is_int_str ?_ | refine go_is_int_tuple ?_ | refine go_is_int_list ?_ | refine go_is_str_int ?_ | refine go_is_str_bool ?_ | refine go_is_str_str ?_ | refine go_is_str_tuple ?_ | refine go_is_str_list ?_)) | ((with_reducible refine' go_is_lst_int ?hp ?_); (case hp => walk_at "lw_hp")) | ((with_reducible refine' go_is_lst_bool ?hp ?_); (case hp => walk_at "lw_hp")) | ((with_reducible refine' go_is_lst_str ?hp ?_); (case hp => walk_at "lw_hp")) | ((with_reducible refine' go_is_lst_tuple ?hp ?_); (case hp => walk_at "lw_hp")) | ((with_reducible refine' go_is_lst_list ?hp ?_); (case hp => walk_at "lw_hp")) | ((with_reducible refine' go_is_tup_int ?hp ?_); (case hp => walk_at "lw_hp")) | ((with_reducible refine' go_is_tup_bool ?hp ?_); (case hp => walk_at "lw_hp")) | ((with_reducible refine' go_is_tup_str ?hp ?_); (case hp => walk_at "lw_hp")) | ((with_reducible refine' go_is_tup_tuple ?hp ?_); (case hp => walk_at "lw_hp")) | ((with_reducible refine' go_is_tup_list ?hp ?_); (case hp => walk_at "lw_hp")) | (with_reducible (first | refine go_max ?_ | refine go_bm0 ?_ | refine go_chain ?_ | refine go_qch ?_)) | ((with_reducible refine' go_qbm0 ?hp ?_); (case hp => walk_at "lw_hp")) | (with_reducible (first | refine go_retN ?_ | refine go_orV ?_ | refine go_whQ ?_ | refine go_rng2 ?_ | refine go_qrng2 (by omega) (by omega) (by omega) (by omega) ?_ | refine go_rvr ?_ | refine go_qrvr (by omega) (by omega) ?_ | refine go_enum ?_ | refine go_aug rfl ?_ | refine go_ipI ?_)) | ((with_reducible refine' go_qenum ?hp ?_); (case hp => walk_at "lw_hp")) | ((with_reducible refine' go_sumL ?hp ?_); (case hp => walk_at "lw_hp")))))
set_option hygiene false in
local macro_rules | `(tactic| walk_at "lw_gon") => `(tactic| (repeat (first | (with_reducible (first | refine go_var rfl ?_ | refine go_c ?_ | refine go_cons ?_ | refine go_op ?_ | refine go_nil ?_ | refine go_seq ?_ | refine go_qb ?_ | refine go_test ?_ | refine go_ifS ?_ | refine go_gname ?_ | refine go_cb ?_)) | ((with_reducible refine' go_ixT ?hp ?ha ?_); (case hp => walk_at "lw_hp"); (case ha => first | rfl | assumption)) | (with_reducible (first | refine go_asg ?_ | refine go_callC ?_ | refine go_next ?_ | refine go_tup ?_ | refine' go_qtup (Nat.le_of_ble_eq_true rfl) (fun p hp => ?_) | refine go_i0 ?_ | refine go_ret ?_ | refine go_dget ?_ | refine go_gcons ?_ | refine go_gsub ?_ | refine go_testB ?_)) | (with_reducible refine' nx_go (by first | assumption | exact Dice.same (by assumption) (same_new (by assumption) _)) (by omega) (by omega) (fun r H' r0 r1 D' o' => ?_)) | ((with_reducible refine' go_ixL ?hp ?ha ?_); (case hp => walk_at "lw_hp"); (case ha => first | rfl | assumption)) | (with_reducible (first | refine' go_ixLs (by assumption) (by assumption) ?_ | refine' go_qlst (Nat.le_of_ble_eq_true rfl) (fun p hp => ?_) | refine go_lst ?_)) | ((with_reducible refine' go_i ?cc ?_); (case cc => first | omega | (simp only [CDiv, CMul, CPow]; omega) | (simp only [CDiv, CMul, CPow]; decide))) | (with_reducible (first | refine go_drop ?_ | refine go_eqI ?_ | refine go_eqS ?_ | refine go_eqB ?_ | refine go_eq (by rfl) ?_ | refine go_gnil ?_ | refine go_iteT ?_ | refine go_iteF ?_ | refine go_iteNt ?_ | refine go_iteNf ?_ | refine go_iteNN ?_)) | (with_reducible refine go_iteDT (by first | assumption | rfl | omega | (simp only [List.length_cons, List.length_nil, List.length_map]; omega)) ?_) | (with_reducible refine go_iteDF (by first | assumption | omega | decide | decide +kernel | (simp only [List.length_cons, List.length_nil, List.length_map]; omega)) ?_) | (with_reducible refine go_iteNT (by first | assumption | rfl | omega | (simp only [List.length_cons, List.length_nil, List.length_map]; omega)) ?_) | (with_reducible refine go_iteNF (by first | assumption | omega | decide | decide +kernel | (simp only [List.length_cons, List.length_nil, List.length_map]; omega)) ?_) | (with_reducible refine go_iteBT (by first | assumption | decide +kernel) ?_) | (with_reducible refine go_iteBF (by first | assumption | decide +kernel) ?_) | (with_reducible (first | refine go_dput ?_ | refine go_setD ?_)) | ((with_reducible refine' go_gtup ?hp ?ha ?_); (case hp => walk_at "lw_hp"); (case ha => first | rfl | assumption)) | (with_reducible refine go_if ?_) | ((with_reducible refine' go_setL ?hp ?ha ?_); (case hp => walk_at "lw_hp"); (case ha => first | rfl | assumption)) | (with_reducible (first | refine go_not ?_ | refine go_or ?_ | refine go_andV ?_ | refine go_sl ?_ | refine go_nopart ?_ | refine go_part ?_ | refine go_qI ?_ | refine' go_lenLs (by assumption) ?_)) | ((with_reducible refine' go_lenL ?hp ?_); (case hp => walk_at "lw_hp")) | ((with_reducible refine' go_lenT ?hp ?_); (case hp => walk_at "lw_hp")) | ((with_reducible refine' go_inT ?hp ?ha ?hb ?_); (case hp => walk_at "lw_hp"); (case ha => rfl); (case hb => rfl)) | ((with_reducible refine' go_notInT ?hp ?ha ?hb ?_); (case hp => walk_at "lw_hp"); (case ha => rfl); (case hb => rfl)) | (with_reducible (first | refine go_pnil ?_ | refine go_pcons ?_ | refine go_un ?_ | refine go_u ?_ | refine go_for ?_ | refine go_rng1 ?_ | refine go_qrng1 (by omega) (by omega) ?_ | refine go_notN_non ?_ | refine go_notN_int ?_ | refine go_notN_str ?_ | refine go_notN_bl ?_ | refine go_notN_ref ?_ | refine go_min ?_ | refine go_bm ?_ | refine go_lc ?_)) | ((with_reducible refine' go_qbm ?hp ?_); (case hp => walk_at "lw_hp")) | (with_reducible (first | refine go_int ?_ | refine go_intB ?_ | refine go_yes ?_ | refine go_and ?_ | refine go_notV ?_ | refine go_iL ?_)) | ((with_reducible refine' go_glst ?hp ?ha ?_); (case hp => walk_at "lw_hp"); (case ha => first | rfl | assumption)) | ((with_reducible refine' go_qiL ?hp ?_); (case hp => walk_at "lw_hp")) | (with_reducible (first | refine go_par ?_ | refine go_gpar ?_ | refine go_isN_non ?_ | refine go_isN_int ?_ | refine go_isN_str ?_ | refine go_isN_bl ?_ | refine go_isN_ref ?_ | refine go_neI ?_ | refine go_neS ?_ | refine go_neB ?_ | refine go_iT ?_ | refine go_ne (by rfl) ?_)) | ((with_reducible refine' go_ixAL ?hp ?ha ?_); (case hp => walk_at "lw_hp"); (case ha => first | rfl | assumption)) | ((with_reducible refine' go_ixAT ?hp ?ha ?_); (case hp => walk_at "lw_hp"); (case ha => first | rfl | assumption)) | ((with_reducible refine' go_qiT ?hp ?_); (case hp => walk_at "lw_hp")) | (with_reducible (first | refine go_is_non_int ?_ | refine go_is_non_bool ?_ | refine go_is_non_str ?_ | refine go_is_non_tuple ?_ | refine go_is_non_list ?_ | refine go_is_bl_int ?_ | refine go_is_bl_bool ?_ | refine go_is_bl_str ?_ | refine go_is_bl_tuple ?_ | refine go_is_bl_list ?_ | refine go_is_int_int ?_ | refine go_is_int_bool ?_ | refine go_is_int_str ?_ | refine go_is_int_tuple ?_ | refine go_is_int_list ?_ | refine go_is_str_int ?_ | refine go_is_str_bool ?_ | refine go_is_str_str ?_ | refine go_is_str_tuple ?_ | refine go_is_str_list ?_)) | ((with_reducible refine' go_is_lst_int ?hp ?_); (case hp => walk_at "lw_hp")) | ((with_reducible refine' go_is_lst_bool ?hp ?_); (case hp => walk_at "lw_hp")) | ((with_reducible refine' go_is_lst_str ?hp ?_); (case hp => walk_at "lw_hp")) | ((with_reducible refine' go_is_lst_tuple ?hp ?_); (case hp => walk_at "lw_hp")) | ((with_reducible refine' go_is_lst_list ?hp ?_); (case hp => walk_at "lw_hp")) | ((with_reducible refine' go_is_tup_int ?hp ?_); (case hp => walk_at "lw_hp")) | ((with_reducible refine' go_is_tup_bool ?hp ?_); (case hp => walk_at "lw_hp")) | ((with_reducible refine' go_is_tup_str ?hp ?_); (case hp => walk_at "lw_hp")) | ((with_reducible refine' go_is_tup_tuple ?hp ?_); (case hp => walk_at "lw_hp")) | ((with_reducible refine' go_is_tup_list ?hp ?_); (case hp => walk_at "lw_hp")) | (with_reducible (first | refine go_max ?_ | refine go_bm0 ?_ | refine go_chain ?_ | refine go_qch ?_)) | ((with_reducible refine' go_qbm0 ?hp ?_); (case hp => walk_at "lw_hp")) | (with_reducible (first | refine go_retN ?_ | refine go_orV ?_ | refine go_whQ ?_ | refine go_rng2 ?_ | refine go_qrng2 (by omega) (by omega) (by omega) (by omega) ?_ | refine go_rvr ?_ | refine go_qrvr (by omega) (by omega) ?_ | refine go_enum ?_ | refine go_aug rfl ?_ | refine go_ipI ?_)) | ((with_reducible refine' go_qenum ?hp ?_); (case hp => walk_at "lw_hp")) | ((with_reducible refine' go_sumL ?hp ?_); (case hp => walk_at "lw_hp")))))
abbrev s__law_any_row : Stmt := top 50
def spRow (K : PySem.W.Frag) : Sp := fun vs H Q _ => ∃ (d : Addr) (nm fl ato many : Int), vs = [.ref d, .int nm, .int fl, .int ato, .int many] ∧ Dice K H d ∧ 1 ≤ nm ∧ nm ≤ 8 ∧ 1 ≤ fl ∧ fl ≤ 4 ∧ 0 ≤ ato ∧ ato < many ∧ many ≤ 58 ∧
  ∀ (v : V) (r : Row) (H' : Hp), r.ok nm fl many → RowAt H' r v → Dice K H' d → Off d H H' → Q v H'
section
variable {P : Program} {w : World} {K : PySem.W.Frag} {mg : Str → Option Value} {base : Heap} {f : Addr} {fd : FuncData}
theorem scs__law_any_row : FnScope ["_law_d", "_law_names", "_law_files", "_law_at", "_law_many", "_law_way", "_law_to", "_law_name", "_law_file"] ["_law_d", "_law_names", "_law_files", "_law_at", "_law_many"] (defScope s__law_any_row) := ⟨rfl, rfl, rfl, by decide +kernel, rfl, by decide +kernel, by decide +kernel⟩
theorem ok_row (F : Fun K "_law_any_row" "_law_any_row" s__law_any_row f fd) (T : Txt mg) (C_law_next : FnC P w K mg base 1 "_law_next" ["_law_dice_here", "_law_many"] (spNext K)) (C_law_any_part : FnC P w K mg base 4 "_law_any_part" ["_law_d", "_law_names", "_law_deep"] (spPart K 3)) : FnOk P w K mg base CX0 5 f fd ["_law_d", "_law_names", "_law_files", "_law_at", "_law_many"] (spRow K) := by
  refine F.ok scs__law_any_row (fun vs H Q E h => ?_) (fun cdv A outer s H vs Q E hr h => ?_)
  · obtain ⟨d, nm, fl, ato, many, rfl, _⟩ := h
    rfl
  obtain ⟨d, nm, fl, ato, many, rfl, D, hn1, hn2, hf1, hf2, ha1, ha2, hm, k⟩ := h
  have nd := scs__law_any_row.nd
  have hu := hu_of hr
  refine ⟨_, (pss_cons (ps_set (i := 5) nd rfl (Or.inl rfl) (pe_callC C_law_next (hr.mono (by omega)) (by rfl) (pa_cons (pv 0) (pa_cons pe_int pa_nil))))
      (pss_cons (ps_par (i := 7) (j := 8) (by rfl) nd rfl rfl (by decide) rfl rfl (pa_cons (pe_callC C_law_next (hr.mono (by omega)) (by rfl) (pa_cons (pv 0) (pa_cons (pv 1) pa_nil))) (pa_cons (pe_callC C_law_next (hr.mono (by omega)) (by rfl) (pa_cons (pv 0) (pa_cons (pv 2) pa_nil))) pa_nil)) (by rfl))
      (pss_cons (ps_if (pt_cmpR op_lt (pv 5) pe_int (nomark _)) (pss_one (ps_ret (pe_tup (pa_cons pe_str (pa_cons (pv 7) (pa_cons (pe_callC C_law_any_part (hr.mono (by omega)) (by rfl) (pa_cons (pv 0) (pa_cons (pv 1) (pa_cons pe_int pa_nil)))) pa_nil)))))) pss_nil)
      (pss_cons (ps_if (pt_cmpR op_lt (pv 5) pe_int (nomark _)) (pss_one (ps_ret (pe_ifExp (pt_cmpR op_eq (pv 5) pe_int (nomark _)) (pe_tup (pa_cons pe_str (pa_cons (pv 7) pa_nil))) (pe_tup (pa_cons pe_str (pa_cons (pv 7) (pa_cons (pv 8) pa_nil))))))) pss_nil)
      (pss_cons (ps_if (pt_cmpR op_lt (pv 5) pe_int (nomark _)) (pss_one (ps_ret (pe_tup (pa_cons pe_str (pa_cons (pv 8) (pa_cons (pe_callC C_law_any_part (hr.mono (by omega)) (by rfl) (pa_cons (pv 0) (pa_cons (pv 1) (pa_cons pe_int pa_nil)))) pa_nil)))))) pss_nil)
      (pss_cons (ps_if (pt_cmpR op_eq (pv 5) pe_int (nomark _)) (pss_one (ps_ret (pe_tup (pa_cons pe_str (pa_cons (pv 8) (pa_cons (pe_tup (pa_cons pe_str (pa_cons (pe_callC C_law_next (hr.mono (by omega)) (by rfl) (pa_cons (pv 0) (pa_cons pe_int pa_nil))) pa_nil))) (pa_cons (pe_callC C_law_any_part (hr.mono (by omega)) (by rfl) (pa_cons (pv 0) (pa_cons (pv 1) (pa_cons pe_int pa_nil)))) pa_nil))))))) pss_nil)
      (pss_cons (ps_if (pt_cmpR op_eq (pv 5) pe_int (nomark _)) (pss_one (ps_ret (pe_tup (pa_cons pe_str (pa_cons (pv 8) (pa_cons (pe_ix (kIxL K) (pe_lst (pa_cons (pe_tup (pa_cons pe_str (pa_cons (pe_callC C_law_next (hr.mono (by omega)) (by rfl) (pa_cons (pv 0) (pa_cons pe_int pa_nil))) pa_nil))) (pa_cons (pe_callC C_law_any_part (hr.mono (by omega)) (by rfl) (pa_cons (pv 0) (pa_cons (pv 1) (pa_cons pe_int pa_nil)))) pa_nil))) (pe_callC C_law_next (hr.mono (by omega)) (by rfl) (pa_cons (pv 0) (pa_cons pe_int pa_nil))) (fun _ _ => rfl)) pa_nil)))))) pss_nil)
      (pss_cons (ps_if (pt_cmpR op_eq (pv 5) pe_int (nomark _)) (pss_one (ps_ret (pe_tup (pa_cons pe_str (pa_cons (pv 7) (pa_cons (pv 8) (pa_cons (pe_tup (pa_cons pe_str (pa_cons (pe_callC C_law_next (hr.mono (by omega)) (by rfl) (pa_cons (pv 0) (pa_cons pe_int pa_nil))) pa_nil))) pa_nil))))))) pss_nil)
      (pss_cons (ps_if (pt_cmpR op_lt (pv 5) pe_int (nomark _)) (pss_one (ps_ret (pe_tup (pa_cons pe_str (pa_cons (pe_callC C_law_any_part (hr.mono (by omega)) (by rfl) (pa_cons (pv 0) (pa_cons (pv 1) (pa_cons pe_int pa_nil)))) pa_nil))))) pss_nil)
      (pss_cons (ps_if (pt_cmpR op_eq (pv 5) pe_int (nomark _)) (pss_one (ps_ret (pe_tup (pa_cons pe_str pa_nil)))) pss_nil)
      (pss_cons (ps_set (i := 6) nd rfl (Or.inl rfl) (pe_ix (kIxL K) (pe_lst (pa_cons (pe_callB (c_min rfl) (by rfl) T.n_min (by decide +kernel) (pa_cons (pv 4) (pa_cons (pe_op op_add (pe_op op_add (pv 3) pe_int) (pe_callC C_law_next (hr.mono (by omega)) (by rfl) (pa_cons (pv 0) (pa_cons pe_int pa_nil)))) pa_nil))) (pa_cons (pe_callC C_law_next (hr.mono (by omega)) (by rfl) (pa_cons (pv 0) (pa_cons (pe_op op_add (pv 4) pe_int) pa_nil))) pa_nil))) (pe_op op_fdiv (pe_callC C_law_next (hr.mono (by omega)) (by rfl) (pa_cons (pv 0) (pa_cons pe_int pa_nil))) pe_int) (fun _ _ => rfl)))
      (pss_one (ps_ret (pe_ifExp (pt_cmpR op_lt (pv 5) pe_int (nomark _)) (pe_tup (pa_cons pe_str (pa_cons (pv 7) (pa_cons (pv 6) pa_nil)))) (pe_tup (pa_cons pe_str (pa_cons (pe_ifExp (pt_cmpR op_le (pv 6) (pv 4) (nomark _)) (pe_callB (c_max rfl) (by rfl) T.n_max (by decide +kernel) (pa_cons (pv 6) (pa_cons (pe_op op_add (pv 3) pe_int) pa_nil))) (pv 4)) pa_nil))))))))))))))))), ?_⟩
  refine go_seq (go_asg (go_callC ?_))
  walk_at "lw_go"
  refine nx_go D (by omega) (by omega) (fun wy Ha wy0 wy1 Da oa => ?_)
  walk_at "lw_go"
  refine nx_go Da (by omega) (by omega) (fun nmr Hb nm0 nm1 Db ob => ?_)
  walk_at "lw_go"
  refine nx_go Db (by omega) (by omega) (fun fr Hc f0 f1 Dc oc => ?_)
  walk_at "lw_go"
  refine go_iteD (fun c => ?_) (fun c => ?_)
  · walk_at "lw_go"
    refine ⟨d, nm, 3, rfl, Dc, hn1, hn2, by omega, by omega, fun v1 p1 H1 k1 a1 D1 o1 => ?_⟩
    walk_at "lw_goa"
    exact k _ (.set nmr p1) _ ⟨nm0, nm1, k1⟩ ⟨p, _, rfl, upd_same, v1, rfl, a1.mono (by (repeat (first | assumption | exact TK.refl _ | (refine' TK.trans ?_ (TK.new (by assumption))) | (refine' TK.trans ?_ (tk_off (by assumption) (by first | assumption | exact Dice.same (by assumption) (same_new (by assumption) _)))))))⟩ (D1.same (same_new hp _)) (by (repeat (first | assumption | exact Off.refl _ _ | (refine' Off.trans ?_ (Same.off (same_new (by assumption) _))) | (refine' Off.trans ?_ (by assumption)))))
  walk_at "lw_go"
  refine go_iteD (fun c => ?_) (fun c => ?_)
  · walk_at "lw_go"
    refine go_iteD (fun c => ?_) (fun c => ?_)
    · walk_at "lw_goa"
      exact k _ (.take nmr) _ ⟨nm0, nm1⟩ ⟨p, _, rfl, upd_same, rfl⟩ (Dc.same (same_new hp _)) (by (repeat (first | assumption | exact Off.refl _ _ | (refine' Off.trans ?_ (Same.off (same_new (by assumption) _))) | (refine' Off.trans ?_ (by assumption)))))
    · walk_at "lw_goa"
      exact k _ (.size nmr fr) _ ⟨nm0, nm1, f0, f1⟩ ⟨p, _, rfl, upd_same, rfl⟩ (Dc.same (same_new hp _)) (by (repeat (first | assumption | exact Off.refl _ _ | (refine' Off.trans ?_ (Same.off (same_new (by assumption) _))) | (refine' Off.trans ?_ (by assumption)))))
  walk_at "lw_go"
  refine go_iteD (fun c => ?_) (fun c => ?_)
  · walk_at "lw_go"
    refine ⟨d, nm, 2, rfl, Dc, hn1, hn2, by omega, by omega, fun v1 p1 H1 k1 a1 D1 o1 => ?_⟩
    walk_at "lw_goa"
    exact k _ (.add fr p1) _ ⟨f0, f1, Part.ok_mono (by decide) k1⟩ ⟨p, _, rfl, upd_same, v1, rfl, a1.mono (by (repeat (first | assumption | exact TK.refl _ | (refine' TK.trans ?_ (TK.new (by assumption))) | (refine' TK.trans ?_ (tk_off (by assumption) (by first | assumption | exact Dice.same (by assumption) (same_new (by assumption) _)))))))⟩ (D1.same (same_new hp _)) (by (repeat (first | assumption | exact Off.refl _ _ | (refine' Off.trans ?_ (Same.off (same_new (by assumption) _))) | (refine' Off.trans ?_ (by assumption)))))
  walk_at "lw_go"
  refine go_iteD (fun c => ?_) (fun c => ?_)
  · walk_at "lw_gon"
    refine ⟨d, nm, 2, rfl, by first | assumption | exact Dice.same (by assumption) (same_new (by assumption) _), hn1, hn2, by omega, by omega, fun v1 p1 H1 k1 a1 D1 o1 => ?_⟩
    have t1 : PartAt H1 (.num r) (.ref p) := ⟨p, rfl, by walk_at "lw_hp"⟩
    have q1 : PartAt H1 (.num r) (.ref p) ∧ 0 ≤ r ∧ r < 3 := ⟨t1, r0, r1⟩
    refine go_nil (go_qtup (Nat.le_of_ble_eq_true rfl) (fun p' hp' => ?_))
    exact k _ (.put fr (.num r) p1) _ ⟨f0, f1, ⟨r0, by omega⟩, Part.ok_mono (by decide) k1⟩ ⟨p', _, rfl, upd_same, _, v1, rfl, t1.mono (by (repeat (first | assumption | exact TK.refl _ | (refine' TK.trans ?_ (TK.new (by assumption))) | (refine' TK.trans ?_ (tk_off (by assumption) (by first | assumption | exact Dice.same (by assumption) (same_new (by assumption) _))))))), a1.mono (by (repeat (first | assumption | exact TK.refl _ | (refine' TK.trans ?_ (TK.new (by assumption))) | (refine' TK.trans ?_ (tk_off (by assumption) (by first | assumption | exact Dice.same (by assumption) (same_new (by assumption) _)))))))⟩ (D1.same (same_new hp' _)) (by (repeat (first | assumption | exact Off.refl _ _ | (refine' Off.trans ?_ (Same.off (same_new (by assumption) _))) | (refine' Off.trans ?_ (by assumption)))))
  walk_at "lw_go"
  refine go_iteD (fun c => ?_) (fun c => ?_)
  · walk_at "lw_gon"
    refine ⟨d, nm, 2, rfl, by first | assumption | exact Dice.same (by assumption) (same_new (by assumption) _), hn1, hn2, by omega, by omega, fun v1 p1 H1 k1 a1 D1 o1 => ?_⟩
    have t1 : PartAt H1 (.num r) (.ref p) := ⟨p, rfl, by walk_at "lw_hp"⟩
    have q1 : 0 ≤ r ∧ r < 6 := ⟨r0, r1⟩
    refine go_nil (go_qlst (Nat.le_of_ble_eq_true rfl) (fun p' hp' => ?_))
    walk_at "lw_gon"
    obtain ⟨z, hz, hz'⟩ := at_two (x := V.ref p) (y := v1) r0 r1
    walk_at "lw_go"
    refine go_qtup (Nat.le_of_ble_eq_true rfl) (fun p2 hp2 => ?_)
    rcases hz' with rfl | rfl
    · exact k _ (.cut fr (.num _)) _ ⟨f0, f1, q1.1, by omega⟩ ⟨p2, _, rfl, upd_same, _, rfl, t1.mono (by (repeat (first | assumption | exact TK.refl _ | (refine' TK.trans ?_ (TK.new (by assumption))) | (refine' TK.trans ?_ (tk_off (by assumption) (by first | assumption | exact Dice.same (by assumption) (same_new (by assumption) _)))))))⟩ (D'.same (same_new hp2 _)) (by (repeat (first | assumption | exact Off.refl _ _ | (refine' Off.trans ?_ (Same.off (same_new (by assumption) _))) | (refine' Off.trans ?_ (by assumption)))))
    · exact k _ (.cut fr p1) _ ⟨f0, f1, Part.ok_mono (by decide) k1⟩ ⟨p2, _, rfl, upd_same, _, rfl, a1.mono (by (repeat (first | assumption | exact TK.refl _ | (refine' TK.trans ?_ (TK.new (by assumption))) | (refine' TK.trans ?_ (tk_off (by assumption) (by first | assumption | exact Dice.same (by assumption) (same_new (by assumption) _)))))))⟩ (D'.same (same_new hp2 _)) (by (repeat (first | assumption | exact Off.refl _ _ | (refine' Off.trans ?_ (Same.off (same_new (by assumption) _))) | (refine' Off.trans ?_ (by assumption)))))
  walk_at "lw_go"
  refine go_iteD (fun c => ?_) (fun c => ?_)
  · walk_at "lw_gon"
    exact k _ (.get nmr fr (.num r)) _ ⟨nm0, nm1, f0, f1, r0, by omega⟩ ⟨p, _, rfl, upd_same, _, rfl, ⟨_, rfl, by walk_at "lw_hp"⟩⟩ ((D'.same (same_new (by assumption) _)).same (same_new hp _)) (by (repeat (first | assumption | exact Off.refl _ _ | (refine' Off.trans ?_ (Same.off (same_new (by assumption) _))) | (refine' Off.trans ?_ (by assumption)))))
  walk_at "lw_go"
  refine go_iteD (fun c => ?_) (fun c => ?_)
  · walk_at "lw_go"
    refine ⟨d, nm, 3, rfl, Dc, hn1, hn2, by omega, by omega, fun v1 p1 H1 k1 a1 D1 o1 => ?_⟩
    walk_at "lw_goa"
    exact k _ (.send p1) _ k1 ⟨p, _, rfl, upd_same, v1, rfl, a1.mono (by (repeat (first | assumption | exact TK.refl _ | (refine' TK.trans ?_ (TK.new (by assumption))) | (refine' TK.trans ?_ (tk_off (by assumption) (by first | assumption | exact Dice.same (by assumption) (same_new (by assumption) _)))))))⟩ (D1.same (same_new hp _)) (by (repeat (first | assumption | exact Off.refl _ _ | (refine' Off.trans ?_ (Same.off (same_new (by assumption) _))) | (refine' Off.trans ?_ (by assumption)))))
  walk_at "lw_go"
  refine go_iteD (fun c => ?_) (fun c => ?_)
  · walk_at "lw_goa"
    exact k _ .mark _ True.intro ⟨p, _, rfl, upd_same, rfl⟩ (Dc.same (same_new hp _)) (by (repeat (first | assumption | exact Off.refl _ _ | (refine' Off.trans ?_ (Same.off (same_new (by assumption) _))) | (refine' Off.trans ?_ (by assumption)))))
  walk_at "lw_go"
  refine nx_go Dc (by omega) (by omega) (fun t1 H1 t10 t11 D1 o1 => ?_)
  walk_at "lw_go"
  refine nx_go D1 (by omega) (by omega) (fun t2 H2 t20 t21 D2 o2 => ?_)
  walk_at "lw_go"
  refine go_qlst (Nat.le_of_ble_eq_true rfl) (fun p hp => ?_)
  walk_at "lw_go"
  refine nx_go (D2.same (same_new hp _)) (by omega) (by omega) (fun t3 H3 t30 t31 D3 o3 => ?_)
  walk_at "lw_go"
  obtain ⟨to, hz, hto⟩ : ∃ to, atI [V.int (min many (ato + 2 + t1)), V.int t2] (t3 / 2) = some (V.int to) ∧ 0 ≤ to ∧ to ≤ many := by
    obtain ⟨z, hz, hz'⟩ := at_two (x := V.int (min many (ato + 2 + t1))) (y := V.int t2) (r := t3 / 2) (by omega) (by omega)
    rcases hz' with rfl | rfl
    · exact ⟨_, hz, by omega, by omega⟩
    · exact ⟨_, hz, by omega, by omega⟩
  walk_at "lw_go"
  refine go_iteD (fun c => ?_) (fun c => ?_)
  · walk_at "lw_go"
    refine go_qtup (Nat.le_of_ble_eq_true rfl) (fun p' hp' => ?_)
    exact k _ (.unl nmr to) _ ⟨nm0, nm1, hto.1, hto.2⟩ ⟨p', _, rfl, upd_same, rfl⟩ (D3.same (same_new hp' _)) (by (repeat (first | assumption | exact Off.refl _ _ | (refine' Off.trans ?_ (Same.off (same_new (by assumption) _))) | (refine' Off.trans ?_ (by assumption)))))
  · walk_at "lw_go"
    refine go_qtup (Nat.le_of_ble_eq_true rfl) (fun p' hp' => ?_)
    exact k _ (.go (max to (ato + 1))) _ ⟨by omega, by omega⟩ ⟨p', _, rfl, upd_same, rfl⟩ (D3.same (same_new hp' _)) (by (repeat (first | assumption | exact Off.refl _ _ | (refine' Off.trans ?_ (Same.off (same_new (by assumption) _))) | (refine' Off.trans ?_ (by assumption)))))
end
end Lw
set_option Elab.async false
set_option linter.all false
set_option maxRecDepth 100000
set_option maxHeartbeats 4000000
namespace Lw
open PySem L2
local macro_rules | `(tactic| walk_at "lw_hp") => `(tactic| (repeat (first | assumption | exact upd_same | (refine' upd_new (by assumption) ?_) | (refine' tup_off (by assumption) (by assumption) ?_) | (refine' lst_off (by assumption) (by assumption) (by assumption) ?_) | (refine' Same.get (by assumption) ?_) | (refine' Off.get (by assumption) (by assumption) ?_) | (refine' upd_oth (by assumption) ?_))))
local macro_rules | `(tactic| walk_at "lw_go") => `(tactic| (repeat (first | (with_reducible (first | refine go_var rfl ?_ | refine go_c ?_ | refine go_cons ?_ | refine go_op ?_ | refine go_nil ?_ | refine go_seq ?_ | refine go_qb ?_ | refine go_test ?_ | refine go_ifS ?_ | refine go_gname ?_ | refine go_cb ?_)) | ((with_reducible refine' go_ixT ?hp ?ha ?_); (case hp => walk_at "lw_hp"); (case ha => first | rfl | assumption)) | (with_reducible (first | refine go_asg ?_ | refine go_callC ?_ | refine go_next ?_ | refine go_tup ?_ | refine go_i0 ?_ | refine go_ret ?_ | refine go_dget ?_ | refine go_gcons ?_ | refine go_gsub ?_ | refine go_testB ?_)) | ((with_reducible refine' go_ixL ?hp ?ha ?_); (case hp => walk_at "lw_hp"); (case ha => first | rfl | assumption)) | (with_reducible (first | refine' go_ixLs (by assumption) (by assumption) ?_ | refine go_lst ?_)) | ((with_reducible refine' go_i ?cc ?_); (case cc => first | omega | (simp only [CDiv, CMul, CPow]; omega) | (simp only [CDiv, CMul, CPow]; decide))) | (with_reducible (first | refine go_drop ?_ | refine go_eqI ?_ | refine go_eqS ?_ | refine go_eqB ?_ | refine go_eq (by rfl) ?_ | refine go_gnil ?_ | refine go_iteT ?_ | refine go_iteF ?_ | refine go_iteNt ?_ | refine go_iteNf ?_ | refine go_iteNN ?_)) | (with_reducible refine go_iteDT (by first | assumption | rfl | omega | (simp only [List.length_cons, List.length_nil, List.length_map]; omega)) ?_) | (with_reducible refine go_iteDF (by first | assumption | omega | decide | decide +kernel | (simp only [List.length_cons, List.length_nil, List.length_map]; omega)) ?_) | (with_reducible refine go_iteNT (by first | assumption | rfl | omega | (simp only [List.length_cons, List.length_nil, List.length_map]; omega)) ?_) | (with_reducible refine go_iteNF (by first | assumption | omega | decide | decide +kernel | (simp only [List.length_cons, List.length_nil, List.length_map]; omega)) ?_) | (with_reducible refine go_iteBT (by first | assumption | decide +kernel) ?_) | (with_reducible refine go_iteBF (by first | assumption | decide +kernel) ?_) | (with_reducible (first | refine go_dput ?_ | refine go_setD ?_)) | ((with_reducible refine' go_gtup ?hp ?ha ?_); (case hp => walk_at "lw_hp"); (case ha => first | rfl | assumption)) | (with_reducible refine go_if ?_) | ((with_reducible refine' go_setL ?hp ?ha ?_); (case hp => walk_at "lw_hp"); (case ha => first | rfl | assumption)) | (with_reducible (first | refine go_not ?_ | refine go_or ?_ | refine go_andV ?_ | refine go_sl ?_ | refine go_nopart ?_ | refine go_part ?_ | refine go_qI ?_ | refine' go_lenLs (by assumption) ?_)) | ((with_reducible refine' go_lenL ?hp ?_); (case hp => walk_at "lw_hp")) | ((with_reducible refine' go_lenT ?hp ?_); (case hp => walk_at "lw_hp")) | ((with_reducible refine' go_inT ?hp ?ha ?hb ?_); (case hp => walk_at "lw_hp"); (case ha => rfl); (case hb => rfl)) | ((with_reducible refine' go_notInT ?hp ?ha ?hb ?_); (case hp => walk_at "lw_hp"); (case ha => rfl); (case hb => rfl)) | (with_reducible (first | refine go_pnil ?_ | refine go_pcons ?_ | refine go_un ?_ | refine go_u ?_ | refine go_for ?_ | refine go_rng1 ?_ | refine go_qrng1 (by omega) (by omega) ?_ | refine go_notN_non ?_ | refine go_notN_int ?_ | refine go_notN_str ?_ | refine go_notN_bl ?_ | refine go_notN_ref ?_ | refine go_min ?_ | refine go_bm ?_ | refine go_lc ?_)) | ((with_reducible refine' go_qbm ?hp ?_); (case hp => walk_at "lw_hp")) | (with_reducible (first | refine go_int ?_ | refine go_intB ?_ | refine go_yes ?_ | refine go_and ?_ | refine go_notV ?_ | refine go_iL ?_)) | ((with_reducible refine' go_glst ?hp ?ha ?_); (case hp => walk_at "lw_hp"); (case ha => first | rfl | assumption)) | ((with_reducible refine' go_qiL ?hp ?_); (case hp => walk_at "lw_hp")) | (with_reducible (first | refine go_par ?_ | refine go_gpar ?_ | refine go_isN_non ?_ | refine go_isN_int ?_ | refine go_isN_str ?_ | refine go_isN_bl ?_ | refine go_isN_ref ?_ | refine go_neI ?_ | refine go_neS ?_ | refine go_neB ?_ | refine go_iT ?_ | refine go_ne (by rfl) ?_)) | ((with_reducible refine' go_ixAL ?hp ?ha ?_); (case hp => walk_at "lw_hp"); (case ha => first | rfl | assumption)) | ((with_reducible refine' go_ixAT ?hp ?ha ?_); (case hp => walk_at "lw_hp"); (case ha => first | rfl | assumption)) | ((with_reducible refine' go_qiT ?hp ?_); (case hp => walk_at "lw_hp")) | (with_reducible (first | refine go_is_non_int ?_ | refine go_is_non_bool ?_ | refine go_is_non_str ?_ | refine go_is_non_tuple ?_ | refine go_is_non_list ?_ | refine go_is_bl_int ?_ | refine go_is_bl_bool ?_ | refine go_is_bl_str ?_ | refine go_is_bl_tuple ?_ | refine go_is_bl_list ?_ | refine go_is_int_int ?_ | refine go_is_int_bool ?_ | refine go_is_int_str ?_ | refine go_is_int_tuple ?_ | refine go_is_int_list ?_ | refine go_is_str_int ?_ | refine go_is_str_bool ?_ | refine go_is_str_str ?_ | refine go_is_str_tuple ?_ | refine go_is_str_list ?_)) | ((with_reducible refine' go_is_lst_int ?hp ?_); (case hp => walk_at "lw_hp")) | ((with_reducible refine' go_is_lst_bool ?hp ?_); (case hp => walk_at "lw_hp")) | ((with_reducible refine' go_is_lst_str ?hp ?_); (case hp => walk_at "lw_hp")) | ((with_reducible refine' go_is_lst_tuple ?hp ?_); (case hp => walk_at "lw_hp")) | ((with_reducible refine' go_is_lst_list ?hp ?_); (case hp => walk_at "lw_hp")) | ((with_reducible refine' go_is_tup_int ?hp ?_); (case hp => walk_at "lw_hp")) | ((with_reducible refine' go_is_tup_bool ?hp ?_); (case hp => walk_at "lw_hp")) | ((with_reducible refine' go_is_tup_str ?hp ?_); (case hp => walk_at "lw_hp")) | ((with_reducible refine' go_is_tup_tuple ?hp ?_); (case hp => walk_at "lw_hp")) | ((with_reducible refine' go_is_tup_list ?hp ?_); (case hp => walk_at "lw_hp")) | (with_reducible (first | refine go_max ?_ | refine go_bm0 ?_ | refine go_chain ?_ | refine go_qch ?_)) | ((with_reducible refine' go_qbm0 ?hp ?_); (case hp => walk_at "lw_hp")) | (with_reducible (first | refine go_retN ?_ | refine go_orV ?_ | refine go_whQ ?_ | refine go_rng2 ?_ | refine go_qrng2 (by omega) (by omega) (by omega) (by omega) ?_ | refine go_rvr ?_ | refine go_qrvr (by omega) (by omega) ?_ | refine go_enum ?_ | refine go_aug rfl ?_ | refine go_ipI ?_)) | ((with_reducible refine' go_qenum ?hp ?_); (case hp => walk_at "lw_hp")) | ((with_reducible refine' go_sumL ?hp ?_); (case hp => walk_at "lw_hp")))))
abbrev s__law_any_program : Stmt := top 51
structure RL (K : PySem.W.Frag) (d L : Addr) (H4 : Hp) (rs : List Row) (vs : List V) (H : Hp) : Prop where
  hL : H4 L = none
  nL : d ≠ L
  e : H L = some (.lst vs)
  R : RowsAt H rs vs
  D : Dice K H d
  o : Off d H4 H
section
variable {K : PySem.W.Frag} {d L p : Addr} {H4 H H' : Hp} {rs : List Row} {vs xs : List V} {v : V} {r : Row} {j : Nat}
theorem RL.new (h : RL K d L H4 rs vs H) (hp : H p = none) (ob : HO) : RL K d L H4 rs vs (upd H p ob) :=
  ⟨h.hL, h.nL, upd_new hp h.e, h.R.mono (TK.new hp), h.D.same (same_new hp _), h.o.trans (same_new hp _).off⟩
theorem RL.off (h : RL K d L H4 rs vs H) (D' : Dice K H' d) (o : Off d H H') : RL K d L H4 rs vs H' :=
  ⟨h.hL, h.nL, o _ _ h.e h.nL.symm, h.R.mono (h.D.tk o), D', h.o.trans o⟩
theorem RL.set (h : RL K d L H4 rs vs H) (a : RowAt H r v) (j : Nat) : RL K d L H4 (rs.set j r) (vs.set j v) (upd H L (.lst (vs.set j v))) :=
  ⟨h.hL, h.nL, upd_same, (h.R.set a).mono (TK.updL h.e), h.D.updL h.e h.nL, off_fresh h.hL h.o⟩
theorem RL.updF (h : RL K d L H4 rs vs H) (hn : H4 p = none) {ys : List V} (hp : H p = some (.lst ys)) (n1 : L ≠ p) (n2 : d ≠ p) (ob : HO) : RL K d L H4 rs vs (upd H p ob) :=
  ⟨h.hL, h.nL, upd_oth n1 h.e, h.R.mono (TK.updL hp), h.D.updL hp n2, off_fresh hn h.o⟩
theorem RL.snoc (h : RL K d L H4 rs vs H) (a : RowAt H r v) : RL K d L H4 (rs ++ [r]) (vs ++ [v]) (upd H L (.lst (vs ++ [v]))) :=
  ⟨h.hL, h.nL, upd_same, (h.R.snoc a).mono (TK.updL h.e), h.D.updL h.e h.nL, off_fresh h.hL h.o⟩
end
def spProg (K : PySem.W.Frag) : Sp := fun vs H Q _ => ∃ (d : Addr) (most : Int), vs = [.ref d, .int most] ∧ Dice K H d ∧ 0 ≤ most ∧ most ≤ 58 ∧
  ∀ (v : V) (p : Prog) (H' : Hp), p.Ok → ProgAt H' p v → Dice K H' d → Off d H H' → Q v H'
section
variable {P : Program} {w : World} {K : PySem.W.Frag} {mg : Str → Option Value} {base : Heap} {f : Addr} {fd : FuncData}
theorem scs__law_any_program : FnScope ["_law_d", "_law_most", "_law_loop", "_law_many", "_law_rows", "_law_names", "_law_files", "_law_at", "_law_row"] ["_law_d", "_law_most"] (defScope s__law_any_program) := ⟨rfl, rfl, rfl, by decide +kernel, rfl, by decide +kernel, by decide +kernel⟩
theorem ok_prog (F : Fun K "_law_any_program" "_law_any_program" s__law_any_program f fd) (T : Txt mg) (C_law_next : FnC P w K mg base 1 "_law_next" ["_law_dice_here", "_law_many"] (spNext K)) (C_law_any_row : FnC P w K mg base 5 "_law_any_row" ["_law_d", "_law_names", "_law_files", "_law_at", "_law_many"] (spRow K)) : FnOk P w K mg base CX0 6 f fd ["_law_d", "_law_most"] (spProg K) := by
  refine F.ok scs__law_any_program (fun vs H Q E h => ?_) (fun cdv A outer s H vs Q E hr h => ?_)
  · obtain ⟨d, most, rfl, _⟩ := h
    rfl
  obtain ⟨d, most, rfl, D, hm1, hm2, k⟩ := h
  have nd := scs__law_any_program.nd
  have hu := hu_of hr
  refine ⟨_, (pss_cons (ps_asg (pe_tup (pa_cons (pe_op op_add pe_int (pe_callC C_law_next (hr.mono (by omega)) (by rfl) (pa_cons (pv 0) (pa_cons pe_int pa_nil)))) (pa_cons (pe_op op_add pe_int (pe_callC C_law_next (hr.mono (by omega)) (by rfl) (pa_cons (pv 0) (pa_cons pe_int pa_nil)))) pa_nil))) (kPgT K (by rfl) (pgs_cons (pg_name (i := 5) nd rfl (Or.inr rfl)) (pgs_cons (pg_name (i := 6) nd rfl (Or.inr rfl)) pgs_nil))))
      (pss_cons (ps_set (i := 2) nd rfl (Or.inl rfl) (pe_cmpR op_eq (pe_callC C_law_next (hr.mono (by omega)) (by rfl) (pa_cons (pv 0) (pa_cons pe_int pa_nil))) pe_int (nomark _)))
      (pss_cons (ps_set (i := 3) nd rfl (Or.inr rfl) (pe_callC C_law_next (hr.mono (by omega)) (by rfl) (pa_cons (pv 0) (pa_cons (pe_op op_add (pv 1) pe_int) pa_nil))))
      (pss_cons (ps_setLc (i := 4) rfl nd rfl rfl (sw_true rfl rfl rfl rfl) (pi_range1 (by rfl) T.n_range (pa_cons (pv 3) pa_nil)) (blkOk_by (own := [("_law_at", 7)]) (by show blkC ["_law_d", "_law_most", "_law_loop", "_law_many", "_law_rows", "_law_names", "_law_files", "_law_at", "_law_row"] (defScope s__law_any_program) _ _ = true; decide +kernel)) (fun _ _ _ _ _ => (pg_name (i := 7) nd rfl (Or.inl rfl))) (fun _ _ _ _ _ => pts_nil) (fun _ _ _ _ _ => (pe_callC C_law_any_row (hr.mono (by omega)) (by rfl) (pa_cons (pv 0) (pa_cons (pv 5) (pa_cons (pv 6) (pa_cons (pv 7) (pa_cons (pv 3) pa_nil))))))))
      (pss_cons (ps_if (PW.pt (pw_and (pt_val (pv 2)) (pw_and1 (pt_cmpR op_gt (pv 3) pe_int (nomark _))))) (pss_cons (ps_set (i := 7) nd rfl (Or.inl rfl) (pe_callC C_law_next (hr.mono (by omega)) (by rfl) (pa_cons (pv 0) (pa_cons (pe_op op_sub (pv 3) pe_int) pa_nil))))
      (pss_cons (ps_asg (pe_tup (pa_cons pe_str (pa_cons (pe_op op_sub (pv 5) pe_int) (pa_cons (pe_tup (pa_cons pe_str (pa_cons (pe_op op_add pe_int (pe_callC C_law_next (hr.mono (by omega)) (by rfl) (pa_cons (pv 0) (pa_cons pe_int pa_nil)))) pa_nil))) pa_nil)))) (pg_sub (pv 4) pe_int set_list))
      (pss_cons (ps_asg (pe_tup (pa_cons pe_str (pa_cons (pe_op op_sub (pv 5) pe_int) (pa_cons (pe_tup (pa_cons pe_str (pa_cons (pe_tup (pa_cons pe_str (pa_cons (pe_op op_sub (pv 5) pe_int) pa_nil))) (pa_cons (pe_tup (pa_cons pe_str (pa_cons pe_int pa_nil))) pa_nil)))) pa_nil)))) (pg_sub (pv 4) (pe_op op_sub (pv 3) pe_int) set_list))
      (pss_cons (ps_asg (pe_tup (pa_cons pe_str (pa_cons (pe_op op_sub (pv 5) pe_int) (pa_cons (pv 3) pa_nil)))) (pg_sub (pv 4) (pe_op op_sub (pv 3) pe_int) set_list))
      (pss_cons (ps_expr (pe_bm PySem.F.plainAttrs_list PySem.F.slot_list_append PySem.F.type_list_append mt_append (pv 4) (pa_cons (pe_tup (pa_cons pe_str (pa_cons (pe_op op_add pe_int (pv 7)) pa_nil))) pa_nil)))
      (pss_cons (ps_setLc (i := 4) rfl nd rfl rfl (sw_true rfl rfl rfl rfl) (kPiL K (pv 4)) (blkOk_by (own := [("_law_row", 8)]) (by show blkC ["_law_d", "_law_most", "_law_loop", "_law_many", "_law_rows", "_law_names", "_law_files", "_law_at", "_law_row"] (defScope s__law_any_program) _ _ = true; decide +kernel)) (fun _ _ _ _ _ => (pg_name (i := 8) nd rfl (Or.inl rfl))) (fun _ _ _ _ _ => pts_nil) (fun _ _ _ _ _ => (pe_ifExp (pt_cmpR (kIn K) (pe_ix (kIxT K) (pv 8) pe_int (fun _ _ => rfl)) (pe_tup (pa_cons pe_str (pa_cons pe_str pa_nil))) (by rfl)) (pe_op (kCatT K) (pe_slice (kSlT K) (pv 8) po_none (po_some (pe_un un_neg pe_int))) (pe_tup (pa_cons (pe_callB (c_min rfl) (by rfl) T.n_min (by decide +kernel) (pa_cons (pe_ix (kIxT K) (pv 8) (pe_un un_neg pe_int) (fun _ _ => rfl)) (pa_cons (pe_op op_add (pv 3) pe_int) pa_nil))) pa_nil))) (pv 8))))
      (pss_one (ps_asg (pe_tup (pa_cons pe_str (pa_cons (pe_op op_sub (pv 5) pe_int) (pa_cons (pe_op op_add (pv 3) pe_int) pa_nil)))) (pg_sub (pv 4) (pe_op op_sub (pv 3) pe_int) set_list))))))))) pss_nil)
      (pss_one (ps_ret (pe_tup (pa_cons (pv 5) (pa_cons (pv 6) (pa_cons (pe_callTy (kTuple K) (by rfl) T.n_tuple (by decide +kernel) (pa_cons (pv 4) pa_nil)) pa_nil))))))))))), ?_⟩
  walk_at "lw_go"
  refine nx_go D (by omega) (by omega) (fun a1 H1 a10 a11 D1 o1 => ?_)
  walk_at "lw_go"
  refine nx_go D1 (by omega) (by omega) (fun a2 H2 a20 a21 D2 o2 => ?_)
  walk_at "lw_go"
  refine go_qtup (Nat.le_of_ble_eq_true rfl) (fun p hp => ?_)
  walk_at "lw_go"
  refine nx_go (D2.same (same_new hp _)) (by omega) (by omega) (fun a3 H3 a30 a31 D3 o3 => ?_)
  walk_at "lw_go"
  refine nx_go D3 (by omega) (by omega) (fun mny H4 m0 m1 D4 o4 => ?_)
  walk_at "lw_go"
  have O4 : Off d H H4 := by (repeat (first | assumption | exact Off.refl _ _ | (refine' Off.trans ?_ (Same.off (same_new (by assumption) _))) | (refine' Off.trans ?_ (by assumption))))
  clear o1 o2 o3 o4
  obtain ⟨nm, hnm⟩ : ∃ nm, nm = 1 + a1 := ⟨_, rfl⟩
  obtain ⟨fl, hfl⟩ : ∃ fl, fl = 1 + a2 := ⟨_, rfl⟩
  rw [← hnm, ← hfl]
  refine lq_range (fun L hL => ?_)
  have nL : d ≠ L := (D4.nef hL).symm
  refine ⟨fun i H' => ∃ rs vs, H' L = some (.lst vs) ∧ RowsAt H' rs vs ∧ rs.length = i ∧ (∀ r ∈ rs, r.ok nm fl mny) ∧ Dice K H' d ∧ Off d H4 H', ?_, ?_, ?_⟩
  · exact ⟨[], [], upd_same, .nil, rfl, (fun r h => by cases h), D4.same (same_new hL _), (same_new hL _).off⟩
  · rintro i H' hi ⟨rs, vs, e, hR, hl, hok, D', o'⟩
    refine go_gname ⟨rfl, ?_⟩
    walk_at "lw_go"
    refine ⟨d, nm, fl, 0 + i, mny, rfl, D', by omega, by omega, by omega, by omega, by omega, by omega, by omega, fun v r H5 k5 a5 D5 o5 => ?_⟩
    have e5 : H5 L = some (.lst vs) := o5 _ _ e nL.symm
    refine go_lcA e5 (small_line (by rw [← hR.length]; omega)) ?_
    have t5 : TK H5 (upd H5 L (.lst (vs ++ [v]))) := TK.updL e5
    exact ⟨rs ++ [r], vs ++ [v], upd_same, ((hR.mono (D'.tk o5)).snoc a5).mono t5, by simp [hl], mem_snoc hok k5, D5.updL e5 nL, off_fresh hL (o'.trans o5)⟩
  · rintro H5 ⟨rs, vs, e, hR, hl, hok, D5, o5⟩
    have fin : ∀ (H5 : Hp) (rs : List Row) (vs : List V), RowsAt H5 rs vs → rs.length ≤ 60 → (∀ r ∈ rs, r.ok nm fl (rs.length : Nat)) → Dice K H5 d → Off d H4 H5 →
        ∀ b, H5 b = none → ∀ a, upd H5 b (.tup vs) a = none → Q (.ref a) (upd (upd H5 b (.tup vs)) a (.tup [.int nm, .int fl, .ref b])) := by
      intro H5 rs vs hR hl hok D5 o5 b hb a ha
      refine k _ ⟨nm, fl, rs⟩ _ ⟨by show 1 ≤ nm; omega, by show nm ≤ 8; omega, by show 1 ≤ fl; omega, by show fl ≤ 4; omega, hl, hok⟩ ⟨a, b, vs, rfl, upd_same, upd_new ha upd_same, hR.mono ((TK.new hb).trans (TK.new ha))⟩ ((D5.same (same_new hb _)).same (same_new ha _)) (O4.trans (o5.trans ((same_new hb _).trans (same_new ha _)).off))
    walk_at "lw_go"
    refine go_iteD (fun c1 => ?_) (fun c1 => ?_)
    · walk_at "lw_go"
      refine go_iteD (fun c2 => ?_) (fun c2 => ?_)
      · have B5 : RL K d L H4 rs vs H5 := ⟨hL, nL, e, hR, D5, o5⟩
        have hv : vs.length = mny.toNat := by rw [← hR.length]; exact hl
        have hok' : ∀ r ∈ rs, r.ok nm fl (mny + 1) := fun r h => Row.ok_mono (by omega) (hok r h)
        clear e hR D5 o5
        walk_at "lw_go"
        refine nx_go B5.D (by omega) (by omega) (fun ato H6 at0 at1 D6 o6 => ?_)
        have B6 := B5.off D6 o6
        walk_at "lw_go"
        refine nx_go D6 (by omega) (by omega) (fun q H7 q0 q1 D7 o7 => ?_)
        have B7 := B6.off D7 o7
        walk_at "lw_go"
        refine go_qtup (Nat.le_of_ble_eq_true rfl) (fun p1 h1 => ?_)
        have B8 := B7.new h1 (.tup [.str "num", .int (1 + q)])
        walk_at "lw_go"
        refine go_qtup (Nat.le_of_ble_eq_true rfl) (fun p2 h2 => ?_)
        have B9 := B8.new h2 (.tup [.str "set", .int (nm - 1), .ref p1])
        have a9 : RowAt (upd (upd H7 p1 (.tup [.str "num", .int (1 + q)])) p2 (.tup [.str "set", .int (nm - 1), .ref p1])) (.set (nm - 1) (.num (1 + q))) (.ref p2) := ⟨p2, _, rfl, upd_same, _, rfl, p1, rfl, by walk_at "lw_hp"⟩
        generalize upd (upd H7 p1 (.tup [.str "num", .int (1 + q)])) p2 (.tup [.str "set", .int (nm - 1), .ref p1]) = H9 at *
        walk_at "lw_go"
        refine go_setL B9.e (ixN_of (by omega) (by omega)) ?_
        have B10 := B9.set a9 (Int.toNat 0)
        generalize upd H9 L (.lst (vs.set (Int.toNat 0) (.ref p2))) = H10 at *
        walk_at "lw_go"
        refine go_qtup (Nat.le_of_ble_eq_true rfl) (fun p3 h3 => ?_)
        walk_at "lw_go"
        refine go_qtup (Nat.le_of_ble_eq_true rfl) (fun p4 h4 => ?_)
        walk_at "lw_go"
        refine go_qtup (Nat.le_of_ble_eq_true rfl) (fun p5 h5 => ?_)
        walk_at "lw_go"
        refine go_qtup (Nat.le_of_ble_eq_true rfl) (fun p6 h6 => ?_)
        have B11 := (((B10.new h3 _).new h4 _).new h5 _).new h6 (.tup [.str "set", .int (nm - 1), .ref p5])
        have a11 : RowAt _ (.set (nm - 1) (.op .diff (.name (nm - 1)) (.num 1))) (.ref p6) := ⟨p6, _, rfl, upd_same, _, rfl, p5, _, _, rfl, upd_new h6 upd_same, ⟨p3, rfl, upd_new h6 (upd_new h5 (upd_new h4 upd_same))⟩, ⟨p4, rfl, upd_new h6 (upd_new h5 upd_same)⟩⟩
        generalize upd (upd (upd (upd H10 p3 _) p4 _) p5 _) p6 _ = H11 at *
        walk_at "lw_go"
        refine go_setL B11.e (ixN_of (by omega) (by rw [List.length_set]; omega)) ?_
        have B12 := B11.set a11 (mny - 2).toNat
        generalize upd H11 L _ = H12 at *
        walk_at "lw_go"
        refine go_qtup (Nat.le_of_ble_eq_true rfl) (fun p7 h7 => ?_)
        have B13 := B12.new h7 (.tup [.str "unless", .int (nm - 1), .int mny])
        have a13 : RowAt (upd H12 p7 (.tup [.str "unless", .int (nm - 1), .int mny])) (.unl (nm - 1) mny) (.ref p7) := ⟨p7, _, rfl, upd_same, rfl⟩
        generalize upd H12 p7 _ = H13 at *
        walk_at "lw_go"
        refine go_setL B13.e (ixN_of (by omega) (by rw [List.length_set, List.length_set]; omega)) ?_
        have B14 := B13.set a13 (mny - 1).toNat
        generalize upd H13 L _ = H14 at *
        have e14 := B14.e
        walk_at "lw_go"
        refine go_qtup (Nat.le_of_ble_eq_true rfl) (fun p8 h8 => ?_)
        have B15 := B14.new h8 (.tup [.str "go", .int (1 + ato)])
        have a15 : RowAt (upd H14 p8 (.tup [.str "go", .int (1 + ato)])) (.go (1 + ato)) (.ref p8) := ⟨p8, _, rfl, upd_same, rfl⟩
        generalize upd H14 p8 _ = H15 at *
        walk_at "lw_go"
        refine go_append B15.e (small_line (by simp only [List.length_set]; omega)) ?_
        have B16 := B15.snoc a15
        generalize upd H15 L _ = H16 at *
        have ok16 : ∀ r ∈ (((rs.set (Int.toNat 0) (.set (nm - 1) (.num (1 + q)))).set (mny - 2).toNat (.set (nm - 1) (.op .diff (.name (nm - 1)) (.num 1)))).set (mny - 1).toNat (.unl (nm - 1) mny) ++ [Row.go (1 + ato)]), r.ok nm fl (mny + 1) :=
          mem_snoc (mem_set (mem_set (mem_set hok' ⟨by omega, by omega, by omega, by omega⟩) ⟨by omega, by omega, ⟨by omega, by omega⟩, by omega, by omega⟩) ⟨by omega, by omega, by omega, by omega⟩) ⟨by omega, by omega⟩
        have ln16 : (((rs.set (Int.toNat 0) (.set (nm - 1) (.num (1 + q)))).set (mny - 2).toNat (.set (nm - 1) (.op .diff (.name (nm - 1)) (.num 1)))).set (mny - 1).toNat (.unl (nm - 1) mny) ++ [Row.go (1 + ato)]).length = mny.toNat + 1 := by simp [hl]
        generalize (((rs.set (Int.toNat 0) (.set (nm - 1) (.num (1 + q)))).set (mny - 2).toNat (.set (nm - 1) (.op .diff (.name (nm - 1)) (.num 1)))).set (mny - 1).toNat (.unl (nm - 1) mny) ++ [Row.go (1 + ato)]) = rs16 at *
        generalize ((((vs.set (Int.toNat 0) (.ref p2)).set (mny - 2).toNat (.ref p6)).set (mny - 1).toNat (.ref p7)) ++ [.ref p8]) = vs16 at *
        clear B5 B6 B7 B8 B9 B10 B11 B12 B13 B14 B15 e14 a9 a11 a13 a15
        have e16 := B16.e
        walk_at "lw_go"
        refine lq_list vs16 (fun L2 hL2 => ?_)
        have n2 : d ≠ L2 := (B16.D.nef hL2).symm
        have n3 : L ≠ L2 := ne_of_none e16 hL2
        have hN : H4 L2 = none := by
          cases z : H4 L2 with
          | none => rfl
          | some u => rw [B16.o _ _ z n2.symm] at hL2; cases hL2
        refine ⟨fun i H' => ∃ us, H' L2 = some (.lst us) ∧ RowsAt H' ((rs16.take i).map (Row.clip (mny + 1))) us ∧ RL K d L H4 rs16 vs16 H', ?_, ?_, ?_, ?_⟩
        · exact ⟨[], upd_same, .nil, B16.new hL2 _⟩
        · rintro i H' _ ⟨us, _, _, B'⟩
          exact SqL.of B'.e
        · rintro i x H' hx ⟨us, eu, hU, B'⟩
          obtain ⟨r, hr', a'⟩ := B'.R.take_succ hx
          have hlt : i < rs16.length := (List.getElem?_eq_some_iff.mp hr').1
          have hul : us.length < sizeLine := small_line (by rw [← hU.length, List.length_map, List.length_take]; omega)
          have tk : (rs16.take (i + 1)).map (Row.clip (mny + 1)) = (rs16.take i).map (Row.clip (mny + 1)) ++ [r.clip (mny + 1)] := by rw [take_snoc hr', List.map_append]; rfl
          refine go_gname ⟨rfl, ?_⟩
          obtain ⟨xa, xs, rfl, hxa, hxs⟩ := a'
          obtain ⟨wd, rest, rfl, hwd⟩ := hxs.word
          have hat : atI (V.str wd :: rest) 0 = some (.str wd) := atI_nat (xs := V.str wd :: rest) (j := 0) rfl
          walk_at "lw_go"
          refine go_qtup (Nat.le_of_ble_eq_true rfl) (fun pz hz => ?_)
          walk_at "lw_go"
          rw [hwd]
          cases hj : r.jumps with
          | false =>
            refine go_iteF ?_
            walk_at "lw_go"
            refine go_lcA (by walk_at "lw_hp") hul ?_
            refine ⟨us ++ [.ref xa], upd_same, ?_, (B'.new hz _).updF hN (upd_new hz eu) n3 n2 _⟩
            rw [tk, Row.clip_no hj]
            have q1 : TK H' (upd (upd H' pz (.tup [.str "go", .str "unless"])) L2 (.lst (us ++ [.ref xa]))) := (TK.new hz).trans (TK.updL (upd_new hz eu))
            exact (hU.mono q1).snoc ⟨xa, _, rfl, q1.get hxa, hxs.mono q1⟩
          | true =>
            refine go_iteT ?_
            rcases r with _ | _ | _ | _ | _ | _ | _ | _ | r' | ⟨n', r'⟩ | _ <;> try cases hj
            · cases hxs
              clear hat hwd
              walk_at "lw_go"
              refine go_slT (by walk_at "lw_hp") (by show ¬ (HT.sIx 2 0 none = 0 ∧ HT.sIx 2 2 (some (-1)) = 2); decide) (fun pc hc => ?_)
              walk_at "lw_go"
              refine go_qtup (Nat.le_of_ble_eq_true rfl) (fun pm hpm => ?_)
              refine go_catT (xs := [V.str "go"]) (ys := [.int (min r' (mny + 1))]) (upd_new hpm upd_same) upd_same (by intro z; cases z) (by intro z; cases z) (Nat.le_of_ble_eq_true rfl) (fun pr hpr => ?_)
              have e1 := upd_new hpr (o := .tup ([V.str "go"] ++ [.int (min r' (mny + 1))])) (upd_new hpm (o := .tup [.int (min r' (mny + 1))]) (upd_new hc (o := .tup [V.str "go"]) (upd_new hz (o := .tup [.str "go", .str "unless"]) eu)))
              refine go_lcA e1 hul ?_
              refine ⟨us ++ [.ref pr], upd_same, ?_, ((((B'.new hz _).new hc _).new hpm _).new hpr _).updF hN e1 n3 n2 _⟩
              rw [tk]
              have q0 := (((TK.new (o := .tup [.str "go", .str "unless"]) hz).trans (TK.new (o := .tup [V.str "go"]) hc)).trans (TK.new (o := .tup [.int (min r' (mny + 1))]) hpm)).trans (TK.new (o := .tup ([V.str "go"] ++ [.int (min r' (mny + 1))])) hpr)
              exact ((hU.mono q0).snoc (show RowAt _ (Row.go (min r' (mny + 1))) (.ref pr) from ⟨pr, _, rfl, upd_same, rfl⟩)).mono (TK.updL e1)
            · cases hxs
              clear hat hwd
              walk_at "lw_go"
              refine go_slT (by walk_at "lw_hp") (by show ¬ (HT.sIx 3 0 none = 0 ∧ HT.sIx 3 3 (some (-1)) = 3); decide) (fun pc hc => ?_)
              walk_at "lw_go"
              refine go_qtup (Nat.le_of_ble_eq_true rfl) (fun pm hpm => ?_)
              refine go_catT (xs := [V.str "unless", V.int n']) (ys := [.int (min r' (mny + 1))]) (upd_new hpm upd_same) upd_same (by intro z; cases z) (by intro z; cases z) (Nat.le_of_ble_eq_true rfl) (fun pr hpr => ?_)
              have e1 := upd_new hpr (o := .tup ([V.str "unless", V.int n'] ++ [.int (min r' (mny + 1))])) (upd_new hpm (o := .tup [.int (min r' (mny + 1))]) (upd_new hc (o := .tup [V.str "unless", V.int n']) (upd_new hz (o := .tup [.str "go", .str "unless"]) eu)))
              refine go_lcA e1 hul ?_
              refine ⟨us ++ [.ref pr], upd_same, ?_, ((((B'.new hz _).new hc _).new hpm _).new hpr _).updF hN e1 n3 n2 _⟩
              rw [tk]
              have q0 := (((TK.new (o := .tup [.str "go", .str "unless"]) hz).trans (TK.new (o := .tup [V.str "unless", V.int n']) hc)).trans (TK.new (o := .tup [.int (min r' (mny + 1))]) hpm)).trans (TK.new (o := .tup ([V.str "unless", V.int n'] ++ [.int (min r' (mny + 1))])) hpr)
              exact ((hU.mono q0).snoc (show RowAt _ (Row.unl n' (min r' (mny + 1))) (.ref pr) from ⟨pr, _, rfl, upd_same, rfl⟩)).mono (TK.updL e1)
        · rintro H17 ⟨us, eu, hU, B'⟩
          have hlv : vs16.length = rs16.length := B'.R.length.symm
          rw [hlv, List.take_length] at hU
          have ok17 : ∀ r ∈ rs16.map (Row.clip (mny + 1)), r.ok nm fl (mny + 1) := fun r h => by
            obtain ⟨r0, h0, rfl⟩ := List.mem_map.mp h
            exact Row.clip_ok (by omega) (ok16 r0 h0)
          have ln17 : (rs16.map (Row.clip (mny + 1))).length = mny.toNat + 1 := by rw [List.length_map, ln16]
          generalize rs16.map (Row.clip (mny + 1)) = rs17 at *
          have B17 : RL K d L2 H4 rs17 us H17 := ⟨hN, n2, eu, hU, B'.D, B'.o⟩
          have hul : us.length = mny.toNat + 1 := by rw [← hU.length, ln17]
          walk_at "lw_go"
          refine go_qtup (Nat.le_of_ble_eq_true rfl) (fun p9 h9 => ?_)
          have B18 := B17.new h9 (.tup [.str "unless", .int (nm - 1), .int (mny + 1)])
          have a18 : RowAt (upd H17 p9 (.tup [.str "unless", .int (nm - 1), .int (mny + 1)])) (.unl (nm - 1) (mny + 1)) (.ref p9) := ⟨p9, _, rfl, upd_same, rfl⟩
          generalize upd H17 p9 _ = H18 at *
          walk_at "lw_go"
          refine go_setL B18.e (ixN_of (by omega) (by omega)) ?_
          have B19 := B18.set a18 (mny - 1).toNat
          generalize upd H18 L2 _ = H19 at *
          have e19 := B19.e
          walk_at "lw_go"
          refine go_tupleL e19 (fun b hb => ?_)
          walk_at "lw_go"
          refine go_qtup (Nat.le_of_ble_eq_true rfl) (fun a ha => ?_)
          have ln19 : (rs17.set (mny - 1).toNat (.unl (nm - 1) (mny + 1))).length = mny.toNat + 1 := by rw [List.length_set, ln17]
          refine fin H19 _ _ B19.R (by rw [ln19]; omega) (fun r h => ?_) B19.D B19.o b hb a ha
          have c0 : (((rs17.set (mny - 1).toNat (.unl (nm - 1) (mny + 1))).length : Nat) : Int) = mny + 1 := by rw [ln19]; omega
          rw [c0]
          exact mem_set (P := fun r => Row.ok nm fl (mny + 1) r) (y := Row.unl (nm - 1) (mny + 1)) ok17 ⟨by omega, by omega, by omega, by omega⟩ r h
      · walk_at "lw_go"
        refine go_tupleL e (fun b hb => ?_)
        walk_at "lw_go"
        refine go_qtup (Nat.le_of_ble_eq_true rfl) (fun a ha => ?_)
        exact fin H5 rs vs hR (by omega) (fun r h => by rw [hl, Int.toNat_of_nonneg m0]; exact hok r h) D5 o5 b hb a ha
    · walk_at "lw_go"
      refine go_tupleL e (fun b hb => ?_)
      walk_at "lw_go"
      refine go_qtup (Nat.le_of_ble_eq_true rfl) (fun a ha => ?_)
      exact fin H5 rs vs hR (by omega) (fun r h => by rw [hl, Int.toNat_of_nonneg m0]; exact hok r h) D5 o5 b hb a ha
end
end Lw
set_option Elab.async false
set_option linter.all false
set_option maxRecDepth 100000
set_option maxHeartbeats 4000000
namespace Lw
open PySem L2
local macro_rules | `(tactic| walk_at "lw_hp") => `(tactic| (repeat (first | assumption | exact upd_same | (refine' upd_new (by assumption) ?_) | (refine' tup_off (by assumption) (by assumption) ?_) | (refine' lst_off (by assumption) (by assumption) (by assumption) ?_) | (refine' Same.get (by assumption) ?_) | (refine' Off.get (by assumption) (by assumption) ?_) | (refine' upd_oth (by assumption) ?_))))
local macro_rules | `(tactic| walk_at "lw_go") => `(tactic| (repeat (first | (with_reducible (first | refine go_var rfl ?_ | refine go_c ?_ | refine go_cons ?_ | refine go_op ?_ | refine go_nil ?_ | refine go_seq ?_ | refine go_qb ?_ | refine go_test ?_ | refine go_ifS ?_ | refine go_gname ?_ | refine go_cb ?_)) | ((with_reducible refine' go_ixT ?hp ?ha ?_); (case hp => walk_at "lw_hp"); (case ha => first | rfl | assumption)) | (with_reducible (first | refine go_asg ?_ | refine go_callC ?_ | refine go_next ?_ | refine go_tup ?_ | refine go_i0 ?_ | refine go_ret ?_ | refine go_dget ?_ | refine go_gcons ?_ | refine go_gsub ?_ | refine go_testB ?_)) | ((with_reducible refine' go_ixL ?hp ?ha ?_); (case hp => walk_at "lw_hp"); (case ha => first | rfl | assumption)) | (with_reducible (first | refine' go_ixLs (by assumption) (by assumption) ?_ | refine go_lst ?_)) | ((with_reducible refine' go_i ?cc ?_); (case cc => first | omega | (simp only [CDiv, CMul, CPow]; omega) | (simp only [CDiv, CMul, CPow]; decide))) | (with_reducible (first | refine go_drop ?_ | refine go_eqI ?_ | refine go_eqS ?_ | refine go_eqB ?_ | refine go_eq (by rfl) ?_ | refine go_gnil ?_ | refine go_iteT ?_ | refine go_iteF ?_ | refine go_iteNt ?_ | refine go_iteNf ?_ | refine go_iteNN ?_)) | (with_reducible refine go_iteDT (by first | assumption | rfl | omega | (simp only [List.length_cons, List.length_nil, List.length_map]; omega)) ?_) | (with_reducible refine go_iteDF (by first | assumption | omega | decide | decide +kernel | (simp only [List.length_cons, List.length_nil, List.length_map]; omega)) ?_) | (with_reducible refine go_iteNT (by first | assumption | rfl | omega | (simp only [List.length_cons, List.length_nil, List.length_map]; omega)) ?_) | (with_reducible refine go_iteNF (by first | assumption | omega | decide | decide +kernel | (simp only [List.length_cons, List.length_nil, List.length_map]; omega)) ?_) | (with_reducible refine go_iteBT (by first | assumption | decide +kernel) ?_) | (with_reducible refine go_iteBF (by first | assumption | decide +kernel) ?_) | (with_reducible (first | refine go_dput ?_ | refine go_setD ?_)) | ((with_reducible refine' go_gtup ?hp ?ha ?_); (case hp => walk_at "lw_hp"); (case ha => first | rfl | assumption)) | (with_reducible refine go_if ?_) | ((with_reducible refine' go_setL ?hp ?ha ?_); (case hp => walk_at "lw_hp"); (case ha => first | rfl | assumption)) | (with_reducible (first | refine go_not ?_ | refine go_or ?_ | refine go_andV ?_ | refine go_sl ?_ | refine go_nopart ?_ | refine go_part ?_ | refine go_qI ?_ | refine' go_lenLs (by assumption) ?_)) | ((with_reducible refine' go_lenL ?hp ?_); (case hp => walk_at "lw_hp")) | ((with_reducible refine' go_lenT ?hp ?_); (case hp => walk_at "lw_hp")) | ((with_reducible refine' go_inT ?hp ?ha ?hb ?_); (case hp => walk_at "lw_hp"); (case ha => rfl); (case hb => rfl)) | ((with_reducible refine' go_notInT ?hp ?ha ?hb ?_); (case hp => walk_at "lw_hp"); (case ha => rfl); (case hb => rfl)) | (with_reducible (first | refine go_pnil ?_ | refine go_pcons ?_ | refine go_un ?_ | refine go_u ?_ | refine go_for ?_ | refine go_rng1 ?_ | refine go_qrng1 (by omega) (by omega) ?_ | refine go_notN_non ?_ | refine go_notN_int ?_ | refine go_notN_str ?_ | refine go_notN_bl ?_ | refine go_notN_ref ?_ | refine go_min ?_ | refine go_bm ?_ | refine go_lc ?_)) | ((with_reducible refine' go_qbm ?hp ?_); (case hp => walk_at "lw_hp")) | (with_reducible (first | refine go_int ?_ | refine go_intB ?_ | refine go_yes ?_ | refine go_and ?_ | refine go_notV ?_ | refine go_iL ?_)) | ((with_reducible refine' go_glst ?hp ?ha ?_); (case hp => walk_at "lw_hp"); (case ha => first | rfl | assumption)) | ((with_reducible refine' go_qiL ?hp ?_); (case hp => walk_at "lw_hp")) | (with_reducible (first | refine go_par ?_ | refine go_gpar ?_ | refine go_isN_non ?_ | refine go_isN_int ?_ | refine go_isN_str ?_ | refine go_isN_bl ?_ | refine go_isN_ref ?_ | refine go_neI ?_ | refine go_neS ?_ | refine go_neB ?_ | refine go_iT ?_ | refine go_ne (by rfl) ?_)) | ((with_reducible refine' go_ixAL ?hp ?ha ?_); (case hp => walk_at "lw_hp"); (case ha => first | rfl | assumption)) | ((with_reducible refine' go_ixAT ?hp ?ha ?_); (case hp => walk_at "lw_hp"); (case ha => first | rfl | assumption)) | ((with_reducible refine' go_qiT ?hp ?_); (case hp => walk_at "lw_hp")) | (with_reducible (first | refine go_is_non_int ?_ | refine go_is_non_bool ?_ | refine go_is_non_str ?_ | refine go_is_non_tuple ?_ | refine go_is_non_list ?_ | refine go_is_bl_int ?_ | refine go_is_bl_bool ?_ | refine go_is_bl_str ?_ | refine go_is_bl_tuple ?_ | refine go_is_bl_list ?_ | refine go_is_int_int ?_ | refine go_is_int_bool ?_ | refine go_is_int_str ?_ | refine go_is_int_tuple ?_ | refine go_is_int_list ?_ | refine go_is_str_int ?_ | refine go_is_str_bool ?_ | refine go_is_str_str ?_ | refine go_is_str_tuple ?_ | refine go_is_str_list ?_)) | ((with_reducible refine' go_is_lst_int ?hp ?_); (case hp => walk_at "lw_hp")) | ((with_reducible refine' go_is_lst_bool ?hp ?_); (case hp => walk_at "lw_hp")) | ((with_reducible refine' go_is_lst_str ?hp ?_); (case hp => walk_at "lw_hp")) | ((with_reducible refine' go_is_lst_tuple ?hp ?_); (case hp => walk_at "lw_hp")) | ((with_reducible refine' go_is_lst_list ?hp ?_); (case hp => walk_at "lw_hp")) | ((with_reducible refine' go_is_tup_int ?hp ?_); (case hp => walk_at "lw_hp")) | ((with_reducible refine' go_is_tup_bool ?hp ?_); (case hp => walk_at "lw_hp")) | ((with_reducible refine' go_is_tup_str ?hp ?_); (case hp => walk_at "lw_hp")) | ((with_reducible refine' go_is_tup_tuple ?hp ?_); (case hp => walk_at "lw_hp")) | ((with_reducible refine' go_is_tup_list ?hp ?_); (case hp => walk_at "lw_hp")) | (with_reducible (first | refine go_max ?_ | refine go_bm0 ?_ | refine go_chain ?_ | refine go_qch ?_)) | ((with_reducible refine' go_qbm0 ?hp ?_); (case hp => walk_at "lw_hp")) | (with_reducible (first | refine go_retN ?_ | refine go_orV ?_ | refine go_whQ ?_ | refine go_rng2 ?_ | refine go_qrng2 (by omega) (by omega) (by omega) (by omega) ?_ | refine go_rvr ?_ | refine go_qrvr (by omega) (by omega) ?_ | refine go_enum ?_ | refine go_aug rfl ?_ | refine go_ipI ?_)) | ((with_reducible refine' go_qenum ?hp ?_); (case hp => walk_at "lw_hp")) | ((with_reducible refine' go_sumL ?hp ?_); (case hp => walk_at "lw_hp")))))
abbrev s__law_any_handed : Stmt := top 52
def Handed (hs : List Int) : Prop := hs.length ≤ 40 ∧ ∀ x ∈ hs, 0 ≤ x ∧ x ≤ 10006
def spHanded (K : PySem.W.Frag) : Sp := fun vs H Q _ => ∃ (d : Addr), vs = [.ref d] ∧ Dice K H d ∧
  ∀ (L : Addr) (hs : List Int) (H' : Hp), Handed hs → H L = none → H' L = some (.lst (hs.map V.int)) → Dice K H' d → Off d H H' → Q (.ref L) H'
theorem off_none {d p : Addr} {H H' : Hp} (o : Off d H H') (n : p ≠ d) (h : H' p = none) : H p = none := by
  cases z : H p with
  | none => rfl
  | some u => rw [o _ _ z n] at h; cases h
section
variable {P : Program} {w : World} {K : PySem.W.Frag} {mg : Str → Option Value} {base : Heap} {f : Addr} {fd : FuncData}
theorem scs__law_any_handed : FnScope ["_law_d", "_law_many", "_law_k"] ["_law_d"] (defScope s__law_any_handed) := ⟨rfl, rfl, rfl, by decide +kernel, rfl, by decide +kernel, by decide +kernel⟩
theorem ok_handed (F : Fun K "_law_any_handed" "_law_any_handed" s__law_any_handed f fd) (T : Txt mg) (C_law_next : FnC P w K mg base 1 "_law_next" ["_law_dice_here", "_law_many"] (spNext K)) : FnOk P w K mg base CX0 2 f fd ["_law_d"] (spHanded K) := by
  refine F.ok scs__law_any_handed (fun vs H Q E h => ?_) (fun cdv A outer s H vs Q E hr h => ?_)
  · obtain ⟨d, rfl, _⟩ := h
    rfl
  obtain ⟨d, rfl, D, k⟩ := h
  have nd := scs__law_any_handed.nd
  have hu := hu_of hr
  refine ⟨_, (pss_cons (ps_set (i := 1) nd rfl (Or.inl rfl) (pe_ix (kIxL K) (pe_lst (pa_cons (pe_callC C_law_next (hr.mono (by omega)) (by rfl) (pa_cons (pv 0) (pa_cons pe_int pa_nil))) (pa_cons pe_int pa_nil))) (pe_callC C_law_next (hr.mono (by omega)) (by rfl) (pa_cons (pv 0) (pa_cons pe_int pa_nil))) (fun _ _ => rfl)))
      (pss_one (ps_ret (pe_lc rfl nd (pi_range1 (by rfl) T.n_range (pa_cons (pv 1) pa_nil)) (blkOk_by (own := [("_law_k", 2)]) (by show blkC ["_law_d", "_law_many", "_law_k"] (defScope s__law_any_handed) _ _ = true; decide +kernel)) (fun _ _ _ _ _ => (pg_name (i := 2) nd rfl (Or.inl rfl))) (fun _ _ _ _ _ => pts_nil) (fun _ _ _ _ _ => (pe_ix (kIxL K) (pe_lst (pa_cons (pe_callC C_law_next (hr.mono (by omega)) (by rfl) (pa_cons (pv 0) (pa_cons pe_int pa_nil))) (pa_cons (pe_callC C_law_next (hr.mono (by omega)) (by rfl) (pa_cons (pv 0) (pa_cons pe_int pa_nil))) pa_nil))) (pe_callC C_law_next (hr.mono (by omega)) (by rfl) (pa_cons (pv 0) (pa_cons pe_int pa_nil))) (fun _ _ => rfl))))))), ?_⟩
  walk_at "lw_go"
  refine nx_go D (by omega) (by omega) (fun a1 H1 a10 a11 D1 o1 => ?_)
  walk_at "lw_go"
  refine go_qlst (Nat.le_of_ble_eq_true rfl) (fun p hp => ?_)
  walk_at "lw_go"
  refine nx_go (D1.same (same_new hp _)) (by omega) (by omega) (fun a2 H2 a20 a21 D2 o2 => ?_)
  obtain ⟨mny, hz, hm0, hm1⟩ : ∃ mny, atI [V.int a1, V.int 40] a2 = some (V.int mny) ∧ 0 ≤ mny ∧ mny ≤ 40 := by
    obtain ⟨z, hz, hz'⟩ := at_two (x := V.int a1) (y := V.int 40) a20 a21
    rcases hz' with rfl | rfl
    · exact ⟨_, hz, by omega, by omega⟩
    · exact ⟨_, hz, by omega, by omega⟩
  walk_at "lw_go"
  have O2 : Off d H H2 := by (repeat (first | assumption | exact Off.refl _ _ | (refine' Off.trans ?_ (Same.off (same_new (by assumption) _))) | (refine' Off.trans ?_ (by assumption))))
  clear o1 o2
  refine lq_range (fun L hL => ?_)
  have nL : d ≠ L := (D2.nef hL).symm
  refine ⟨fun i H' => ∃ hs : List Int, H' L = some (.lst (hs.map V.int)) ∧ hs.length = i ∧ (∀ x ∈ hs, 0 ≤ x ∧ x ≤ 10006) ∧ Dice K H' d ∧ Off d H2 H', ?_, ?_, ?_⟩
  · exact ⟨[], upd_same, rfl, (fun r h => by cases h), D2.same (same_new hL _), (same_new hL _).off⟩
  · rintro i H' hi ⟨hs, e, hl, hok, D', o'⟩
    refine go_gname ⟨rfl, ?_⟩
    walk_at "lw_go"
    refine nx_go D' (by omega) (by omega) (fun b1 H4 b10 b11 D4 o4 => ?_)
    walk_at "lw_go"
    refine nx_go D4 (by omega) (by omega) (fun b2 H5 b20 b21 D5 o5 => ?_)
    walk_at "lw_go"
    refine go_qlst (Nat.le_of_ble_eq_true rfl) (fun q hq => ?_)
    walk_at "lw_go"
    refine nx_go (D5.same (same_new hq _)) (by omega) (by omega) (fun b3 H6 b30 b31 D6 o6 => ?_)
    obtain ⟨x, hx, hx0, hx1⟩ : ∃ x, atI [V.int b1, V.int b2] b3 = some (V.int x) ∧ 0 ≤ x ∧ x ≤ 10006 := by
      obtain ⟨z, hz, hz'⟩ := at_two (x := V.int b1) (y := V.int b2) b30 b31
      rcases hz' with rfl | rfl
      · exact ⟨_, hz, by omega, by omega⟩
      · exact ⟨_, hz, by omega, by omega⟩
    walk_at "lw_go"
    have O6 : Off d H' H6 := by (repeat (first | assumption | exact Off.refl _ _ | (refine' Off.trans ?_ (Same.off (same_new (by assumption) _))) | (refine' Off.trans ?_ (by assumption))))
    have e6 : H6 L = some (.lst (hs.map V.int)) := O6 _ _ e nL.symm
    refine go_lcA e6 (small_line (by rw [List.length_map]; omega)) ?_
    refine ⟨hs ++ [x], ?_, by simp [hl], mem_snoc (P := fun x => 0 ≤ x ∧ x ≤ 10006) hok ⟨hx0, hx1⟩, D6.updL e6 nL, off_fresh hL (o'.trans O6)⟩
    rw [upd_same, List.map_append]; rfl
  · rintro H5 ⟨hs, e, hl, hok, D5, o5⟩
    exact k L hs H5 ⟨by omega, hok⟩ (off_none O2 nL.symm hL) e D5 (O2.trans o5)
end
end Lw
set_option Elab.async false
set_option linter.all false
set_option maxRecDepth 100000
set_option maxHeartbeats 4000000
namespace Lw
open PySem L2
local macro_rules | `(tactic| walk_at "lw_hp") => `(tactic| (repeat (first | assumption | exact upd_same | (refine' upd_new (by assumption) ?_) | (refine' tup_off (by assumption) (by assumption) ?_) | (refine' lst_off (by assumption) (by assumption) (by assumption) ?_) | (refine' Same.get (by assumption) ?_) | (refine' Off.get (by assumption) (by assumption) ?_) | (refine' upd_oth (by assumption) ?_))))
local macro_rules | `(tactic| walk_at "lw_go") => `(tactic| (repeat (first | (with_reducible (first | refine go_var rfl ?_ | refine go_c ?_ | refine go_cons ?_ | refine go_op ?_ | refine go_nil ?_ | refine go_seq ?_ | refine go_qb ?_ | refine go_test ?_ | refine go_ifS ?_ | refine go_gname ?_ | refine go_cb ?_)) | ((with_reducible refine' go_ixT ?hp ?ha ?_); (case hp => walk_at "lw_hp"); (case ha => first | rfl | assumption)) | (with_reducible (first | refine go_asg ?_ | refine go_callC ?_ | refine go_next ?_ | refine go_tup ?_ | refine go_i0 ?_ | refine go_ret ?_ | refine go_dget ?_ | refine go_gcons ?_ | refine go_gsub ?_ | refine go_testB ?_)) | ((with_reducible refine' go_ixL ?hp ?ha ?_); (case hp => walk_at "lw_hp"); (case ha => first | rfl | assumption)) | (with_reducible (first | refine' go_ixLs (by assumption) (by assumption) ?_ | refine go_lst ?_)) | ((with_reducible refine' go_i ?cc ?_); (case cc => first | omega | (simp only [CDiv, CMul, CPow]; omega) | (simp only [CDiv, CMul, CPow]; decide))) | (with_reducible (first | refine go_drop ?_ | refine go_eqI ?_ | refine go_eqS ?_ | refine go_eqB ?_ | refine go_eq (by rfl) ?_ | refine go_gnil ?_ | refine go_iteT ?_ | refine go_iteF ?_ | refine go_iteNt ?_ | refine go_iteNf ?_ | refine go_iteNN ?_)) | (with_reducible refine go_iteDT (by first | assumption | rfl | omega | (simp only [List.length_cons, List.length_nil, List.length_map]; omega)) ?_) | (with_reducible refine go_iteDF (by first | assumption | omega | decide | decide +kernel | (simp only [List.length_cons, List.length_nil, List.length_map]; omega)) ?_) | (with_reducible refine go_iteNT (by first | assumption | rfl | omega | (simp only [List.length_cons, List.length_nil, List.length_map]; omega)) ?_) | (with_reducible refine go_iteNF (by first | assumption | omega | decide | decide +kernel | (simp only [List.length_cons, List.length_nil, List.length_map]; omega)) ?_) | (with_reducible refine go_iteBT (by first | assumption | decide +kernel) ?_) | (with_reducible refine go_iteBF (by first | assumption | decide +kernel) ?_) | (with_reducible (first | refine go_dput ?_ | refine go_setD ?_)) | ((with_reducible refine' go_gtup ?hp ?ha ?_); (case hp => walk_at "lw_hp"); (case ha => first | rfl | assumption)) | (with_reducible refine go_if ?_) | ((with_reducible refine' go_setL ?hp ?ha ?_); (case hp => walk_at "lw_hp"); (case ha => first | rfl | assumption)) | (with_reducible (first | refine go_not ?_ | refine go_or ?_ | refine go_andV ?_ | refine go_sl ?_ | refine go_nopart ?_ | refine go_part ?_ | refine go_qI ?_ | refine' go_lenLs (by assumption) ?_)) | ((with_reducible refine' go_lenL ?hp ?_); (case hp => walk_at "lw_hp")) | ((with_reducible refine' go_lenT ?hp ?_); (case hp => walk_at "lw_hp")) | ((with_reducible refine' go_inT ?hp ?ha ?hb ?_); (case hp => walk_at "lw_hp"); (case ha => rfl); (case hb => rfl)) | ((with_reducible refine' go_notInT ?hp ?ha ?hb ?_); (case hp => walk_at "lw_hp"); (case ha => rfl); (case hb => rfl)) | (with_reducible (first | refine go_pnil ?_ | refine go_pcons ?_ | refine go_un ?_ | refine go_u ?_ | refine go_for ?_ | refine go_rng1 ?_ | refine go_qrng1 (by omega) (by omega) ?_ | refine go_notN_non ?_ | refine go_notN_int ?_ | refine go_notN_str ?_ | refine go_notN_bl ?_ | refine go_notN_ref ?_ | refine go_min ?_ | refine go_bm ?_ | refine go_lc ?_)) | ((with_reducible refine' go_qbm ?hp ?_); (case hp => walk_at "lw_hp")) | (with_reducible (first | refine go_int ?_ | refine go_intB ?_ | refine go_yes ?_ | refine go_and ?_ | refine go_notV ?_ | refine go_iL ?_)) | ((with_reducible refine' go_glst ?hp ?ha ?_); (case hp => walk_at "lw_hp"); (case ha => first | rfl | assumption)) | ((with_reducible refine' go_qiL ?hp ?_); (case hp => walk_at "lw_hp")) | (with_reducible (first | refine go_par ?_ | refine go_gpar ?_ | refine go_isN_non ?_ | refine go_isN_int ?_ | refine go_isN_str ?_ | refine go_isN_bl ?_ | refine go_isN_ref ?_ | refine go_neI ?_ | refine go_neS ?_ | refine go_neB ?_ | refine go_iT ?_ | refine go_ne (by rfl) ?_)) | ((with_reducible refine' go_ixAL ?hp ?ha ?_); (case hp => walk_at "lw_hp"); (case ha => first | rfl | assumption)) | ((with_reducible refine' go_ixAT ?hp ?ha ?_); (case hp => walk_at "lw_hp"); (case ha => first | rfl | assumption)) | ((with_reducible refine' go_qiT ?hp ?_); (case hp => walk_at "lw_hp")) | (with_reducible (first | refine go_is_non_int ?_ | refine go_is_non_bool ?_ | refine go_is_non_str ?_ | refine go_is_non_tuple ?_ | refine go_is_non_list ?_ | refine go_is_bl_int ?_ | refine go_is_bl_bool ?_ | refine go_is_bl_str ?_ | refine go_is_bl_tuple ?_ | refine go_is_bl_list ?_ | refine go_is_int_int ?_ | refine go_is_int_bool ?_ | refine go_is_int_str ?_ | refine go_is_int_tuple ?_ | refine go_is_int_list ?_ | refine go_is_str_int ?_ | refine go_is_str_bool ?_ | refine go_is_str_str ?_ | refine go_is_str_tuple ?_ | refine go_is_str_list ?_)) | ((with_reducible refine' go_is_lst_int ?hp ?_); (case hp => walk_at "lw_hp")) | ((with_reducible refine' go_is_lst_bool ?hp ?_); (case hp => walk_at "lw_hp")) | ((with_reducible refine' go_is_lst_str ?hp ?_); (case hp => walk_at "lw_hp")) | ((with_reducible refine' go_is_lst_tuple ?hp ?_); (case hp => walk_at "lw_hp")) | ((with_reducible refine' go_is_lst_list ?hp ?_); (case hp => walk_at "lw_hp")) | ((with_reducible refine' go_is_tup_int ?hp ?_); (case hp => walk_at "lw_hp")) | ((with_reducible refine' go_is_tup_bool ?hp ?_); (case hp => walk_at "lw_hp")) | ((with_reducible refine' go_is_tup_str ?hp ?_); (case hp => walk_at "lw_hp")) | ((with_reducible refine' go_is_tup_tuple ?hp ?_); (case hp => walk_at "lw_hp")) | ((with_reducible refine' go_is_tup_list ?hp ?_); (case hp => walk_at "lw_hp")) | (with_reducible (first | refine go_max ?_ | refine go_bm0 ?_ | refine go_chain ?_ | refine go_qch ?_)) | ((with_reducible refine' go_qbm0 ?hp ?_); (case hp => walk_at "lw_hp")) | (with_reducible (first | refine go_retN ?_ | refine go_orV ?_ | refine go_whQ ?_ | refine go_rng2 ?_ | refine go_qrng2 (by omega) (by omega) (by omega) (by omega) ?_ | refine go_rvr ?_ | refine go_qrvr (by omega) (by omega) ?_ | refine go_enum ?_ | refine go_aug rfl ?_ | refine go_ipI ?_)) | ((with_reducible refine' go_qenum ?hp ?_); (case hp => walk_at "lw_hp")) | ((with_reducible refine' go_sumL ?hp ?_); (case hp => walk_at "lw_hp")))))
abbrev s__law_worth : Stmt := top 53
def spWorth (n : Nat) : Sp := fun vs H Q _ => ∃ (v : V) (nl : Addr) (p : Part) (ns : List Int) (nm : Int), vs = [v, .ref nl] ∧ PartAt H p v ∧ p.ok nm n ∧ H nl = some (.lst (ns.map V.int)) ∧ ns.length = nm.toNat ∧ Num ns ∧
  ∀ H', Same H H' → Q (.int (p.val ns)) H'
section
variable {P : Program} {w : World} {K : PySem.W.Frag} {mg : Str → Option Value} {base : Heap} {f : Addr} {fd : FuncData}
theorem scs__law_worth : FnScope ["_law_part", "_law_names", "_law_one", "_law_other", "_law_inner_here"] ["_law_part", "_law_names"] (defScope s__law_worth) := ⟨rfl, rfl, rfl, by decide +kernel, rfl, by decide +kernel, by decide +kernel⟩
theorem ok_worth {n : Nat} (F : Fun K "_law_worth" "_law_worth" s__law_worth f fd) (T : Txt mg) (C_law_worth : FnC P w K mg base (n + 1) "_law_worth" ["_law_part", "_law_names"] (spWorth n)) : FnOk P w K mg base CX0 (n + 2) f fd ["_law_part", "_law_names"] (spWorth (n + 1)) := by
  refine F.ok scs__law_worth (fun vs H Q E h => ?_) (fun cdv A outer s H vs Q E hr h => ?_)
  · obtain ⟨v, nl, p, ns, nm, rfl, _⟩ := h
    rfl
  obtain ⟨v, nl, p, ns, nm, rfl, hp, hk, hn, hl, hN, k⟩ := h
  have nd := scs__law_worth.nd
  have hu := hu_of hr
  refine ⟨_, (pss_cons (ps_if (pt_cmpR (kIn K) (pe_ix (kIxT K) (pv 0) pe_int (fun _ _ => rfl)) (pe_tup (pa_cons pe_str (pa_cons pe_str pa_nil))) (by rfl)) (pss_one (ps_ret (pe_ifExp (pt_cmpR op_eq (pe_ix (kIxT K) (pv 0) pe_int (fun _ _ => rfl)) pe_str (nomark _)) (pe_ix (kIxT K) (pv 0) pe_int (fun _ _ => rfl)) (pe_ix (kIxL K) (pv 1) (pe_ix (kIxT K) (pv 0) pe_int (fun _ _ => rfl)) (fun _ _ => rfl))))) pss_nil)
      (pss_cons (ps_asg (pe_lc rfl nd (kPiT K (pe_slice (kSlT K) (pv 0) (po_some pe_int) po_none)) (blkOk_by (own := [("_law_inner_here", 4)]) (by show blkC ["_law_part", "_law_names", "_law_one", "_law_other", "_law_inner_here"] (defScope s__law_worth) _ _ = true; decide +kernel)) (fun _ _ _ _ _ => (pg_name (i := 4) nd rfl (Or.inl rfl))) (fun _ _ _ _ _ => pts_nil) (fun _ _ _ _ _ => (pe_callC C_law_worth (hr.mono (by omega)) (by rfl) (pa_cons (pv 4) (pa_cons (pv 1) pa_nil))))) (pg_lst (by rfl) (pgs_cons (pg_name (i := 2) nd rfl (Or.inl rfl)) (pgs_cons (pg_name (i := 3) nd rfl (Or.inl rfl)) pgs_nil))))
      (pss_one (ps_ret (pe_ifExp (pt_cmpR op_eq (pe_ix (kIxT K) (pv 0) pe_int (fun _ _ => rfl)) pe_str (nomark _)) (pe_callTy c_int (by rfl) T.n_int (by decide +kernel) (pa_cons (pe_cmpR op_lt (pv 2) (pv 3) (nomark _)) pa_nil)) (pe_op op_mod (pe_op op_add (pv 2) (pe_op op_mul (pv 3) (pe_ix (kIxL K) (pe_lst (pa_cons pe_int (pa_cons (pe_un un_neg pe_int) pa_nil))) (pe_callTy c_int (by rfl) T.n_int (by decide +kernel) (pa_cons (pe_cmpR op_eq (pe_ix (kIxT K) (pv 0) pe_int (fun _ _ => rfl)) pe_str (nomark _)) pa_nil)) (fun _ _ => rfl)))) pe_int)))))), ?_⟩
  cases p with
  | num z =>
    obtain ⟨a, rfl, ha⟩ := hp
    walk_at "lw_go"
    refine go_qtup (Nat.le_of_ble_eq_true rfl) (fun q hq => ?_)
    walk_at "lw_go"
    exact k _ (same_new hq _)
  | name z =>
    obtain ⟨a, rfl, ha⟩ := hp
    have hz : 0 ≤ z ∧ z < nm := hk
    have hat : atI (ns.map V.int) z = some (.int (ns.getD z.toNat 0)) := by
      have hlt : z.toNat < ns.length := by omega
      rw [show z = ((z.toNat : Nat) : Int) by omega]
      refine atI_nat ?_
      rw [List.getElem?_map, Int.toNat_natCast, List.getD_eq_getElem?_getD, List.getElem?_eq_getElem hlt]
      rfl
    walk_at "lw_go"
    refine go_qtup (Nat.le_of_ble_eq_true rfl) (fun q hq => ?_)
    walk_at "lw_go"
    exact k _ (same_new hq _)
  | op o x y =>
    obtain ⟨a, u, v', rfl, ha, hx, hy⟩ := hp
    have hw : inV (.str o.str) [.str "num", .str "name"] = false := by cases o <;> decide +kernel
    walk_at "lw_go"
    refine go_qtup (Nat.le_of_ble_eq_true rfl) (fun q hq => ?_)
    walk_at "lw_go"
    refine go_slT (by walk_at "lw_hp") (by show ¬ (HT.sIx 3 0 (some 1) = 0 ∧ HT.sIx 3 3 none = 3); decide) (fun pc hc => ?_)
    have S1 : Same H (upd (upd H q (.tup [.str "num", .str "name"])) pc (.tup [u, v'])) := (same_new hq _).trans (same_new hc _)
    refine go_qiT (xs := [u, v']) upd_same ?_
    generalize hH1 : upd (upd H q (.tup [.str "num", .str "name"])) pc (.tup (cutV [V.str o.str, u, v'] (some 1) none)) = H1
    have S1' : Same H H1 := by rw [← hH1]; exact S1
    have hpc : H1 pc = some (.tup [u, v']) := by rw [← hH1]; exact upd_same
    refine lq_tup [u, v'] (fun L hL => ?_)
    refine ⟨fun i H' => H' L = some (.lst (([x.val ns, y.val ns].take i).map V.int)) ∧ Same H1 H', ?_, ?_, ?_, ?_⟩
    · exact ⟨upd_same, same_new hL _⟩
    · rintro i H' _ ⟨_, s'⟩
      exact SqT.of (s' _ _ hpc)
    · rintro i vv H' hi ⟨e', s'⟩
      refine go_gname ⟨rfl, ?_⟩
      have s0 := S1'.trans s'
      obtain ⟨pt, hv, hk', ht⟩ : ∃ pt : Part, PartAt H' pt vv ∧ pt.ok nm n ∧ [x.val ns, y.val ns].take (i + 1) = [x.val ns, y.val ns].take i ++ [pt.val ns] := by
        rcases i with _ | _ | i
        · cases hi; exact ⟨x, hx.mono s0.tk, hk.1, rfl⟩
        · cases hi; exact ⟨y, hy.mono s0.tk, hk.2, rfl⟩
        · simp at hi
      walk_at "lw_go"
      refine ⟨vv, nl, pt, ns, nm, rfl, hv, hk', s0 _ _ hn, hl, hN, fun H2 s2 => ?_⟩
      refine go_lcA (s2 _ _ e') (small_line (by simp only [List.length_map, List.length_take, List.length_cons, List.length_nil]; omega)) ?_
      refine ⟨?_, ?_⟩
      · rw [upd_same, ht, List.map_append]; rfl
      · intro b ob hb
        rw [upd_ne (ne_of_none hb hL)]
        exact s2 _ _ (s' _ _ hb)
    · rintro H2 ⟨e2, s2⟩
      have e2 : H2 L = some (.lst [.int (x.val ns), .int (y.val ns)]) := e2
      have S2 : Same H H2 := S1'.trans s2
      have ha2 := S2 _ _ ha
      cases o with
      | less =>
        have hat : atI [V.str Op3.less.str, u, v'] 0 = some (.str "less") := rfl
        walk_at "lw_go"
        have e3 : (if decide (x.val ns < y.val ns) = true then (1 : Int) else 0) = Part.val ns (.op .less x y) := by
          show _ = if x.val ns < y.val ns then (1 : Int) else 0
          by_cases c : x.val ns < y.val ns <;> simp [c]
        rw [e3]
        exact k _ S2
      | sum =>
        have hat : atI [V.str Op3.sum.str, u, v'] 0 = some (.str "sum") := rfl
        walk_at "lw_go"
        refine go_qlst (Nat.le_of_ble_eq_true rfl) (fun r hr2 => ?_)
        have S3 := S2.trans (same_new hr2 (.lst [.int 1, .int (-1)]))
        walk_at "lw_go"
        have e3 : (x.val ns + y.val ns * 1) % 10007 = Part.val ns (.op .sum x y) := by show _ = (x.val ns + y.val ns) % 10007; congr 1; omega
        rw [e3]
        exact k _ S3
      | diff =>
        have hat : atI [V.str Op3.diff.str, u, v'] 0 = some (.str "diff") := rfl
        walk_at "lw_go"
        refine go_qlst (Nat.le_of_ble_eq_true rfl) (fun r hr2 => ?_)
        have S3 := S2.trans (same_new hr2 (.lst [.int 1, .int (-1)]))
        walk_at "lw_go"
        have e3 : (x.val ns + y.val ns * (-1)) % 10007 = Part.val ns (.op .diff x y) := by show _ = (x.val ns - y.val ns) % 10007; congr 1; omega
        rw [e3]
        exact k _ S3
theorem no_worth : FnOk P w K mg base CX0 1 f fd ["_law_part", "_law_names"] (spWorth 0) :=
  ⟨fun vs H Q E h => by obtain ⟨v, nl, p, ns, nm, rfl, _⟩ := h; rfl, fun A outer s H args us vs Q E _ _ _ _ h => by obtain ⟨v, nl, p, ns, nm, rfl, _, hk, _⟩ := h; exact hk.elim⟩
theorem c_worth (F : Fun K "_law_worth" "_law_worth" s__law_worth f fd) (b : Binds K fd ["_law_part", "_law_names"] []) (m : mg "_law_worth" = some (.ref f)) (T : Txt mg) : ∀ n : Nat, FnC P w K mg base (n + 1) "_law_worth" ["_law_part", "_law_names"] (spWorth n)
  | 0 => ⟨f, fd, no_worth, m, F.kp, b⟩
  | n + 1 => ⟨f, fd, ok_worth F T (c_worth F b m T n), m, F.kp, b⟩
end
end Lw
set_option Elab.async false
set_option linter.all false
set_option maxRecDepth 100000
set_option maxHeartbeats 4000000
namespace Lw
open PySem L2
local macro_rules | `(tactic| walk_at "lw_hp") => `(tactic| (repeat (first | assumption | exact upd_same | (refine' upd_new (by assumption) ?_) | (refine' tup_off (by assumption) (by assumption) ?_) | (refine' lst_off (by assumption) (by assumption) (by assumption) ?_) | (refine' Same.get (by assumption) ?_) | (refine' Off.get (by assumption) (by assumption) ?_) | (refine' upd_oth (by assumption) ?_))))
local macro_rules | `(tactic| walk_at "lw_go") => `(tactic| (repeat (first | (with_reducible (first | refine go_var rfl ?_ | refine go_c ?_ | refine go_cons ?_ | refine go_op ?_ | refine go_nil ?_ | refine go_seq ?_ | refine go_qb ?_ | refine go_test ?_ | refine go_ifS ?_ | refine go_gname ?_ | refine go_cb ?_)) | ((with_reducible refine' go_ixT ?hp ?ha ?_); (case hp => walk_at "lw_hp"); (case ha => first | rfl | assumption)) | (with_reducible (first | refine go_asg ?_ | refine go_callC ?_ | refine go_next ?_ | refine go_tup ?_ | refine go_i0 ?_ | refine go_ret ?_ | refine go_dget ?_ | refine go_gcons ?_ | refine go_gsub ?_ | refine go_testB ?_)) | ((with_reducible refine' go_ixL ?hp ?ha ?_); (case hp => walk_at "lw_hp"); (case ha => first | rfl | assumption)) | (with_reducible (first | refine' go_ixLs (by assumption) (by assumption) ?_ | refine go_lst ?_)) | ((with_reducible refine' go_i ?cc ?_); (case cc => first | omega | (simp only [CDiv, CMul, CPow]; omega) | (simp only [CDiv, CMul, CPow]; decide))) | (with_reducible (first | refine go_drop ?_ | refine go_eqI ?_ | refine go_eqS ?_ | refine go_eqB ?_ | refine go_eq (by rfl) ?_ | refine go_gnil ?_ | refine go_iteT ?_ | refine go_iteF ?_ | refine go_iteNt ?_ | refine go_iteNf ?_ | refine go_iteNN ?_)) | (with_reducible refine go_iteDT (by first | assumption | rfl | omega | (simp only [List.length_cons, List.length_nil, List.length_map]; omega)) ?_) | (with_reducible refine go_iteDF (by first | assumption | omega | decide | decide +kernel | (simp only [List.length_cons, List.length_nil, List.length_map]; omega)) ?_) | (with_reducible refine go_iteNT (by first | assumption | rfl | omega | (simp only [List.length_cons, List.length_nil, List.length_map]; omega)) ?_) | (with_reducible refine go_iteNF (by first | assumption | omega | decide | decide +kernel | (simp only [List.length_cons, List.length_nil, List.length_map]; omega)) ?_) | (with_reducible refine go_iteBT (by first | assumption | decide +kernel) ?_) | (with_reducible refine go_iteBF (by first | assumption | decide +kernel) ?_) | (with_reducible (first | refine go_dput ?_ | refine go_setD ?_)) | ((with_reducible refine' go_gtup ?hp ?ha ?_); (case hp => walk_at "lw_hp"); (case ha => first | rfl | assumption)) | (with_reducible refine go_if ?_) | ((with_reducible refine' go_setL ?hp ?ha ?_); (case hp => walk_at "lw_hp"); (case ha => first | rfl | assumption)) | (with_reducible (first | refine go_not ?_ | refine go_or ?_ | refine go_andV ?_ | refine go_sl ?_ | refine go_nopart ?_ | refine go_part ?_ | refine go_qI ?_ | refine' go_lenLs (by assumption) ?_)) | ((with_reducible refine' go_lenL ?hp ?_); (case hp => walk_at "lw_hp")) | ((with_reducible refine' go_lenT ?hp ?_); (case hp => walk_at "lw_hp")) | ((with_reducible refine' go_inT ?hp ?ha ?hb ?_); (case hp => walk_at "lw_hp"); (case ha => rfl); (case hb => rfl)) | ((with_reducible refine' go_notInT ?hp ?ha ?hb ?_); (case hp => walk_at "lw_hp"); (case ha => rfl); (case hb => rfl)) | (with_reducible (first | refine go_pnil ?_ | refine go_pcons ?_ | refine go_un ?_ | refine go_u ?_ | refine go_for ?_ | refine go_rng1 ?_ | refine go_qrng1 (by omega) (by omega) ?_ | refine go_notN_non ?_ | refine go_notN_int ?_ | refine go_notN_str ?_ | refine go_notN_bl ?_ | refine go_notN_ref ?_ | refine go_min ?_ | refine go_bm ?_ | refine go_lc ?_)) | ((with_reducible refine' go_qbm ?hp ?_); (case hp => walk_at "lw_hp")) | (with_reducible (first | refine go_int ?_ | refine go_intB ?_ | refine go_yes ?_ | refine go_and ?_ | refine go_notV ?_ | refine go_iL ?_)) | ((with_reducible refine' go_glst ?hp ?ha ?_); (case hp => walk_at "lw_hp"); (case ha => first | rfl | assumption)) | ((with_reducible refine' go_qiL ?hp ?_); (case hp => walk_at "lw_hp")) | (with_reducible (first | refine go_par ?_ | refine go_gpar ?_ | refine go_isN_non ?_ | refine go_isN_int ?_ | refine go_isN_str ?_ | refine go_isN_bl ?_ | refine go_isN_ref ?_ | refine go_neI ?_ | refine go_neS ?_ | refine go_neB ?_ | refine go_iT ?_ | refine go_ne (by rfl) ?_)) | ((with_reducible refine' go_ixAL ?hp ?ha ?_); (case hp => walk_at "lw_hp"); (case ha => first | rfl | assumption)) | ((with_reducible refine' go_ixAT ?hp ?ha ?_); (case hp => walk_at "lw_hp"); (case ha => first | rfl | assumption)) | ((with_reducible refine' go_qiT ?hp ?_); (case hp => walk_at "lw_hp")) | (with_reducible (first | refine go_is_non_int ?_ | refine go_is_non_bool ?_ | refine go_is_non_str ?_ | refine go_is_non_tuple ?_ | refine go_is_non_list ?_ | refine go_is_bl_int ?_ | refine go_is_bl_bool ?_ | refine go_is_bl_str ?_ | refine go_is_bl_tuple ?_ | refine go_is_bl_list ?_ | refine go_is_int_int ?_ | refine go_is_int_bool ?_ | refine go_is_int_str ?_ | refine go_is_int_tuple ?_ | refine go_is_int_list ?_ | refine go_is_str_int ?_ | refine go_is_str_bool ?_ | refine go_is_str_str ?_ | refine go_is_str_tuple ?_ | refine go_is_str_list ?_)) | ((with_reducible refine' go_is_lst_int ?hp ?_); (case hp => walk_at "lw_hp")) | ((with_reducible refine' go_is_lst_bool ?hp ?_); (case hp => walk_at "lw_hp")) | ((with_reducible refine' go_is_lst_str ?hp ?_); (case hp => walk_at "lw_hp")) | ((with_reducible refine' go_is_lst_tuple ?hp ?_); (case hp => walk_at "lw_hp")) | ((with_reducible refine' go_is_lst_list ?hp ?_); (case hp => walk_at "lw_hp")) | ((with_reducible refine' go_is_tup_int ?hp ?_); (case hp => walk_at "lw_hp")) | ((with_reducible refine' go_is_tup_bool ?hp ?_); (case hp => walk_at "lw_hp")) | ((with_reducible refine' go_is_tup_str ?hp ?_); (case hp => walk_at "lw_hp")) | ((with_reducible refine' go_is_tup_tuple ?hp ?_); (case hp => walk_at "lw_hp")) | ((with_reducible refine' go_is_tup_list ?hp ?_); (case hp => walk_at "lw_hp")) | (with_reducible (first | refine go_max ?_ | refine go_bm0 ?_ | refine go_chain ?_ | refine go_qch ?_)) | ((with_reducible refine' go_qbm0 ?hp ?_); (case hp => walk_at "lw_hp")) | (with_reducible (first | refine go_retN ?_ | refine go_orV ?_ | refine go_whQ ?_ | refine go_rng2 ?_ | refine go_qrng2 (by omega) (by omega) (by omega) (by omega) ?_ | refine go_rvr ?_ | refine go_qrvr (by omega) (by omega) ?_ | refine go_enum ?_ | refine go_aug rfl ?_ | refine go_ipI ?_)) | ((with_reducible refine' go_qenum ?hp ?_); (case hp => walk_at "lw_hp")) | ((with_reducible refine' go_sumL ?hp ?_); (case hp => walk_at "lw_hp")))))
def eK : List Str := ["row", "taken", "name", "file", "letter", "fault"]
theorem eNd : eK.Nodup := by decide +kernel
def eD (v0 v1 v2 v3 v4 v5 : V) : List (Key × V) := zD eK [v0, v1, v2, v3, v4, v5]
section
variable {v0 v1 v2 v3 v4 v5 x : V}
theorem eg_row : valV (eD v0 v1 v2 v3 v4 v5) (.inr "row") = some v0 := zD_get (i := 0) eNd rfl rfl
theorem eg_taken : valV (eD v0 v1 v2 v3 v4 v5) (.inr "taken") = some v1 := zD_get (i := 1) eNd rfl rfl
theorem eg_name : valV (eD v0 v1 v2 v3 v4 v5) (.inr "name") = some v2 := zD_get (i := 2) eNd rfl rfl
theorem eg_file : valV (eD v0 v1 v2 v3 v4 v5) (.inr "file") = some v3 := zD_get (i := 3) eNd rfl rfl
theorem eg_letter : valV (eD v0 v1 v2 v3 v4 v5) (.inr "letter") = some v4 := zD_get (i := 4) eNd rfl rfl
theorem eg_fault : valV (eD v0 v1 v2 v3 v4 v5) (.inr "fault") = some v5 := zD_get (i := 5) eNd rfl rfl
theorem ep_row : putK (eD v0 v1 v2 v3 v4 v5) (.inr "row") x = eD x v1 v2 v3 v4 v5 := zD_put (i := 0) eNd rfl (Nat.le_of_ble_eq_true rfl)
theorem ep_taken : putK (eD v0 v1 v2 v3 v4 v5) (.inr "taken") x = eD v0 x v2 v3 v4 v5 := zD_put (i := 1) eNd rfl (Nat.le_of_ble_eq_true rfl)
theorem ep_name : putK (eD v0 v1 v2 v3 v4 v5) (.inr "name") x = eD v0 v1 x v3 v4 v5 := zD_put (i := 2) eNd rfl (Nat.le_of_ble_eq_true rfl)
theorem ep_file : putK (eD v0 v1 v2 v3 v4 v5) (.inr "file") x = eD v0 v1 v2 x v4 v5 := zD_put (i := 3) eNd rfl (Nat.le_of_ble_eq_true rfl)
theorem ep_letter : putK (eD v0 v1 v2 v3 v4 v5) (.inr "letter") x = eD v0 v1 v2 v3 x v5 := zD_put (i := 4) eNd rfl (Nat.le_of_ble_eq_true rfl)
theorem ep_fault : putK (eD v0 v1 v2 v3 v4 v5) (.inr "fault") x = eD v0 v1 v2 v3 v4 x := zD_put (i := 5) eNd rfl (Nat.le_of_ble_eq_true rfl)
theorem em : mergeK [] (eD v0 v1 v2 v3 v4 v5) = eD v0 v1 v2 v3 v4 v5 := zD_merge (ka := []) (va := []) eNd rfl rfl
end
def sK : List Str := ["row", "names", "taken", "done", "letters", "since", "about", "out", "again"]
theorem sNd : sK.Nodup := by decide +kernel
def sD (v0 v1 v2 v3 v4 v5 v6 v7 v8 : V) : List (Key × V) := zD sK [v0, v1, v2, v3, v4, v5, v6, v7, v8]
section
variable {v0 v1 v2 v3 v4 v5 v6 v7 v8 x : V}
theorem sg_row : valV (sD v0 v1 v2 v3 v4 v5 v6 v7 v8) (.inr "row") = some v0 := zD_get (i := 0) sNd rfl rfl
theorem sg_names : valV (sD v0 v1 v2 v3 v4 v5 v6 v7 v8) (.inr "names") = some v1 := zD_get (i := 1) sNd rfl rfl
theorem sg_taken : valV (sD v0 v1 v2 v3 v4 v5 v6 v7 v8) (.inr "taken") = some v2 := zD_get (i := 2) sNd rfl rfl
theorem sg_done : valV (sD v0 v1 v2 v3 v4 v5 v6 v7 v8) (.inr "done") = some v3 := zD_get (i := 3) sNd rfl rfl
theorem sg_letters : valV (sD v0 v1 v2 v3 v4 v5 v6 v7 v8) (.inr "letters") = some v4 := zD_get (i := 4) sNd rfl rfl
theorem sg_since : valV (sD v0 v1 v2 v3 v4 v5 v6 v7 v8) (.inr "since") = some v5 := zD_get (i := 5) sNd rfl rfl
theorem sg_about : valV (sD v0 v1 v2 v3 v4 v5 v6 v7 v8) (.inr "about") = some v6 := zD_get (i := 6) sNd rfl rfl
theorem sg_out : valV (sD v0 v1 v2 v3 v4 v5 v6 v7 v8) (.inr "out") = some v7 := zD_get (i := 7) sNd rfl rfl
theorem sg_again : valV (sD v0 v1 v2 v3 v4 v5 v6 v7 v8) (.inr "again") = some v8 := zD_get (i := 8) sNd rfl rfl
theorem sp_row : putK (sD v0 v1 v2 v3 v4 v5 v6 v7 v8) (.inr "row") x = sD x v1 v2 v3 v4 v5 v6 v7 v8 := zD_put (i := 0) sNd rfl (Nat.le_of_ble_eq_true rfl)
theorem sp_names : putK (sD v0 v1 v2 v3 v4 v5 v6 v7 v8) (.inr "names") x = sD v0 x v2 v3 v4 v5 v6 v7 v8 := zD_put (i := 1) sNd rfl (Nat.le_of_ble_eq_true rfl)
theorem sp_taken : putK (sD v0 v1 v2 v3 v4 v5 v6 v7 v8) (.inr "taken") x = sD v0 v1 x v3 v4 v5 v6 v7 v8 := zD_put (i := 2) sNd rfl (Nat.le_of_ble_eq_true rfl)
theorem sp_done : putK (sD v0 v1 v2 v3 v4 v5 v6 v7 v8) (.inr "done") x = sD v0 v1 v2 x v4 v5 v6 v7 v8 := zD_put (i := 3) sNd rfl (Nat.le_of_ble_eq_true rfl)
theorem sp_letters : putK (sD v0 v1 v2 v3 v4 v5 v6 v7 v8) (.inr "letters") x = sD v0 v1 v2 v3 x v5 v6 v7 v8 := zD_put (i := 4) sNd rfl (Nat.le_of_ble_eq_true rfl)
theorem sp_since : putK (sD v0 v1 v2 v3 v4 v5 v6 v7 v8) (.inr "since") x = sD v0 v1 v2 v3 v4 x v6 v7 v8 := zD_put (i := 5) sNd rfl (Nat.le_of_ble_eq_true rfl)
theorem sp_about : putK (sD v0 v1 v2 v3 v4 v5 v6 v7 v8) (.inr "about") x = sD v0 v1 v2 v3 v4 v5 x v7 v8 := zD_put (i := 6) sNd rfl (Nat.le_of_ble_eq_true rfl)
theorem sp_out : putK (sD v0 v1 v2 v3 v4 v5 v6 v7 v8) (.inr "out") x = sD v0 v1 v2 v3 v4 v5 v6 x v8 := zD_put (i := 7) sNd rfl (Nat.le_of_ble_eq_true rfl)
theorem sp_again : putK (sD v0 v1 v2 v3 v4 v5 v6 v7 v8) (.inr "again") x = sD v0 v1 v2 v3 v4 v5 v6 v7 x := zD_put (i := 8) sNd rfl (Nat.le_of_ble_eq_true rfl)
theorem sm : mergeK [] (sD v0 v1 v2 v3 v4 v5 v6 v7 v8) = sD v0 v1 v2 v3 v4 v5 v6 v7 v8 := zD_merge (ka := []) (va := []) sNd rfl rfl
end
def aK : List Str := ["row", "names", "taken", "done", "letters"]
def bK : List Str := ["since", "about", "out", "again"]
def aD (v0 v1 v2 v3 v4 : V) : List (Key × V) := zD aK [v0, v1, v2, v3, v4]
def bD (v0 v1 v2 v3 : V) : List (Key × V) := zD bK [v0, v1, v2, v3]
section
variable {v0 v1 v2 v3 v4 v5 v6 v7 v8 : V}
theorem am : mergeK [] (aD v0 v1 v2 v3 v4) = aD v0 v1 v2 v3 v4 := zD_merge (ka := []) (va := []) (kb := aK) ((List.nodup_append.mp (show (aK ++ bK).Nodup from sNd)).1) rfl rfl
theorem bm : mergeK [] (bD v0 v1 v2 v3) = bD v0 v1 v2 v3 := zD_merge (ka := []) (va := []) (kb := bK) ((List.nodup_append.mp (show (aK ++ bK).Nodup from sNd)).2.1) rfl rfl
theorem abm : mergeK (aD v0 v1 v2 v3 v4) (bD v5 v6 v7 v8) = sD v0 v1 v2 v3 v4 v5 v6 v7 v8 := zD_merge (ka := aK) (kb := bK) sNd rfl rfl
end
abbrev s__law_inner : Stmt := top 56
structure Inn (H : Hp) (sd nl : Addr) (row : Int) (ns : List Int) (taken done letters since : Int) (ab ou : V) (ag : V) : Prop where
  d : H sd = some (.dK (sD (.int row) (.ref nl) (.int taken) (.int done) (.int letters) (.int since) ab ou ag))
  n : H nl = some (.lst (ns.map V.int))
def spInner : Sp := fun vs H Q _ => ∃ (v : V) (p : Prog), vs = [v] ∧ p.Ok ∧ ProgAt H p v ∧
  ∀ (sd nl ag : Addr) (H' : Hp), H sd = none → H nl = none → H ag = none → nl ≠ ag → Inn H' sd nl 0 (List.replicate p.nm.toNat 0) 0 0 0 0 .non (.bl false) (.ref ag) → H' ag = some (.lst []) → Same H H' → Q (.ref sd) H'
section
variable {P : Program} {w : World} {K : PySem.W.Frag} {mg : Str → Option Value} {base : Heap} {f : Addr} {fd : FuncData}
theorem scs__law_inner : FnScope ["_law_p", "_law_s"] ["_law_p"] (defScope s__law_inner) := ⟨rfl, rfl, rfl, by decide +kernel, rfl, by decide +kernel, by decide +kernel⟩
theorem ok_inner (F : Fun K "_law_inner" "_law_inner" s__law_inner f fd) (T : Txt mg) : FnOk P w K mg base CX0 1 f fd ["_law_p"] spInner := by
  refine F.ok scs__law_inner (fun vs H Q E h => ?_) (fun cdv A outer s H vs Q E hr h => ?_)
  · obtain ⟨v, p, rfl, _⟩ := h
    rfl
  obtain ⟨v, p, rfl, hok, hP, k⟩ := h
  have nd := scs__law_inner.nd
  have hu := hu_of hr
  refine ⟨_, (pss_cons (ps_set (i := 1) nd rfl (Or.inl rfl) (pe_disp (pps_cons pe_str pe_int (pps_cons pe_str (pe_op op_rep (pe_lst (pa_cons pe_int pa_nil)) (pe_ix (kIxT K) (pv 0) pe_int (fun _ _ => rfl))) (pps_cons pe_str pe_int (pps_cons pe_str pe_int (pps_cons pe_str pe_int pps_nil))))) rfl rfl (by intro z; cases z) (Nat.le_of_ble_eq_true rfl)))
      (pss_cons (ps_expr (pe_bm PySem.F.plainAttrs_dict PySem.F.slot_dict_update PySem.F.type_dict_update mt_update (pv 1) (pa_cons (pe_disp (pps_cons pe_str pe_int (pps_cons pe_str pe_non (pps_cons pe_str pe_bl (pps_cons pe_str (pe_lst pa_nil) pps_nil)))) rfl rfl (by intro z; cases z) (Nat.le_of_ble_eq_true rfl)) pa_nil)))
      (pss_one (ps_ret (pv 1))))), ?_⟩
  obtain ⟨a, b, rs, rfl, ha, hb, hR⟩ := hP
  walk_at "lw_go"
  refine go_disp (fun sd hsd => ?_)
  walk_at "lw_go"
  refine go_qlst (Nat.le_of_ble_eq_true rfl) (fun z hz => ?_)
  walk_at "lw_go"
  have hn1 := hok.n1
  have hn2 := hok.n2
  refine go_rep1 (by walk_at "lw_hp") (by omega) (by omega) (fun nl hnl => ?_)
  walk_at "lw_go"
  refine go_qdisp (aD (.int 0) (.ref nl) (.int 0) (.int 0) (.int 0)) (by walk_at "lw_hp") rfl (Nat.le_of_ble_eq_true rfl) am ?_
  have S0 := (same_new hsd (.dK [])).trans ((same_new hz (.lst [.int 0])).trans (same_new hnl (.lst (List.replicate p.nm.toNat (.int 0)))))
  have S1 := same_upd (o := .dK (aD (.int 0) (.ref nl) (.int 0) (.int 0) (.int 0))) hsd S0
  have nsn : nl ≠ sd := (ne_of_none (upd_new hz upd_same) hnl).symm
  have e1 : upd (upd (upd (upd H sd (.dK [])) z (.lst [.int 0])) nl (.lst (List.replicate p.nm.toNat (.int 0)))) sd (.dK (aD (.int 0) (.ref nl) (.int 0) (.int 0) (.int 0))) nl = some (.lst (List.replicate p.nm.toNat (.int 0))) := upd_oth nsn upd_same
  have e2 : upd (upd (upd (upd H sd (.dK [])) z (.lst [.int 0])) nl (.lst (List.replicate p.nm.toNat (.int 0)))) sd (.dK (aD (.int 0) (.ref nl) (.int 0) (.int 0) (.int 0))) sd = some (.dK (aD (.int 0) (.ref nl) (.int 0) (.int 0) (.int 0))) := upd_same
  have hnl0 : H nl = none := (same_new hsd _).free ((same_new hz _).free hnl)
  generalize upd (upd (upd (upd H sd (.dK [])) z (.lst [.int 0])) nl (.lst (List.replicate p.nm.toNat (.int 0)))) sd (.dK (aD (.int 0) (.ref nl) (.int 0) (.int 0) (.int 0))) = H1 at *
  walk_at "lw_go"
  refine go_qbmD e2 ?_
  walk_at "lw_go"
  refine go_disp (fun b' hb' => ?_)
  walk_at "lw_go"
  refine go_qlst (Nat.le_of_ble_eq_true rfl) (fun ag hag => ?_)
  walk_at "lw_go"
  refine go_qdisp (bD (.int 0) .non (.bl false) (.ref ag)) (by walk_at "lw_hp") rfl (Nat.le_of_ble_eq_true rfl) bm ?_
  walk_at "lw_go"
  have nb : ag ≠ b' := (ne_of_none upd_same hag).symm
  have e3 : upd (upd (upd H1 b' (.dK [])) ag (.lst [])) b' (.dK (bD (.int 0) .non (.bl false) (.ref ag))) sd = some (.dK (aD (.int 0) (.ref nl) (.int 0) (.int 0) (.int 0))) := upd_oth (ne_of_none e2 hb') (upd_new hag (upd_new hb' e2))
  refine go_update e3 upd_same (ne_of_none e2 hb') (Nat.le_of_ble_eq_true rfl) abm ?_
  walk_at "lw_go"
  have hag0 : H1 ag = none := (same_new hb' _).free hag
  refine k sd nl ag _ hsd hnl0 (S1.free hag0) (ne_of_none e1 hag0) ⟨upd_same, ?_⟩ ?_ (same_upd hsd ?_)
  · rw [List.map_replicate]
    refine upd_oth nsn (upd_oth (ne_of_none e1 hb') (upd_new hag (upd_new hb' e1)))
  · exact upd_oth (ne_of_none e2 hag0).symm (upd_oth nb upd_same)
  · exact same_upd (S1.free hb') ((S1.trans (same_new hb' _)).trans (same_new hag _))
end
end Lw
set_option Elab.async false
set_option linter.all false
set_option maxRecDepth 100000
set_option maxHeartbeats 4000000
namespace Lw
open PySem L2
local macro_rules | `(tactic| walk_at "lw_hp") => `(tactic| (repeat (first | assumption | exact upd_same | (refine' upd_new (by assumption) ?_) | (refine' tup_off (by assumption) (by assumption) ?_) | (refine' lst_off (by assumption) (by assumption) (by assumption) ?_) | (refine' Same.get (by assumption) ?_) | (refine' Off.get (by assumption) (by assumption) ?_) | (refine' upd_oth (by assumption) ?_))))
local macro_rules | `(tactic| walk_at "lw_god") => `(tactic| (repeat (first | (with_reducible (first | refine go_var rfl ?_ | refine go_c ?_ | refine go_cons ?_ | refine go_op ?_ | refine go_nil ?_ | refine go_seq ?_ | refine go_qb ?_ | refine go_test ?_ | refine go_ifS ?_ | refine go_gname ?_ | refine go_cb ?_)) | ((with_reducible refine' go_ixT ?hp ?ha ?_); (case hp => walk_at "lw_hp"); (case ha => first | rfl | assumption)) | (with_reducible (first | refine go_asg ?_ | refine go_callC ?_ | refine go_next ?_ | refine go_tup ?_ | refine go_i0 ?_ | refine go_ret ?_)) | ((with_reducible refine' go_qdg ?hp ?ha ?_); (case hp => walk_at "lw_hp"); (case ha => first | assumption | exact eg_row | exact eg_taken | exact eg_name | exact eg_file | exact eg_letter | exact eg_fault | exact sg_row | exact sg_names | exact sg_taken | exact sg_done | exact sg_letters | exact sg_since | exact sg_about | exact sg_out | exact sg_again)) | (with_reducible (first | refine go_dget ?_ | refine go_gcons ?_)) | ((with_reducible refine' go_qdp ?hp ?ha ?hl ?_); (case hp => walk_at "lw_hp"); (case ha => first | assumption | exact ep_row | exact ep_taken | exact ep_name | exact ep_file | exact ep_letter | exact ep_fault | exact sp_row | exact sp_names | exact sp_taken | exact sp_done | exact sp_letters | exact sp_since | exact sp_about | exact sp_out | exact sp_again); (case hl => exact Nat.le_of_ble_eq_true rfl)) | (with_reducible (first | refine go_gsub ?_ | refine go_testB ?_)) | ((with_reducible refine' go_ixL ?hp ?ha ?_); (case hp => walk_at "lw_hp"); (case ha => first | rfl | assumption)) | (with_reducible (first | refine' go_ixLs (by assumption) (by assumption) ?_ | refine go_lst ?_)) | ((with_reducible refine' go_i ?cc ?_); (case cc => first | omega | (simp only [CDiv, CMul, CPow]; omega) | (simp only [CDiv, CMul, CPow]; decide))) | (with_reducible (first | refine go_drop ?_ | refine go_eqI ?_ | refine go_eqS ?_ | refine go_eqB ?_ | refine go_eq (by rfl) ?_ | refine go_gnil ?_ | refine go_iteT ?_ | refine go_iteF ?_ | refine go_iteNt ?_ | refine go_iteNf ?_ | refine go_iteNN ?_)) | (with_reducible refine go_iteDT (by first | assumption | rfl | omega | (simp only [List.length_cons, List.length_nil, List.length_map]; omega)) ?_) | (with_reducible refine go_iteDF (by first | assumption | omega | decide | decide +kernel | (simp only [List.length_cons, List.length_nil, List.length_map]; omega)) ?_) | (with_reducible refine go_iteNT (by first | assumption | rfl | omega | (simp only [List.length_cons, List.length_nil, List.length_map]; omega)) ?_) | (with_reducible refine go_iteNF (by first | assumption | omega | decide | decide +kernel | (simp only [List.length_cons, List.length_nil, List.length_map]; omega)) ?_) | (with_reducible refine go_iteBT (by first | assumption | decide +kernel) ?_) | (with_reducible refine go_iteBF (by first | assumption | decide +kernel) ?_) | (with_reducible (first | refine go_dput ?_ | refine go_setD ?_)) | ((with_reducible refine' go_gtup ?hp ?ha ?_); (case hp => walk_at "lw_hp"); (case ha => first | rfl | assumption)) | (with_reducible refine go_if ?_) | ((with_reducible refine' go_setL ?hp ?ha ?_); (case hp => walk_at "lw_hp"); (case ha => first | rfl | assumption)) | (with_reducible (first | refine go_not ?_ | refine go_or ?_ | refine go_andV ?_ | refine go_sl ?_ | refine go_nopart ?_ | refine go_part ?_ | refine go_qI ?_ | refine' go_lenLs (by assumption) ?_)) | ((with_reducible refine' go_lenL ?hp ?_); (case hp => walk_at "lw_hp")) | ((with_reducible refine' go_lenT ?hp ?_); (case hp => walk_at "lw_hp")) | ((with_reducible refine' go_inT ?hp ?ha ?hb ?_); (case hp => walk_at "lw_hp"); (case ha => rfl); (case hb => rfl)) | ((with_reducible refine' go_notInT ?hp ?ha ?hb ?_); (case hp => walk_at "lw_hp"); (case ha => rfl); (case hb => rfl)) | (with_reducible (first | refine go_pnil ?_ | refine go_pcons ?_ | refine go_un ?_ | refine go_u ?_ | refine go_for ?_ | refine go_rng1 ?_ | refine go_qrng1 (by omega) (by omega) ?_ | refine go_notN_non ?_ | refine go_notN_int ?_ | refine go_notN_str ?_ | refine go_notN_bl ?_ | refine go_notN_ref ?_ | refine go_min ?_ | refine go_bm ?_ | refine go_lc ?_)) | ((with_reducible refine' go_qbm ?hp ?_); (case hp => walk_at "lw_hp")) | (with_reducible (first | refine go_int ?_ | refine go_intB ?_ | refine go_yes ?_ | refine go_and ?_ | refine go_notV ?_ | refine go_iL ?_)) | ((with_reducible refine' go_glst ?hp ?ha ?_); (case hp => walk_at "lw_hp"); (case ha => first | rfl | assumption)) | ((with_reducible refine' go_qiL ?hp ?_); (case hp => walk_at "lw_hp")) | (with_reducible (first | refine go_par ?_ | refine go_gpar ?_ | refine go_isN_non ?_ | refine go_isN_int ?_ | refine go_isN_str ?_ | refine go_isN_bl ?_ | refine go_isN_ref ?_ | refine go_neI ?_ | refine go_neS ?_ | refine go_neB ?_ | refine go_iT ?_ | refine go_ne (by rfl) ?_)) | ((with_reducible refine' go_ixAL ?hp ?ha ?_); (case hp => walk_at "lw_hp"); (case ha => first | rfl | assumption)) | ((with_reducible refine' go_ixAT ?hp ?ha ?_); (case hp => walk_at "lw_hp"); (case ha => first | rfl | assumption)) | ((with_reducible refine' go_qiT ?hp ?_); (case hp => walk_at "lw_hp")) | (with_reducible (first | refine go_is_non_int ?_ | refine go_is_non_bool ?_ | refine go_is_non_str ?_ | refine go_is_non_tuple ?_ | refine go_is_non_list ?_ | refine go_is_bl_int ?_ | refine go_is_bl_bool ?_ | refine go_is_bl_str ?_ | refine go_is_bl_tuple ?_ | refine go_is_bl_list ?_ | refine go_is_int_int ?_ | refine go_is_int_bool ?_ | refine go_is_int_str ?_ | refine go_is_int_tuple ?_ | refine go_is_int_list ?_ | refine go_is_str_int ?_ | refine go_is_str_bool ?_ | refine go_is_str_str ?_ | refine go_is_str_tuple ?_ | refine go_is_str_list ?_)) | ((with_reducible refine' go_is_lst_int ?hp ?_); (case hp => walk_at "lw_hp")) | ((with_reducible refine' go_is_lst_bool ?hp ?_); (case hp => walk_at "lw_hp")) | ((with_reducible refine' go_is_lst_str ?hp ?_); (case hp => walk_at "lw_hp")) | ((with_reducible refine' go_is_lst_tuple ?hp ?_); (case hp => walk_at "lw_hp")) | ((with_reducible refine' go_is_lst_list ?hp ?_); (case hp => walk_at "lw_hp")) | ((with_reducible refine' go_is_tup_int ?hp ?_); (case hp => walk_at "lw_hp")) | ((with_reducible refine' go_is_tup_bool ?hp ?_); (case hp => walk_at "lw_hp")) | ((with_reducible refine' go_is_tup_str ?hp ?_); (case hp => walk_at "lw_hp")) | ((with_reducible refine' go_is_tup_tuple ?hp ?_); (case hp => walk_at "lw_hp")) | ((with_reducible refine' go_is_tup_list ?hp ?_); (case hp => walk_at "lw_hp")) | (with_reducible (first | refine go_max ?_ | refine go_bm0 ?_ | refine go_chain ?_ | refine go_qch ?_)) | ((with_reducible refine' go_qbm0 ?hp ?_); (case hp => walk_at "lw_hp")) | (with_reducible (first | refine go_retN ?_ | refine go_orV ?_ | refine go_whQ ?_ | refine go_rng2 ?_ | refine go_qrng2 (by omega) (by omega) (by omega) (by omega) ?_ | refine go_rvr ?_ | refine go_qrvr (by omega) (by omega) ?_ | refine go_enum ?_ | refine go_aug rfl ?_ | refine go_ipI ?_)) | ((with_reducible refine' go_qenum ?hp ?_); (case hp => walk_at "lw_hp")) | ((with_reducible refine' go_sumL ?hp ?_); (case hp => walk_at "lw_hp")))))
set_option hygiene false in
local macro_rules | `(tactic| walk_at "lw_goda") => `(tactic| (repeat (first | (with_reducible (first | refine go_var rfl ?_ | refine go_c ?_ | refine go_cons ?_ | refine go_op ?_ | refine go_nil ?_ | refine go_seq ?_ | refine go_qb ?_ | refine go_test ?_ | refine go_ifS ?_ | refine go_gname ?_ | refine go_cb ?_)) | ((with_reducible refine' go_ixT ?hp ?ha ?_); (case hp => walk_at "lw_hp"); (case ha => first | rfl | assumption)) | (with_reducible (first | refine go_asg ?_ | refine go_callC ?_ | refine go_next ?_ | refine go_tup ?_ | refine' go_qtup (Nat.le_of_ble_eq_true rfl) (fun p hp => ?_) | refine go_i0 ?_ | refine go_ret ?_)) | ((with_reducible refine' go_qdg ?hp ?ha ?_); (case hp => walk_at "lw_hp"); (case ha => first | assumption | exact eg_row | exact eg_taken | exact eg_name | exact eg_file | exact eg_letter | exact eg_fault | exact sg_row | exact sg_names | exact sg_taken | exact sg_done | exact sg_letters | exact sg_since | exact sg_about | exact sg_out | exact sg_again)) | (with_reducible (first | refine go_dget ?_ | refine go_gcons ?_)) | ((with_reducible refine' go_qdp ?hp ?ha ?hl ?_); (case hp => walk_at "lw_hp"); (case ha => first | assumption | exact ep_row | exact ep_taken | exact ep_name | exact ep_file | exact ep_letter | exact ep_fault | exact sp_row | exact sp_names | exact sp_taken | exact sp_done | exact sp_letters | exact sp_since | exact sp_about | exact sp_out | exact sp_again); (case hl => exact Nat.le_of_ble_eq_true rfl)) | (with_reducible (first | refine go_gsub ?_ | refine go_testB ?_)) | ((with_reducible refine' go_ixL ?hp ?ha ?_); (case hp => walk_at "lw_hp"); (case ha => first | rfl | assumption)) | (with_reducible (first | refine' go_ixLs (by assumption) (by assumption) ?_ | refine' go_qlst (Nat.le_of_ble_eq_true rfl) (fun p hp => ?_) | refine go_lst ?_)) | ((with_reducible refine' go_i ?cc ?_); (case cc => first | omega | (simp only [CDiv, CMul, CPow]; omega) | (simp only [CDiv, CMul, CPow]; decide))) | (with_reducible (first | refine go_drop ?_ | refine go_eqI ?_ | refine go_eqS ?_ | refine go_eqB ?_ | refine go_eq (by rfl) ?_ | refine go_gnil ?_ | refine go_iteT ?_ | refine go_iteF ?_ | refine go_iteNt ?_ | refine go_iteNf ?_ | refine go_iteNN ?_)) | (with_reducible refine go_iteDT (by first | assumption | rfl | omega | (simp only [List.length_cons, List.length_nil, List.length_map]; omega)) ?_) | (with_reducible refine go_iteDF (by first | assumption | omega | decide | decide +kernel | (simp only [List.length_cons, List.length_nil, List.length_map]; omega)) ?_) | (with_reducible refine go_iteNT (by first | assumption | rfl | omega | (simp only [List.length_cons, List.length_nil, List.length_map]; omega)) ?_) | (with_reducible refine go_iteNF (by first | assumption | omega | decide | decide +kernel | (simp only [List.length_cons, List.length_nil, List.length_map]; omega)) ?_) | (with_reducible refine go_iteBT (by first | assumption | decide +kernel) ?_) | (with_reducible refine go_iteBF (by first | assumption | decide +kernel) ?_) | (with_reducible (first | refine go_dput ?_ | refine go_setD ?_)) | ((with_reducible refine' go_gtup ?hp ?ha ?_); (case hp => walk_at "lw_hp"); (case ha => first | rfl | assumption)) | (with_reducible refine go_if ?_) | ((with_reducible refine' go_setL ?hp ?ha ?_); (case hp => walk_at "lw_hp"); (case ha => first | rfl | assumption)) | (with_reducible (first | refine go_not ?_ | refine go_or ?_ | refine go_andV ?_ | refine go_sl ?_ | refine go_nopart ?_ | refine go_part ?_ | refine go_qI ?_ | refine' go_lenLs (by assumption) ?_)) | ((with_reducible refine' go_lenL ?hp ?_); (case hp => walk_at "lw_hp")) | ((with_reducible refine' go_lenT ?hp ?_); (case hp => walk_at "lw_hp")) | ((with_reducible refine' go_inT ?hp ?ha ?hb ?_); (case hp => walk_at "lw_hp"); (case ha => rfl); (case hb => rfl)) | ((with_reducible refine' go_notInT ?hp ?ha ?hb ?_); (case hp => walk_at "lw_hp"); (case ha => rfl); (case hb => rfl)) | (with_reducible (first | refine go_pnil ?_ | refine go_pcons ?_ | refine go_un ?_ | refine go_u ?_ | refine go_for ?_ | refine go_rng1 ?_ | refine go_qrng1 (by omega) (by omega) ?_ | refine go_notN_non ?_ | refine go_notN_int ?_ | refine go_notN_str ?_ | refine go_notN_bl ?_ | refine go_notN_ref ?_ | refine go_min ?_ | refine go_bm ?_ | refine go_lc ?_)) | ((with_reducible refine' go_qbm ?hp ?_); (case hp => walk_at "lw_hp")) | (with_reducible (first | refine go_int ?_ | refine go_intB ?_ | refine go_yes ?_ | refine go_and ?_ | refine go_notV ?_ | refine go_iL ?_)) | ((with_reducible refine' go_glst ?hp ?ha ?_); (case hp => walk_at "lw_hp"); (case ha => first | rfl | assumption)) | ((with_reducible refine' go_qiL ?hp ?_); (case hp => walk_at "lw_hp")) | (with_reducible (first | refine go_par ?_ | refine go_gpar ?_ | refine go_isN_non ?_ | refine go_isN_int ?_ | refine go_isN_str ?_ | refine go_isN_bl ?_ | refine go_isN_ref ?_ | refine go_neI ?_ | refine go_neS ?_ | refine go_neB ?_ | refine go_iT ?_ | refine go_ne (by rfl) ?_)) | ((with_reducible refine' go_ixAL ?hp ?ha ?_); (case hp => walk_at "lw_hp"); (case ha => first | rfl | assumption)) | ((with_reducible refine' go_ixAT ?hp ?ha ?_); (case hp => walk_at "lw_hp"); (case ha => first | rfl | assumption)) | ((with_reducible refine' go_qiT ?hp ?_); (case hp => walk_at "lw_hp")) | (with_reducible (first | refine go_is_non_int ?_ | refine go_is_non_bool ?_ | refine go_is_non_str ?_ | refine go_is_non_tuple ?_ | refine go_is_non_list ?_ | refine go_is_bl_int ?_ | refine go_is_bl_bool ?_ | refine go_is_bl_str ?_ | refine go_is_bl_tuple ?_ | refine go_is_bl_list ?_ | refine go_is_int_int ?_ | refine go_is_int_bool ?_ | refine go_is_int_str ?_ | refine go_is_int_tuple ?_ | refine go_is_int_list ?_ | refine go_is_str_int ?_ | refine go_is_str_bool ?_ | refine go_is_str_str ?_ | refine go_is_str_tuple ?_ | refine go_is_str_list ?_)) | ((with_reducible refine' go_is_lst_int ?hp ?_); (case hp => walk_at "lw_hp")) | ((with_reducible refine' go_is_lst_bool ?hp ?_); (case hp => walk_at "lw_hp")) | ((with_reducible refine' go_is_lst_str ?hp ?_); (case hp => walk_at "lw_hp")) | ((with_reducible refine' go_is_lst_tuple ?hp ?_); (case hp => walk_at "lw_hp")) | ((with_reducible refine' go_is_lst_list ?hp ?_); (case hp => walk_at "lw_hp")) | ((with_reducible refine' go_is_tup_int ?hp ?_); (case hp => walk_at "lw_hp")) | ((with_reducible refine' go_is_tup_bool ?hp ?_); (case hp => walk_at "lw_hp")) | ((with_reducible refine' go_is_tup_str ?hp ?_); (case hp => walk_at "lw_hp")) | ((with_reducible refine' go_is_tup_tuple ?hp ?_); (case hp => walk_at "lw_hp")) | ((with_reducible refine' go_is_tup_list ?hp ?_); (case hp => walk_at "lw_hp")) | (with_reducible (first | refine go_max ?_ | refine go_bm0 ?_ | refine go_chain ?_ | refine go_qch ?_)) | ((with_reducible refine' go_qbm0 ?hp ?_); (case hp => walk_at "lw_hp")) | (with_reducible (first | refine go_retN ?_ | refine go_orV ?_ | refine go_whQ ?_ | refine go_rng2 ?_ | refine go_qrng2 (by omega) (by omega) (by omega) (by omega) ?_ | refine go_rvr ?_ | refine go_qrvr (by omega) (by omega) ?_ | refine go_enum ?_ | refine go_aug rfl ?_ | refine go_ipI ?_)) | ((with_reducible refine' go_qenum ?hp ?_); (case hp => walk_at "lw_hp")) | ((with_reducible refine' go_sumL ?hp ?_); (case hp => walk_at "lw_hp")))))
abbrev s__law_effect : Stmt := top 54
structure EffAt (H0 H : Hp) (v : V) (e : Eff) : Prop where
  ex : ∃ p nv fv lv wv, v = .ref p ∧ H0 p = none ∧ H p = some (.dK (eD (.int e.row) (.int e.taken) nv fv lv wv)) ∧
    (match e.name with | none => nv = .non | some (n, x) => ∃ a, nv = .ref a ∧ H a = some (.tup [.int n, .int x])) ∧
    (match e.file with | none => fv = .non | some (g, xs) => ∃ a l, fv = .ref a ∧ H0 l = none ∧ H a = some (.tup [.int g, .ref l]) ∧ H l = some (.lst (xs.map V.int))) ∧
    (match e.letter with | none => lv = .non | some x => lv = .int x) ∧ (match e.fault with | none => wv = .non | some x => wv = .str x)
inductive ItemsAt (H : Hp) : List V → List (Option Part) → Prop
  | nil : ItemsAt H [] []
  | int {n : Int} {vs : List V} {is : List (Option Part)} : ItemsAt H vs is → ItemsAt H (.int n :: vs) (none :: is)
  | part {v : V} {p : Part} {vs : List V} {is : List (Option Part)} : PartAt H p v → ItemsAt H vs is → ItemsAt H (v :: vs) (some p :: is)
def Row.items : Row → List (Option Part)
  | .set _ p => [none, some p]
  | .take _ => [none]
  | .get _ _ p => [none, none, some p]
  | .size .. => [none, none]
  | .add _ p => [none, some p]
  | .put _ p q => [none, some p, some q]
  | .cut _ p => [none, some p]
  | .send p => [some p]
  | .go _ => [none]
  | .unl .. => [none, none]
  | .mark => []
theorem RowXs.items {H : Hp} : ∀ {r : Row} {xs : List V}, RowXs H r xs → ∃ w rest, xs = .str w :: rest ∧ ItemsAt H rest r.items
  | .set .., _, ⟨v, e, h⟩ => ⟨_, _, e, .int (.part h .nil)⟩
  | .take _, _, e => ⟨_, _, e, .int .nil⟩
  | .get .., _, ⟨v, e, h⟩ => ⟨_, _, e, .int (.int (.part h .nil))⟩
  | .size .., _, e => ⟨_, _, e, .int (.int .nil)⟩
  | .add .., _, ⟨v, e, h⟩ => ⟨_, _, e, .int (.part h .nil)⟩
  | .put .., _, ⟨v, u, e, h, h'⟩ => ⟨_, _, e, .int (.part h (.part h' .nil))⟩
  | .cut .., _, ⟨v, e, h⟩ => ⟨_, _, e, .int (.part h .nil)⟩
  | .send _, _, ⟨v, e, h⟩ => ⟨_, _, e, .part h .nil⟩
  | .go _, _, e => ⟨_, _, e, .int .nil⟩
  | .unl .., _, e => ⟨_, _, e, .int (.int .nil)⟩
  | .mark, _, e => ⟨_, _, e, .nil⟩
theorem ItemsAt.get {H : Hp} {vs : List V} {is : List (Option Part)} (h : ItemsAt H vs is) : ∀ {i : Nat} {v : V}, vs[i]? = some v → (∃ n, v = .int n ∧ is[i]? = some none) ∨ ∃ p, PartAt H p v ∧ is[i]? = some (some p) := by
  induction h with
  | nil => intro i v e; simp at e
  | int _ ih =>
    intro i v e
    cases i with
    | zero => simp at e; subst e; exact .inl ⟨_, rfl, rfl⟩
    | succ i => simpa using ih (by simpa using e)
  | part h _ ih =>
    intro i v e
    cases i with
    | zero => simp at e; subst e; exact .inr ⟨_, h, rfl⟩
    | succ i => simpa using ih (by simpa using e)
theorem ItemsAt.length {H : Hp} {vs : List V} {is : List (Option Part)} (h : ItemsAt H vs is) : vs.length = is.length := by
  induction h with
  | nil => rfl
  | int _ ih => simp [ih]
  | part _ _ ih => simp [ih]
theorem Row.items_ok {nm fl m : Int} {r : Row} (h : r.ok nm fl m) : ∀ p, some p ∈ r.items → p.ok nm 3 := by
  intro p hp
  cases r <;> simp [Row.items] at hp
  case set => subst hp; exact h.2.2
  case get => subst hp; exact h.2.2.2.2
  case add => subst hp; exact h.2.2
  case put => rcases hp with rfl | rfl; exact h.2.2.1; exact h.2.2.2
  case cut => subst hp; exact h.2.2
  case send => subst hp; exact h
theorem cut1 {x : V} {xs : List V} : cutV (x :: xs) (some 1) none = xs := by
  unfold cutV HT.sIx
  simp
theorem cut1_ne {x : V} {xs : List V} : ¬ (HT.sIx (x :: xs).length 0 (some 1) = 0 ∧ HT.sIx (x :: xs).length (x :: xs).length none = (x :: xs).length) := by
  unfold HT.sIx
  simp
  try omega
theorem PartAt.tup {H : Hp} : ∀ {p : Part} {v : V}, PartAt H p v → ∃ a xs, v = .ref a ∧ H a = some (.tup xs)
  | .num _, _, ⟨a, e, h⟩ => ⟨a, _, e, h⟩
  | .name _, _, ⟨a, e, h⟩ => ⟨a, _, e, h⟩
  | .op .., _, ⟨a, u, w, e, h, _⟩ => ⟨a, _, e, h⟩
def spEffect : Sp := fun vs H Q _ => ∃ (pv : V) (hl sd fl nl : Addr) (p : Prog) (hs : List Int) (s : S) (fv : List V) (r : Row) (d l si ab ou ag : V), vs = [pv, .ref hl, .ref sd, .ref fl] ∧ p.Ok ∧ ProgAt H p pv ∧ H hl = some (.lst (hs.map V.int)) ∧ hs.length ≤ 40 ∧
  H sd = some (.dK (sD (.int s.row) (.ref nl) (.int s.taken) d l si ab ou ag)) ∧ H nl = some (.lst (s.names.map V.int)) ∧ H fl = some (.lst fv) ∧ FilesAt H fv s.files ∧ Good p hs s ∧ p.rows[s.row.toNat]? = some r ∧
  ∀ (v : V) (H' : Hp), EffAt H H' v (effM hs s r) → Same H H' → Q v H'
section
variable {P : Program} {w : World} {K : PySem.W.Frag} {mg : Str → Option Value} {base : Heap} {f : Addr} {fd : FuncData}
theorem scs__law_effect : FnScope ["_law_p", "_law_handed", "_law_s", "_law_files", "_law_row", "_law_word", "_law_e", "_law_some", "_law_held", "_law_part"] ["_law_p", "_law_handed", "_law_s", "_law_files"] (defScope s__law_effect) := ⟨rfl, rfl, rfl, by decide +kernel, rfl, by decide +kernel, by decide +kernel⟩
theorem ok_effect (F : Fun K "_law_effect" "_law_effect" s__law_effect f fd) (T : Txt mg) (C_law_worth : FnC P w K mg base 4 "_law_worth" ["_law_part", "_law_names"] (spWorth 3)) : FnOk P w K mg base CX0 5 f fd ["_law_p", "_law_handed", "_law_s", "_law_files"] spEffect := by
  refine F.ok scs__law_effect (fun vs H Q E h => ?_) (fun cdv A outer s0 H vs Q E hr h => ?_)
  · obtain ⟨pw, hl, sd, fl, nl, p, hs, s, fv, r, d, l, si, ab, ou, ag, rfl, _⟩ := h
    rfl
  obtain ⟨pw, hl, sd, fl, nl, p, hs, s, fv, r, d, l, si, ab, ou, ag, rfl, hok, hP, hh, hh4, hsd, hnl, hfl, hF, G, hr', k⟩ := h
  have nd := scs__law_effect.nd
  have hu := hu_of hr
  refine ⟨_, (pss_cons (ps_set (i := 4) nd rfl (Or.inl rfl) (pe_ix (kIxT K) (pe_ix (kIxT K) (pv 0) pe_int (fun _ _ => rfl)) (pe_dget hu (pv 2) pe_str (fun _ _ => rfl)) (fun _ _ => rfl)))
      (pss_cons (ps_set (i := 5) nd rfl (Or.inl rfl) (pe_ix (kIxT K) (pv 4) pe_int (fun _ _ => rfl)))
      (pss_cons (ps_set (i := 6) nd rfl (Or.inl rfl) (pe_disp (pps_cons pe_str (pe_op op_add (pe_dget hu (pv 2) pe_str (fun _ _ => rfl)) pe_int) (pps_cons pe_str (pe_dget hu (pv 2) pe_str (fun _ _ => rfl)) (pps_cons pe_str pe_non (pps_cons pe_str pe_non (pps_cons pe_str pe_non (pps_cons pe_str pe_non pps_nil)))))) rfl rfl (by intro z; cases z) (Nat.le_of_ble_eq_true rfl)))
      (pss_cons (ps_setLc (i := 7) rfl nd rfl rfl (sw_true rfl rfl rfl rfl) (kPiT K (pe_slice (kSlT K) (pv 4) (po_some pe_int) po_none)) (blkOk_by (own := [("_law_part", 9)]) (by show blkC ["_law_p", "_law_handed", "_law_s", "_law_files", "_law_row", "_law_word", "_law_e", "_law_some", "_law_held", "_law_part"] (defScope s__law_effect) _ _ = true; decide +kernel)) (fun _ _ _ _ _ => (pg_name (i := 9) nd rfl (Or.inl rfl))) (fun _ _ _ _ _ => (pts_one (pt_val (pe_callB (kIsinst K) (by rfl) T.n_isinstance (by decide +kernel) (pa_cons (pv 9) (pa_cons (pe_bltn (v := .ty "tuple") (by rfl) T.n_tuple (by decide +kernel) rfl) pa_nil)))))) (fun _ _ _ _ _ => (pe_callC C_law_worth (hr.mono (by omega)) (by rfl) (pa_cons (pv 9) (pa_cons (pe_dget hu (pv 2) pe_str (fun _ _ => rfl)) pa_nil)))))
      (pss_cons (ps_if (pt_cmpR (kIn K) (pv 5) (pe_tup (pa_cons pe_str (pa_cons pe_str (pa_cons pe_str pa_nil)))) (by rfl)) (pss_cons (ps_set (i := 8) nd rfl (Or.inl rfl) (pe_ix (kIxL K) (pv 3) (pe_ix (kIxT K) (pv 4) pe_int (fun _ _ => rfl)) (fun _ _ => rfl)))
      (pss_one (ps_if (pt_cmpR op_eq (pv 5) pe_str (nomark _)) (pss_cons (ps_dput hu (pv 6) pe_str (pe_ifExp (pt_cmpR op_eq (pe_callB (kLen K) (by rfl) T.n_len (by decide +kernel) (pa_cons (pv 8) pa_nil)) pe_int (nomark _)) pe_str pe_non) rfl)
      (pss_one (ps_dput hu (pv 6) pe_str (pe_tup (pa_cons (pe_ix (kIxT K) (pv 4) pe_int (fun _ _ => rfl)) (pa_cons (pe_op op_cat (pv 8) (pv 7)) pa_nil))) rfl))) (pss_one (ps_if (pt_cmpR op_eq (pv 5) pe_str (nomark _)) (pss_cons (ps_dput hu (pv 6) pe_str (pe_ifExp (pt_cmpR op_ge (pe_ix (kIxL K) (pv 7) pe_int (fun _ _ => rfl)) (pe_callB (kLen K) (by rfl) T.n_len (by decide +kernel) (pa_cons (pv 8) pa_nil)) (nomark _)) pe_str pe_non) rfl)
      (pss_one (ps_dput hu (pv 6) pe_str (pe_tup (pa_cons (pe_ix (kIxT K) (pv 4) pe_int (fun _ _ => rfl)) (pa_cons (pe_op op_cat (pe_op op_cat (pe_slice (kSlL K) (pv 8) po_none (po_some (pe_ix (kIxL K) (pv 7) pe_int (fun _ _ => rfl)))) (pe_slice (kSlL K) (pv 7) (po_some pe_int) po_none)) (pe_slice (kSlL K) (pv 8) (po_some (pe_op op_add (pe_ix (kIxL K) (pv 7) pe_int (fun _ _ => rfl)) pe_int)) po_none)) pa_nil))) rfl))) (pss_one (ps_dput hu (pv 6) pe_str (pe_tup (pa_cons (pe_ix (kIxT K) (pv 4) pe_int (fun _ _ => rfl)) (pa_cons (pe_slice (kSlL K) (pv 8) po_none (po_some (pe_ix (kIxL K) (pv 7) pe_int (fun _ _ => rfl)))) pa_nil))) rfl))))))) (pss_one (ps_if (pt_cmpR op_eq (pv 5) pe_str (nomark _)) (pss_cons (ps_dput hu (pv 6) pe_str (pe_ifExp (pt_cmpR op_eq (pe_dget hu (pv 2) pe_str (fun _ _ => rfl)) (pe_callB (kLen K) (by rfl) T.n_len (by decide +kernel) (pa_cons (pv 1) pa_nil)) (nomark _)) pe_str pe_non) rfl)
      (pss_cons (ps_dput hu (pv 6) pe_str (pe_tup (pa_cons (pe_ix (kIxT K) (pv 4) pe_int (fun _ _ => rfl)) (pa_cons (pe_ix (kIxL K) (pe_op op_cat (pv 1) (pe_lst (pa_cons pe_int pa_nil))) (pe_callB (c_min rfl) (by rfl) T.n_min (by decide +kernel) (pa_cons (pe_dget hu (pv 2) pe_str (fun _ _ => rfl)) (pa_cons (pe_callB (kLen K) (by rfl) T.n_len (by decide +kernel) (pa_cons (pv 1) pa_nil)) pa_nil))) (fun _ _ => rfl)) pa_nil))) rfl)
      (pss_one (ps_dput hu (pv 6) pe_str (pe_op op_add (pe_dget hu (pv 2) pe_str (fun _ _ => rfl)) pe_int) rfl)))) (pss_one (ps_if (pt_cmpR op_eq (pv 5) pe_str (nomark _)) (pss_cons (ps_dput hu (pv 6) pe_str (pe_ifExp (pt_cmpR op_ge (pe_ix (kIxL K) (pv 7) pe_int (fun _ _ => rfl)) (pe_callB (kLen K) (by rfl) T.n_len (by decide +kernel) (pa_cons (pe_ix (kIxL K) (pv 3) (pe_ix (kIxT K) (pv 4) pe_int (fun _ _ => rfl)) (fun _ _ => rfl)) pa_nil)) (nomark _)) pe_str pe_non) rfl)
      (pss_one (ps_dput hu (pv 6) pe_str (pe_tup (pa_cons (pe_ix (kIxT K) (pv 4) pe_int (fun _ _ => rfl)) (pa_cons (pe_ix (kIxL K) (pe_op op_cat (pe_ix (kIxL K) (pv 3) (pe_ix (kIxT K) (pv 4) pe_int (fun _ _ => rfl)) (fun _ _ => rfl)) (pe_lst (pa_cons pe_int pa_nil))) (pe_callB (c_min rfl) (by rfl) T.n_min (by decide +kernel) (pa_cons (pe_ix (kIxL K) (pv 7) pe_int (fun _ _ => rfl)) (pa_cons (pe_callB (kLen K) (by rfl) T.n_len (by decide +kernel) (pa_cons (pe_ix (kIxL K) (pv 3) (pe_ix (kIxT K) (pv 4) pe_int (fun _ _ => rfl)) (fun _ _ => rfl)) pa_nil)) pa_nil))) (fun _ _ => rfl)) pa_nil))) rfl))) (pss_one (ps_if (pt_cmpR (kIn K) (pv 5) (pe_tup (pa_cons pe_str (pa_cons pe_str pa_nil))) (by rfl)) (pss_one (ps_dput hu (pv 6) pe_str (pe_tup (pa_cons (pe_ix (kIxT K) (pv 4) pe_int (fun _ _ => rfl)) (pa_cons (pe_ifExp (pt_cmpR op_eq (pv 5) pe_str (nomark _)) (pe_ix (kIxL K) (pv 7) pe_int (fun _ _ => rfl)) (pe_callB (kLen K) (by rfl) T.n_len (by decide +kernel) (pa_cons (pe_ix (kIxL K) (pv 3) (pe_ix (kIxT K) (pv 4) pe_int (fun _ _ => rfl)) (fun _ _ => rfl)) pa_nil))) pa_nil))) rfl)) (pss_one (ps_if (pt_cmpR op_eq (pv 5) pe_str (nomark _)) (pss_one (ps_dput hu (pv 6) pe_str (pe_ix (kIxL K) (pv 7) pe_int (fun _ _ => rfl)) rfl)) (pss_one (ps_if (PW.pt (pw_or (pt_cmpR op_eq (pv 5) pe_str (nomark _)) (pw_or1 (PW.pt (pw_and (pt_cmpR op_eq (pv 5) pe_str (nomark _)) (pw_and1 (pt_cmpR op_eq (pe_ix (kIxL K) (pe_dget hu (pv 2) pe_str (fun _ _ => rfl)) (pe_ix (kIxT K) (pv 4) pe_int (fun _ _ => rfl)) (fun _ _ => rfl)) pe_int (nomark _)))))))) (pss_one (ps_dput hu (pv 6) pe_str (pe_ix (kIxT K) (pv 4) (pe_un un_neg pe_int) (fun _ _ => rfl)) rfl)) pss_nil)))))))))))
      (pss_one (ps_ret (pv 6)))))))), ?_⟩
  obtain ⟨pa, pb, rs, rfl, hpa, hpb, hR⟩ := hP
  obtain ⟨rv, hrv, ra, xs, rfl, hra, hxs⟩ := hR.get hr'
  have rok := hok.rw r (List.mem_of_getElem? hr')
  obtain ⟨wd, rest, rfl, hI⟩ := hxs.items
  have G0 := G.r0
  have hat : atI rs s.row = some (.ref ra) := by
    rw [show s.row = ((s.row.toNat : Nat) : Int) by omega]
    exact atI_nat hrv
  have hat0 : atI (V.str wd :: rest) 0 = some (.str wd) := atI_nat (xs := V.str wd :: rest) (j := 0) rfl
  walk_at "lw_god"
  refine go_disp (fun ed hed => ?_)
  walk_at "lw_god"
  refine go_qdisp (eD (.int (s.row + 1)) (.int s.taken) .non .non .non .non) (by walk_at "lw_hp") rfl (Nat.le_of_ble_eq_true rfl) em ?_
  have S1 : Same H (upd (upd H ed (.dK [])) ed (.dK (eD (.int (s.row + 1)) (.int s.taken) .non .non .non .non))) := same_upd hed (same_new hed _)
  have e1 : upd (upd H ed (.dK [])) ed (.dK (eD (.int (s.row + 1)) (.int s.taken) .non .non .non .non)) ed = some (.dK (eD (.int (s.row + 1)) (.int s.taken) .non .non .non .non)) := upd_same
  generalize upd (upd H ed (.dK [])) ed (.dK (eD (.int (s.row + 1)) (.int s.taken) .non .non .non .non)) = H1 at *
  walk_at "lw_god"
  refine go_slT (S1 _ _ hra) cut1_ne (fun pc hpc => ?_)
  rw [cut1]
  refine go_qiT (xs := rest) upd_same ?_
  have S2 : Same H1 (upd H1 pc (.tup rest)) := same_new hpc _
  have hrest : upd H1 pc (.tup rest) pc = some (.tup rest) := upd_same
  generalize upd H1 pc (.tup rest) = H2 at *
  have S12 := S1.trans S2
  refine lq_tup rest (fun L hL => ?_)
  refine ⟨fun i H' => H' L = some (.lst (((r.items.take i).filterMap id).map fun p => V.int (p.val s.names))) ∧ Same H2 H', ?_, ?_, ?_, ?_⟩
  · exact ⟨upd_same, same_new hL _⟩
  · rintro i H' _ ⟨_, s'⟩
    exact SqT.of (s' _ _ hrest)
  · rintro i vv H' hi ⟨e', s'⟩
    refine go_gname ⟨rfl, ?_⟩
    have S' := S12.trans s'
    rcases hI.get hi with ⟨n, rfl, hn⟩ | ⟨pt, hpt, hn⟩
    · walk_at "lw_god"
      refine ⟨?_, s'⟩
      rw [take_snoc hn, List.filterMap_append]
      simpa using e'
    · obtain ⟨va, vx, rfl, hva⟩ := hpt.tup
      have hva' := S' _ _ hva
      walk_at "lw_god"
      refine ⟨_, nl, pt, s.names, p.nm, rfl, hpt.mono S'.tk, Row.items_ok rok pt (List.mem_of_getElem? hn), S' _ _ hnl, G.nl, G.nn, fun H4 s4 => ?_⟩
      have hil : r.items.length ≤ 3 := by cases r <;> simp [Row.items]
      refine go_lcA (s4 _ _ e') (small_line ?_) ⟨?_, ?_⟩
      · rw [List.length_map]
        have := List.length_filterMap_le id (r.items.take i)
        rw [List.length_take] at this
        omega
      · rw [upd_same, take_snoc hn, List.filterMap_append, List.map_append]; rfl
      · intro b ob hb
        rw [upd_ne (ne_of_none hb hL)]
        exact s4 _ _ (s' _ _ hb)
  · rintro H3 ⟨e3, S3⟩
    rw [hI.length, List.take_length] at e3
    have SS : Same H H3 := S12.trans S3
    have ed3 := (S2.trans S3) _ _ e1
    have hra3 := SS _ _ hra
    have hsd3 := SS _ _ hsd
    have hnl3 := SS _ _ hnl
    have hfl3 := SS _ _ hfl
    have hh3 := SS _ _ hh
    have hLn : H L = none := S12.free hL
    have n1 : ra ≠ ed := ne_of_none hra hed
    have n2 : hl ≠ ed := ne_of_none hh hed
    have n3 : nl ≠ ed := ne_of_none hnl hed
    have n4 : fl ≠ ed := ne_of_none hfl hed
    have n5 : sd ≠ ed := ne_of_none hsd hed
    have n6 : L ≠ ed := ne_of e3 ed3 (by intro z; cases z)
    clear hrest hsd hnl hfl hh hra e1 S1 S2 S12 S3 hpc hL hat
    cases r with
    | set n pt =>
      obtain ⟨v, e, hv⟩ := hxs
      cases e
      walk_at "lw_goda"
      exact k _ _ ⟨ed, _, _, _, _, rfl, hed, upd_same, ⟨p, rfl, upd_tup (by walk_at "lw_hp") upd_same⟩, rfl, rfl, rfl⟩ (same_upd hed (by (repeat (first | assumption | exact Same.refl _ | (refine' Same.trans ?_ (same_new (by assumption) _)) | (refine' same_upd (by assumption) ?_)))))
    | size n g =>
      cases hxs
      obtain ⟨fa, hfa, hfv⟩ := at_file hF rok.2.2.1 (by rw [G.fl]; have := rok.2.2.2; omega)
      have hfv3 := SS _ _ hfv
      walk_at "lw_goda"
      rw [List.length_map]
      exact k _ _ ⟨ed, _, _, _, _, rfl, hed, upd_same, ⟨p, rfl, upd_tup (by walk_at "lw_hp") upd_same⟩, rfl, rfl, rfl⟩ (same_upd hed (by (repeat (first | assumption | exact Same.refl _ | (refine' Same.trans ?_ (same_new (by assumption) _)) | (refine' same_upd (by assumption) ?_)))))
    | send pt =>
      obtain ⟨v, e, hv⟩ := hxs
      cases e
      walk_at "lw_goda"
      exact k _ _ ⟨ed, _, _, _, _, rfl, hed, upd_same, rfl, rfl, rfl, rfl⟩ (same_upd hed (by (repeat (first | assumption | exact Same.refl _ | (refine' Same.trans ?_ (same_new (by assumption) _)) | (refine' same_upd (by assumption) ?_)))))
    | mark =>
      cases hxs
      walk_at "lw_goda"
      exact k _ _ ⟨ed, _, _, _, _, rfl, hed, (by walk_at "lw_hp"), rfl, rfl, rfl, rfl⟩ (by (repeat (first | assumption | exact Same.refl _ | (refine' Same.trans ?_ (same_new (by assumption) _)) | (refine' same_upd (by assumption) ?_))))
    | go r =>
      cases hxs
      walk_at "lw_goda"
      exact k _ _ ⟨ed, _, _, _, _, rfl, hed, upd_same, rfl, rfl, rfl, rfl⟩ (same_upd hed (by (repeat (first | assumption | exact Same.refl _ | (refine' Same.trans ?_ (same_new (by assumption) _)) | (refine' same_upd (by assumption) ?_)))))
    | unl n r =>
      cases hxs
      have hat := at_num (xs := s.names) (g := n) rok.1 (by rw [G.nl]; have := rok.2.1; omega)
      walk_at "lw_goda"
      refine go_iteD (fun c => ?_) (fun c => ?_)
      · walk_at "lw_goda"
        refine k _ _ ⟨ed, _, _, _, _, rfl, hed, upd_same.trans ?_, rfl, rfl, rfl, rfl⟩ (same_upd hed (by (repeat (first | assumption | exact Same.refl _ | (refine' Same.trans ?_ (same_new (by assumption) _)) | (refine' same_upd (by assumption) ?_)))))
        simp only [effM, if_pos c]
      · walk_at "lw_goda"
        refine k _ _ ⟨ed, _, _, _, _, rfl, hed, (show _ = _ from ?_), rfl, rfl, rfl, rfl⟩ (by (repeat (first | assumption | exact Same.refl _ | (refine' Same.trans ?_ (same_new (by assumption) _)) | (refine' same_upd (by assumption) ?_))))
        simp only [effM, if_neg c]
        walk_at "lw_hp"
    | take n =>
      cases hxs
      have g3 := G.tk
      have hat : atI (hs.map V.int ++ [V.int 0]) (min (s.taken : Int) ((hs.map V.int).length : Nat)) = some (.int ((hs ++ [0]).getD s.taken 0)) := by
        have q := at_num (xs := hs ++ [0]) (g := s.taken) (by omega) (by rw [List.length_append]; show _ < ((_ + 1 : Nat) : Int); omega)
        rw [List.length_map, show min (s.taken : Int) (hs.length : Int) = s.taken by omega]
        rwa [List.map_append] at q
      walk_at "lw_goda"
      refine go_iteD (fun c => ?_) (fun c => ?_)
      all_goals
        rw [List.length_map] at c
        walk_at "lw_goda"
        refine go_cat (by walk_at "lw_hp") (by walk_at "lw_hp") (small_le (by rw [List.length_map]; show hs.length + 1 ≤ _; omega)) (fun q hq => ?_)
        walk_at "lw_goda"
        refine k _ _ ⟨ed, _, _, _, _, rfl, hed, upd_same, ⟨p, rfl, by (repeat (first | assumption | exact upd_same | (refine' upd_new (by assumption) ?_) | (refine' upd_oth (by assumption) ?_) | (refine' upd_tup (by walk_at "lw_hp") ?_) | (refine' upd_lst (by walk_at "lw_hp") ?_)))⟩, rfl, rfl, ?_⟩ (same_upd hed (by (repeat (first | assumption | exact Same.refl _ | (refine' Same.trans ?_ (same_new (by assumption) _)) | (refine' same_upd (by assumption) ?_)))))
        first
          | (have c' : s.taken = hs.length := by omega
             simp only [effM, if_pos c'])
          | (have c' : ¬ s.taken = hs.length := by omega
             simp only [effM, if_neg c'])
    | get n g pt =>
      obtain ⟨v, e, hv⟩ := hxs
      cases e
      obtain ⟨fa, hfa, hfv⟩ := at_file hF rok.2.2.1 (by rw [G.fl]; have := rok.2.2.2.1; omega)
      have hfv3 := SS _ _ hfv
      have n7 : fa ≠ ed := ne_of_none hfv hed
      have hvl := Part.val_num G.nn rok.2.2.2.2
      have hfl40 := (G.file g).1
      have hat : atI ((s.file g).map V.int ++ [V.int 0]) (min (pt.val s.names) (((s.file g).map V.int).length : Nat)) = some (.int ((s.file g ++ [0]).getD (min (pt.val s.names) (s.file g).length).toNat 0)) := by
        have q := at_num (xs := s.file g ++ [0]) (g := min (pt.val s.names) (s.file g).length) (by omega) (by rw [List.length_append]; show _ < ((_ + 1 : Nat) : Int); omega)
        rw [List.length_map]
        rwa [List.map_append] at q
      walk_at "lw_goda"
      refine go_iteD (fun c => ?_) (fun c => ?_)
      all_goals
        rw [List.length_map] at c
        walk_at "lw_goda"
        refine go_cat (xs := (s.file g).map V.int) (by walk_at "lw_hp") (by walk_at "lw_hp") (small_le (by rw [List.length_map]; show (s.file g).length + 1 ≤ _; omega)) (fun q hq => ?_)
        walk_at "lw_goda"
        refine k _ _ ⟨ed, _, _, _, _, rfl, hed, upd_same, ⟨p, rfl, by (repeat (first | assumption | exact upd_same | (refine' upd_new (by assumption) ?_) | (refine' upd_oth (by assumption) ?_) | (refine' upd_tup (by walk_at "lw_hp") ?_) | (refine' upd_lst (by walk_at "lw_hp") ?_)))⟩, rfl, rfl, ?_⟩ (same_upd hed (by (repeat (first | assumption | exact Same.refl _ | (refine' Same.trans ?_ (same_new (by assumption) _)) | (refine' same_upd (by assumption) ?_)))))
        simp only [effM, S.file] at c ⊢
        simp only [c, if_true, if_false]
    | cut g pt =>
      obtain ⟨v, e, hv⟩ := hxs
      cases e
      obtain ⟨fa, hfa, hfv⟩ := at_file hF rok.1 (by rw [G.fl]; have := rok.2.1; omega)
      have hfv3 := SS _ _ hfv
      have n7 : fa ≠ ed := ne_of_none hfv hed
      have hvl := Part.val_num G.nn rok.2.2
      walk_at "lw_goda"
      refine go_slL (by walk_at "lw_hp") (fun q hq => ?_)
      rw [cut_to hvl.1]
      walk_at "lw_goda"
      refine k _ _ ⟨ed, _, _, _, _, rfl, hed, upd_same, rfl, ⟨p, q, rfl, Same.free (H := H) (by (repeat (first | assumption | exact Same.refl _ | (refine' Same.trans ?_ (same_new (by assumption) _)) | (refine' same_upd (by assumption) ?_)))) hq, by (repeat (first | assumption | exact upd_same | (refine' upd_new (by assumption) ?_) | (refine' upd_oth (by assumption) ?_) | (refine' upd_tup (by walk_at "lw_hp") ?_) | (refine' upd_lst (by walk_at "lw_hp") ?_))), ?_⟩, rfl, rfl⟩ (same_upd hed (by (repeat (first | assumption | exact Same.refl _ | (refine' Same.trans ?_ (same_new (by assumption) _)) | (refine' same_upd (by assumption) ?_)))))
      rw [List.map_take]
      (repeat (first | assumption | exact upd_same | (refine' upd_new (by assumption) ?_) | (refine' upd_oth (by assumption) ?_) | (refine' upd_tup (by walk_at "lw_hp") ?_) | (refine' upd_lst (by walk_at "lw_hp") ?_)))
    | add g pt =>
      obtain ⟨v, e, hv⟩ := hxs
      cases e
      obtain ⟨fa, hfa, hfv⟩ := at_file hF rok.1 (by rw [G.fl]; have := rok.2.1; omega)
      have hfv3 := SS _ _ hfv
      have n7 : fa ≠ ed := ne_of_none hfv hed
      have hfl40 := (G.file g).1
      walk_at "lw_goda"
      refine go_iteD (fun c => ?_) (fun c => ?_)
      all_goals
        rw [List.length_map] at c
        walk_at "lw_goda"
        refine go_cat (xs := (s.file g).map V.int) (ys := [V.int (pt.val s.names)]) (by walk_at "lw_hp") (by walk_at "lw_hp") (small_le (by rw [List.length_map]; show (s.file g).length + 1 ≤ _; omega)) (fun q hq => ?_)
        walk_at "lw_goda"
        refine k _ _ ⟨ed, _, _, _, _, rfl, hed, upd_same, rfl, ⟨p, q, rfl, Same.free (H := H) (by (repeat (first | assumption | exact Same.refl _ | (refine' Same.trans ?_ (same_new (by assumption) _)) | (refine' same_upd (by assumption) ?_)))) hq, by (repeat (first | assumption | exact upd_same | (refine' upd_new (by assumption) ?_) | (refine' upd_oth (by assumption) ?_) | (refine' upd_tup (by walk_at "lw_hp") ?_) | (refine' upd_lst (by walk_at "lw_hp") ?_))), ?_⟩, rfl, ?_⟩ (same_upd hed (by (repeat (first | assumption | exact Same.refl _ | (refine' Same.trans ?_ (same_new (by assumption) _)) | (refine' same_upd (by assumption) ?_)))))
        · rw [List.map_append]
          (repeat (first | assumption | exact upd_same | (refine' upd_new (by assumption) ?_) | (refine' upd_oth (by assumption) ?_) | (refine' upd_tup (by walk_at "lw_hp") ?_) | (refine' upd_lst (by walk_at "lw_hp") ?_)))
        · have e0 : s.file g = s.files.getD g.toNat [] := rfl
          first
            | (have c' : (s.file g).length = 40 := by rw [e0]; omega
               simp only [effM, if_pos c'])
            | (have c' : ¬ (s.file g).length = 40 := by rw [e0]; omega
               simp only [effM, if_neg c'])
    | put g pt pu =>
      obtain ⟨v, v', e, hv, hv'⟩ := hxs
      cases e
      obtain ⟨fa, hfa, hfv⟩ := at_file hF rok.1 (by rw [G.fl]; have := rok.2.1; omega)
      have hfv3 := SS _ _ hfv
      have n7 : fa ≠ ed := ne_of_none hfv hed
      have hfl40 := (G.file g).1
      have hvl := Part.val_num G.nn rok.2.2.1
      walk_at "lw_goda"
      refine go_iteD (fun c => ?_) (fun c => ?_)
      all_goals
        rw [List.length_map] at c
        walk_at "lw_goda"
        refine go_slL (xs := (s.file g).map V.int) (by walk_at "lw_hp") (fun q1 hq1 => ?_)
        rw [cut_to hvl.1]
        walk_at "lw_goda"
        refine go_slL (xs := [V.int (pt.val s.names), V.int (pu.val s.names)]) (by walk_at "lw_hp") (fun q2 hq2 => ?_)
        rw [cut_from (by omega)]
        walk_at "lw_goda"
        refine go_cat (xs := ((s.file g).map V.int).take (pt.val s.names).toNat) (ys := [V.int (pu.val s.names)]) (by walk_at "lw_hp") (by walk_at "lw_hp") (small_le (by rw [List.length_take, List.length_map]; show _ + 1 ≤ _; omega)) (fun q3 hq3 => ?_)
        walk_at "lw_goda"
        refine go_slL (xs := (s.file g).map V.int) (by walk_at "lw_hp") (fun q4 hq4 => ?_)
        rw [cut_from (by omega)]
        walk_at "lw_goda"
        refine go_cat (xs := ((s.file g).map V.int).take (pt.val s.names).toNat ++ [V.int (pu.val s.names)]) (ys := ((s.file g).map V.int).drop (pt.val s.names + 1).toNat) (by walk_at "lw_hp") (by walk_at "lw_hp") (small_le (by rw [List.length_append, List.length_take, List.length_map, List.length_drop, List.length_map]; show _ + 1 + _ ≤ _; omega)) (fun q hq => ?_)
        walk_at "lw_goda"
        refine k _ _ ⟨ed, _, _, _, _, rfl, hed, upd_same, rfl, ⟨p, q, rfl, Same.free (H := H) (by (repeat (first | assumption | exact Same.refl _ | (refine' Same.trans ?_ (same_new (by assumption) _)) | (refine' same_upd (by assumption) ?_)))) hq, by (repeat (first | assumption | exact upd_same | (refine' upd_new (by assumption) ?_) | (refine' upd_oth (by assumption) ?_) | (refine' upd_tup (by walk_at "lw_hp") ?_) | (refine' upd_lst (by walk_at "lw_hp") ?_))), ?_⟩, rfl, ?_⟩ (same_upd hed (by (repeat (first | assumption | exact Same.refl _ | (refine' Same.trans ?_ (same_new (by assumption) _)) | (refine' same_upd (by assumption) ?_)))))
        · have e5 : (pt.val s.names + 1).toNat = (pt.val s.names).toNat + 1 := by omega
          rw [List.map_append, List.map_append, List.map_take, List.map_drop, ← e5]
          (repeat (first | assumption | exact upd_same | (refine' upd_new (by assumption) ?_) | (refine' upd_oth (by assumption) ?_) | (refine' upd_tup (by walk_at "lw_hp") ?_) | (refine' upd_lst (by walk_at "lw_hp") ?_)))
        · have e0 : s.file g = s.files.getD g.toNat [] := rfl
          first
            | (have c' : ((s.file g).length : Int) ≤ pt.val s.names := by rw [e0]; omega
               simp only [effM, if_pos c'])
            | (have c' : ¬ ((s.file g).length : Int) ≤ pt.val s.names := by rw [e0]; omega
               simp only [effM, if_neg c'])
end
end Lw
set_option Elab.async false
set_option linter.all false
set_option maxRecDepth 100000
set_option maxHeartbeats 4000000
namespace Lw
open PySem L2
local macro_rules | `(tactic| walk_at "lw_hp") => `(tactic| (repeat (first | assumption | exact upd_same | (refine' upd_new (by assumption) ?_) | (refine' tup_off (by assumption) (by assumption) ?_) | (refine' lst_off (by assumption) (by assumption) (by assumption) ?_) | (refine' Same.get (by assumption) ?_) | (refine' Off.get (by assumption) (by assumption) ?_) | (refine' upd_oth (by assumption) ?_))))
set_option hygiene false in
local macro_rules | `(tactic| walk_at "lw_goda") => `(tactic| (repeat (first | (with_reducible (first | refine go_var rfl ?_ | refine go_c ?_ | refine go_cons ?_ | refine go_op ?_ | refine go_nil ?_ | refine go_seq ?_ | refine go_qb ?_ | refine go_test ?_ | refine go_ifS ?_ | refine go_gname ?_ | refine go_cb ?_)) | ((with_reducible refine' go_ixT ?hp ?ha ?_); (case hp => walk_at "lw_hp"); (case ha => first | rfl | assumption)) | (with_reducible (first | refine go_asg ?_ | refine go_callC ?_ | refine go_next ?_ | refine go_tup ?_ | refine' go_qtup (Nat.le_of_ble_eq_true rfl) (fun p hp => ?_) | refine go_i0 ?_ | refine go_ret ?_)) | ((with_reducible refine' go_qdg ?hp ?ha ?_); (case hp => walk_at "lw_hp"); (case ha => first | assumption | exact eg_row | exact eg_taken | exact eg_name | exact eg_file | exact eg_letter | exact eg_fault | exact sg_row | exact sg_names | exact sg_taken | exact sg_done | exact sg_letters | exact sg_since | exact sg_about | exact sg_out | exact sg_again)) | (with_reducible (first | refine go_dget ?_ | refine go_gcons ?_)) | ((with_reducible refine' go_qdp ?hp ?ha ?hl ?_); (case hp => walk_at "lw_hp"); (case ha => first | assumption | exact ep_row | exact ep_taken | exact ep_name | exact ep_file | exact ep_letter | exact ep_fault | exact sp_row | exact sp_names | exact sp_taken | exact sp_done | exact sp_letters | exact sp_since | exact sp_about | exact sp_out | exact sp_again); (case hl => exact Nat.le_of_ble_eq_true rfl)) | (with_reducible (first | refine go_gsub ?_ | refine go_testB ?_)) | ((with_reducible refine' go_ixL ?hp ?ha ?_); (case hp => walk_at "lw_hp"); (case ha => first | rfl | assumption)) | (with_reducible (first | refine' go_ixLs (by assumption) (by assumption) ?_ | refine' go_qlst (Nat.le_of_ble_eq_true rfl) (fun p hp => ?_) | refine go_lst ?_)) | ((with_reducible refine' go_i ?cc ?_); (case cc => first | omega | (simp only [CDiv, CMul, CPow]; omega) | (simp only [CDiv, CMul, CPow]; decide))) | (with_reducible (first | refine go_drop ?_ | refine go_eqI ?_ | refine go_eqS ?_ | refine go_eqB ?_ | refine go_eq (by rfl) ?_ | refine go_gnil ?_ | refine go_iteT ?_ | refine go_iteF ?_ | refine go_iteNt ?_ | refine go_iteNf ?_ | refine go_iteNN ?_)) | (with_reducible refine go_iteDT (by first | assumption | rfl | omega | (simp only [List.length_cons, List.length_nil, List.length_map]; omega)) ?_) | (with_reducible refine go_iteDF (by first | assumption | omega | decide | decide +kernel | (simp only [List.length_cons, List.length_nil, List.length_map]; omega)) ?_) | (with_reducible refine go_iteNT (by first | assumption | rfl | omega | (simp only [List.length_cons, List.length_nil, List.length_map]; omega)) ?_) | (with_reducible refine go_iteNF (by first | assumption | omega | decide | decide +kernel | (simp only [List.length_cons, List.length_nil, List.length_map]; omega)) ?_) | (with_reducible refine go_iteBT (by first | assumption | decide +kernel) ?_) | (with_reducible refine go_iteBF (by first | assumption | decide +kernel) ?_) | (with_reducible (first | refine go_dput ?_ | refine go_setD ?_)) | ((with_reducible refine' go_gtup ?hp ?ha ?_); (case hp => walk_at "lw_hp"); (case ha => first | rfl | assumption)) | (with_reducible refine go_if ?_) | ((with_reducible refine' go_setL ?hp ?ha ?_); (case hp => walk_at "lw_hp"); (case ha => first | rfl | assumption)) | (with_reducible (first | refine go_not ?_ | refine go_or ?_ | refine go_andV ?_ | refine go_sl ?_ | refine go_nopart ?_ | refine go_part ?_ | refine go_qI ?_ | refine' go_lenLs (by assumption) ?_)) | ((with_reducible refine' go_lenL ?hp ?_); (case hp => walk_at "lw_hp")) | ((with_reducible refine' go_lenT ?hp ?_); (case hp => walk_at "lw_hp")) | ((with_reducible refine' go_inT ?hp ?ha ?hb ?_); (case hp => walk_at "lw_hp"); (case ha => rfl); (case hb => rfl)) | ((with_reducible refine' go_notInT ?hp ?ha ?hb ?_); (case hp => walk_at "lw_hp"); (case ha => rfl); (case hb => rfl)) | (with_reducible (first | refine go_pnil ?_ | refine go_pcons ?_ | refine go_un ?_ | refine go_u ?_ | refine go_for ?_ | refine go_rng1 ?_ | refine go_qrng1 (by omega) (by omega) ?_ | refine go_notN_non ?_ | refine go_notN_int ?_ | refine go_notN_str ?_ | refine go_notN_bl ?_ | refine go_notN_ref ?_ | refine go_min ?_ | refine go_bm ?_ | refine go_lc ?_)) | ((with_reducible refine' go_qbm ?hp ?_); (case hp => walk_at "lw_hp")) | (with_reducible (first | refine go_int ?_ | refine go_intB ?_ | refine go_yes ?_ | refine go_and ?_ | refine go_notV ?_ | refine go_iL ?_)) | ((with_reducible refine' go_glst ?hp ?ha ?_); (case hp => walk_at "lw_hp"); (case ha => first | rfl | assumption)) | ((with_reducible refine' go_qiL ?hp ?_); (case hp => walk_at "lw_hp")) | (with_reducible (first | refine go_par ?_ | refine go_gpar ?_ | refine go_isN_non ?_ | refine go_isN_int ?_ | refine go_isN_str ?_ | refine go_isN_bl ?_ | refine go_isN_ref ?_ | refine go_neI ?_ | refine go_neS ?_ | refine go_neB ?_ | refine go_iT ?_ | refine go_ne (by rfl) ?_)) | ((with_reducible refine' go_ixAL ?hp ?ha ?_); (case hp => walk_at "lw_hp"); (case ha => first | rfl | assumption)) | ((with_reducible refine' go_ixAT ?hp ?ha ?_); (case hp => walk_at "lw_hp"); (case ha => first | rfl | assumption)) | ((with_reducible refine' go_qiT ?hp ?_); (case hp => walk_at "lw_hp")) | (with_reducible (first | refine go_is_non_int ?_ | refine go_is_non_bool ?_ | refine go_is_non_str ?_ | refine go_is_non_tuple ?_ | refine go_is_non_list ?_ | refine go_is_bl_int ?_ | refine go_is_bl_bool ?_ | refine go_is_bl_str ?_ | refine go_is_bl_tuple ?_ | refine go_is_bl_list ?_ | refine go_is_int_int ?_ | refine go_is_int_bool ?_ | refine go_is_int_str ?_ | refine go_is_int_tuple ?_ | refine go_is_int_list ?_ | refine go_is_str_int ?_ | refine go_is_str_bool ?_ | refine go_is_str_str ?_ | refine go_is_str_tuple ?_ | refine go_is_str_list ?_)) | ((with_reducible refine' go_is_lst_int ?hp ?_); (case hp => walk_at "lw_hp")) | ((with_reducible refine' go_is_lst_bool ?hp ?_); (case hp => walk_at "lw_hp")) | ((with_reducible refine' go_is_lst_str ?hp ?_); (case hp => walk_at "lw_hp")) | ((with_reducible refine' go_is_lst_tuple ?hp ?_); (case hp => walk_at "lw_hp")) | ((with_reducible refine' go_is_lst_list ?hp ?_); (case hp => walk_at "lw_hp")) | ((with_reducible refine' go_is_tup_int ?hp ?_); (case hp => walk_at "lw_hp")) | ((with_reducible refine' go_is_tup_bool ?hp ?_); (case hp => walk_at "lw_hp")) | ((with_reducible refine' go_is_tup_str ?hp ?_); (case hp => walk_at "lw_hp")) | ((with_reducible refine' go_is_tup_tuple ?hp ?_); (case hp => walk_at "lw_hp")) | ((with_reducible refine' go_is_tup_list ?hp ?_); (case hp => walk_at "lw_hp")) | (with_reducible (first | refine go_max ?_ | refine go_bm0 ?_ | refine go_chain ?_ | refine go_qch ?_)) | ((with_reducible refine' go_qbm0 ?hp ?_); (case hp => walk_at "lw_hp")) | (with_reducible (first | refine go_retN ?_ | refine go_orV ?_ | refine go_whQ ?_ | refine go_rng2 ?_ | refine go_qrng2 (by omega) (by omega) (by omega) (by omega) ?_ | refine go_rvr ?_ | refine go_qrvr (by omega) (by omega) ?_ | refine go_enum ?_ | refine go_aug rfl ?_ | refine go_ipI ?_)) | ((with_reducible refine' go_qenum ?hp ?_); (case hp => walk_at "lw_hp")) | ((with_reducible refine' go_sumL ?hp ?_); (case hp => walk_at "lw_hp")))))
abbrev s__law_pass : Stmt := top 55
def nameAt (H : Hp) (o : Option (Int × Int)) (nv : V) : Prop := match o with | none => nv = .non | some (n, x) => ∃ a, nv = .ref a ∧ H a = some (.tup [.int n, .int x])
def letterIs (o : Option Int) (lv : V) : Prop := match o with | none => lv = .non | some x => lv = .int x
def spPass : Sp := fun vs H Q _ => ∃ (sd ed nl : Addr) (row tk dn lt si er et : Int) (ns : List Int) (ab ou ag nv fv lv wv : V) (o : Option (Int × Int)) (l : Option Int), vs = [.ref sd, .ref ed] ∧
  H sd = some (.dK (sD (.int row) (.ref nl) (.int tk) (.int dn) (.int lt) (.int si) ab ou ag)) ∧ H nl = some (.lst (ns.map V.int)) ∧ H ed = some (.dK (eD (.int er) (.int et) nv fv lv wv)) ∧ sd ≠ ed ∧
  nameAt H o nv ∧ letterIs l lv ∧ (∀ n x, o = some (n, x) → 0 ≤ n ∧ n < ns.length) ∧
  ∀ H', H' sd = some (.dK (sD (.int er) (.ref nl) (.int et) (.int (dn + 1)) (.int (lt + if l.isSome then 1 else 0)) (.int (si + 1)) ab ou ag)) → H' nl = some (.lst ((match o with | none => ns | some (n, x) => ns.set n.toNat x).map V.int)) → Off2 sd nl H H' → Q .non H'
section
variable {P : Program} {w : World} {K : PySem.W.Frag} {mg : Str → Option Value} {base : Heap} {f : Addr} {fd : FuncData}
theorem scs__law_pass : FnScope ["_law_s", "_law_e"] ["_law_s", "_law_e"] (defScope s__law_pass) := ⟨rfl, rfl, rfl, by decide +kernel, rfl, by decide +kernel, by decide +kernel⟩
theorem ok_pass (F : Fun K "_law_pass" "_law_pass" s__law_pass f fd) (T : Txt mg) : FnOk P w K mg base CX0 1 f fd ["_law_s", "_law_e"] spPass := by
  refine F.ok scs__law_pass (fun vs H Q E h => ?_) (fun cdv A outer s0 H vs Q E hr h => ?_)
  · obtain ⟨sd, ed, nl, row, tk, dn, lt, si, er, et, ns, ab, ou, ag, nv, fv, lv, wv, o, l, rfl, _⟩ := h
    rfl
  obtain ⟨sd, ed, nl, row, tk, dn, lt, si, er, et, ns, ab, ou, ag, nv, fv, lv, wv, o, l, rfl, hsd, hnl, hed, nse, hnv, hlv, hin, k⟩ := h
  have nd := scs__law_pass.nd
  have hu := hu_of hr
  refine ⟨_, (pss_cons (ps_if (pt_cmpR o_notN (pe_dget hu (pv 1) pe_str (fun _ _ => rfl)) pe_non (nomark _)) (pss_one (ps_asg (pe_ix (kIxT K) (pe_dget hu (pv 1) pe_str (fun _ _ => rfl)) pe_int (fun _ _ => rfl)) (pg_sub (pe_dget hu (pv 0) pe_str (fun _ _ => rfl)) (pe_ix (kIxT K) (pe_dget hu (pv 1) pe_str (fun _ _ => rfl)) pe_int (fun _ _ => rfl)) set_list))) pss_nil)
      (pss_cons (ps_asg (pe_tup (pa_cons (pe_dget hu (pv 1) pe_str (fun _ _ => rfl)) (pa_cons (pe_dget hu (pv 1) pe_str (fun _ _ => rfl)) (pa_cons (pe_op op_add (pe_dget hu (pv 0) pe_str (fun _ _ => rfl)) pe_int) pa_nil)))) (kPgT K (by rfl) (pgs_cons (pg_sub (pv 0) pe_str (set_dict hu)) (pgs_cons (pg_sub (pv 0) pe_str (set_dict hu)) (pgs_cons (pg_sub (pv 0) pe_str (set_dict hu)) pgs_nil)))))
      (pss_one (ps_asg (pe_tup (pa_cons (pe_op op_add (pe_dget hu (pv 0) pe_str (fun _ _ => rfl)) (pe_callTy c_int (by rfl) T.n_int (by decide +kernel) (pa_cons (pe_cmpR o_notN (pe_dget hu (pv 1) pe_str (fun _ _ => rfl)) pe_non (nomark _)) pa_nil))) (pa_cons (pe_op op_add (pe_dget hu (pv 0) pe_str (fun _ _ => rfl)) pe_int) pa_nil))) (kPgT K (by rfl) (pgs_cons (pg_sub (pv 0) pe_str (set_dict hu)) (pgs_cons (pg_sub (pv 0) pe_str (set_dict hu)) pgs_nil))))))), ?_⟩
  have n1 : nl ≠ sd := ne_of hnl hsd (by intro z; cases z)
  have n2 : nl ≠ ed := ne_of hnl hed (by intro z; cases z)
  have n3 := nse.symm
  have n4 := n1.symm
  have n5 := n2.symm
  rcases o with _ | ⟨n, x⟩
  · cases hnv
    rcases l with _ | y
    all_goals
      cases hlv
      walk_at "lw_goda"
      refine k _ upd_same (by walk_at "lw_hp") (fun b ob hb h1 h2 => ?_)
      walk_at "lw_hp"
  · obtain ⟨a, rfl, ha⟩ := hnv
    have hix : ixN (ns.map V.int).length n = some n.toNat := by
      have := hin n x rfl
      exact ixN_of this.1 (by rw [List.length_map]; exact this.2)
    have n6 : a ≠ nl := ne_of ha hnl (by intro z; cases z)
    have n7 : a ≠ sd := ne_of ha hsd (by intro z; cases z)
    rcases l with _ | y
    all_goals
      cases hlv
      walk_at "lw_goda"
      refine k _ upd_same (by show _ = some (HO.lst ((ns.set n.toNat x).map V.int)); rw [List.map_set]; walk_at "lw_hp") (fun b ob hb h1 h2 => ?_)
      walk_at "lw_hp"
end
end Lw
set_option Elab.async false
set_option linter.all false
set_option maxRecDepth 100000
set_option maxHeartbeats 4000000
namespace Lw
open PySem L2
local macro_rules | `(tactic| walk_at "lw_hp") => `(tactic| (repeat (first | assumption | exact upd_same | (refine' upd_new (by assumption) ?_) | (refine' tup_off (by assumption) (by assumption) ?_) | (refine' lst_off (by assumption) (by assumption) (by assumption) ?_) | (refine' Same.get (by assumption) ?_) | (refine' Off.get (by assumption) (by assumption) ?_) | (refine' upd_oth (by assumption) ?_))))
local macro_rules | `(tactic| walk_at "lw_god") => `(tactic| (repeat (first | (with_reducible (first | refine go_var rfl ?_ | refine go_c ?_ | refine go_cons ?_ | refine go_op ?_ | refine go_nil ?_ | refine go_seq ?_ | refine go_qb ?_ | refine go_test ?_ | refine go_ifS ?_ | refine go_gname ?_ | refine go_cb ?_)) | ((with_reducible refine' go_ixT ?hp ?ha ?_); (case hp => walk_at "lw_hp"); (case ha => first | rfl | assumption)) | (with_reducible (first | refine go_asg ?_ | refine go_callC ?_ | refine go_next ?_ | refine go_tup ?_ | refine go_i0 ?_ | refine go_ret ?_)) | ((with_reducible refine' go_qdg ?hp ?ha ?_); (case hp => walk_at "lw_hp"); (case ha => first | assumption | exact eg_row | exact eg_taken | exact eg_name | exact eg_file | exact eg_letter | exact eg_fault | exact sg_row | exact sg_names | exact sg_taken | exact sg_done | exact sg_letters | exact sg_since | exact sg_about | exact sg_out | exact sg_again)) | (with_reducible (first | refine go_dget ?_ | refine go_gcons ?_)) | ((with_reducible refine' go_qdp ?hp ?ha ?hl ?_); (case hp => walk_at "lw_hp"); (case ha => first | assumption | exact ep_row | exact ep_taken | exact ep_name | exact ep_file | exact ep_letter | exact ep_fault | exact sp_row | exact sp_names | exact sp_taken | exact sp_done | exact sp_letters | exact sp_since | exact sp_about | exact sp_out | exact sp_again); (case hl => exact Nat.le_of_ble_eq_true rfl)) | (with_reducible (first | refine go_gsub ?_ | refine go_testB ?_)) | ((with_reducible refine' go_ixL ?hp ?ha ?_); (case hp => walk_at "lw_hp"); (case ha => first | rfl | assumption)) | (with_reducible (first | refine' go_ixLs (by assumption) (by assumption) ?_ | refine go_lst ?_)) | ((with_reducible refine' go_i ?cc ?_); (case cc => first | omega | (simp only [CDiv, CMul, CPow]; omega) | (simp only [CDiv, CMul, CPow]; decide))) | (with_reducible (first | refine go_drop ?_ | refine go_eqI ?_ | refine go_eqS ?_ | refine go_eqB ?_ | refine go_eq (by rfl) ?_ | refine go_gnil ?_ | refine go_iteT ?_ | refine go_iteF ?_ | refine go_iteNt ?_ | refine go_iteNf ?_ | refine go_iteNN ?_)) | (with_reducible refine go_iteDT (by first | assumption | rfl | omega | (simp only [List.length_cons, List.length_nil, List.length_map]; omega)) ?_) | (with_reducible refine go_iteDF (by first | assumption | omega | decide | decide +kernel | (simp only [List.length_cons, List.length_nil, List.length_map]; omega)) ?_) | (with_reducible refine go_iteNT (by first | assumption | rfl | omega | (simp only [List.length_cons, List.length_nil, List.length_map]; omega)) ?_) | (with_reducible refine go_iteNF (by first | assumption | omega | decide | decide +kernel | (simp only [List.length_cons, List.length_nil, List.length_map]; omega)) ?_) | (with_reducible refine go_iteBT (by first | assumption | decide +kernel) ?_) | (with_reducible refine go_iteBF (by first | assumption | decide +kernel) ?_) | (with_reducible (first | refine go_dput ?_ | refine go_setD ?_)) | ((with_reducible refine' go_gtup ?hp ?ha ?_); (case hp => walk_at "lw_hp"); (case ha => first | rfl | assumption)) | (with_reducible refine go_if ?_) | ((with_reducible refine' go_setL ?hp ?ha ?_); (case hp => walk_at "lw_hp"); (case ha => first | rfl | assumption)) | (with_reducible (first | refine go_not ?_ | refine go_or ?_ | refine go_andV ?_ | refine go_sl ?_ | refine go_nopart ?_ | refine go_part ?_ | refine go_qI ?_ | refine' go_lenLs (by assumption) ?_)) | ((with_reducible refine' go_lenL ?hp ?_); (case hp => walk_at "lw_hp")) | ((with_reducible refine' go_lenT ?hp ?_); (case hp => walk_at "lw_hp")) | ((with_reducible refine' go_inT ?hp ?ha ?hb ?_); (case hp => walk_at "lw_hp"); (case ha => rfl); (case hb => rfl)) | ((with_reducible refine' go_notInT ?hp ?ha ?hb ?_); (case hp => walk_at "lw_hp"); (case ha => rfl); (case hb => rfl)) | (with_reducible (first | refine go_pnil ?_ | refine go_pcons ?_ | refine go_un ?_ | refine go_u ?_ | refine go_for ?_ | refine go_rng1 ?_ | refine go_qrng1 (by omega) (by omega) ?_ | refine go_notN_non ?_ | refine go_notN_int ?_ | refine go_notN_str ?_ | refine go_notN_bl ?_ | refine go_notN_ref ?_ | refine go_min ?_ | refine go_bm ?_ | refine go_lc ?_)) | ((with_reducible refine' go_qbm ?hp ?_); (case hp => walk_at "lw_hp")) | (with_reducible (first | refine go_int ?_ | refine go_intB ?_ | refine go_yes ?_ | refine go_and ?_ | refine go_notV ?_ | refine go_iL ?_)) | ((with_reducible refine' go_glst ?hp ?ha ?_); (case hp => walk_at "lw_hp"); (case ha => first | rfl | assumption)) | ((with_reducible refine' go_qiL ?hp ?_); (case hp => walk_at "lw_hp")) | (with_reducible (first | refine go_par ?_ | refine go_gpar ?_ | refine go_isN_non ?_ | refine go_isN_int ?_ | refine go_isN_str ?_ | refine go_isN_bl ?_ | refine go_isN_ref ?_ | refine go_neI ?_ | refine go_neS ?_ | refine go_neB ?_ | refine go_iT ?_ | refine go_ne (by rfl) ?_)) | ((with_reducible refine' go_ixAL ?hp ?ha ?_); (case hp => walk_at "lw_hp"); (case ha => first | rfl | assumption)) | ((with_reducible refine' go_ixAT ?hp ?ha ?_); (case hp => walk_at "lw_hp"); (case ha => first | rfl | assumption)) | ((with_reducible refine' go_qiT ?hp ?_); (case hp => walk_at "lw_hp")) | (with_reducible (first | refine go_is_non_int ?_ | refine go_is_non_bool ?_ | refine go_is_non_str ?_ | refine go_is_non_tuple ?_ | refine go_is_non_list ?_ | refine go_is_bl_int ?_ | refine go_is_bl_bool ?_ | refine go_is_bl_str ?_ | refine go_is_bl_tuple ?_ | refine go_is_bl_list ?_ | refine go_is_int_int ?_ | refine go_is_int_bool ?_ | refine go_is_int_str ?_ | refine go_is_int_tuple ?_ | refine go_is_int_list ?_ | refine go_is_str_int ?_ | refine go_is_str_bool ?_ | refine go_is_str_str ?_ | refine go_is_str_tuple ?_ | refine go_is_str_list ?_)) | ((with_reducible refine' go_is_lst_int ?hp ?_); (case hp => walk_at "lw_hp")) | ((with_reducible refine' go_is_lst_bool ?hp ?_); (case hp => walk_at "lw_hp")) | ((with_reducible refine' go_is_lst_str ?hp ?_); (case hp => walk_at "lw_hp")) | ((with_reducible refine' go_is_lst_tuple ?hp ?_); (case hp => walk_at "lw_hp")) | ((with_reducible refine' go_is_lst_list ?hp ?_); (case hp => walk_at "lw_hp")) | ((with_reducible refine' go_is_tup_int ?hp ?_); (case hp => walk_at "lw_hp")) | ((with_reducible refine' go_is_tup_bool ?hp ?_); (case hp => walk_at "lw_hp")) | ((with_reducible refine' go_is_tup_str ?hp ?_); (case hp => walk_at "lw_hp")) | ((with_reducible refine' go_is_tup_tuple ?hp ?_); (case hp => walk_at "lw_hp")) | ((with_reducible refine' go_is_tup_list ?hp ?_); (case hp => walk_at "lw_hp")) | (with_reducible (first | refine go_max ?_ | refine go_bm0 ?_ | refine go_chain ?_ | refine go_qch ?_)) | ((with_reducible refine' go_qbm0 ?hp ?_); (case hp => walk_at "lw_hp")) | (with_reducible (first | refine go_retN ?_ | refine go_orV ?_ | refine go_whQ ?_ | refine go_rng2 ?_ | refine go_qrng2 (by omega) (by omega) (by omega) (by omega) ?_ | refine go_rvr ?_ | refine go_qrvr (by omega) (by omega) ?_ | refine go_enum ?_ | refine go_aug rfl ?_ | refine go_ipI ?_)) | ((with_reducible refine' go_qenum ?hp ?_); (case hp => walk_at "lw_hp")) | ((with_reducible refine' go_sumL ?hp ?_); (case hp => walk_at "lw_hp")))))
abbrev s__law_run : Stmt := top 57
structure RunSt (H H' : Hp) (sd nl fl sn : Addr) (s : S) : Prop where
  d : ∃ lt si ab ou ag, H' sd = some (.dK (sD (.int s.row) (.ref nl) (.int s.taken) (.int s.done) (.int lt) (.int si) ab ou ag))
  n : H' nl = some (.lst (s.names.map V.int))
  f : ∃ fv, H' fl = some (.lst fv) ∧ FilesAt H' fv s.files ∧ ∀ a, V.ref a ∈ fv → a ≠ nl ∧ a ≠ fl
  t : H' sn = some (.lst (s.sent.map V.int))
  sm : Same H H'
  n1 : sn ≠ nl
  n2 : sn ≠ fl
  n3 : nl ≠ fl
  fs : H sd = none
  fn : H nl = none
theorem RunSt.same {H H1 H2 : Hp} {sd nl fl sn : Addr} {s : S} (r : RunSt H H1 sd nl fl sn s) (z : Same H1 H2) : RunSt H H2 sd nl fl sn s := by
  obtain ⟨lt, si, ab, ou, ag, hd⟩ := r.d
  obtain ⟨fv, h1, h2, h3⟩ := r.f
  exact ⟨⟨lt, si, ab, ou, ag, z _ _ hd⟩, z _ _ r.n, ⟨fv, z _ _ h1, h2.same z, h3⟩, z _ _ r.t, r.sm.trans z, r.n1, r.n2, r.n3, r.fs, r.fn⟩
theorem eff_file {hs : List Int} {s : S} {r : Row} {nm fl m : Int} {g : Int} {xs : List Int} (ok : r.ok nm fl m) (e : (effM hs s r).file = some (g, xs)) : 0 ≤ g ∧ g < fl := by
  cases r <;> simp only [effM] at e <;> first | (cases e; done) | (cases e; exact ⟨ok.1, ok.2.1⟩)
theorem eff_name {hs : List Int} {s : S} {r : Row} {nm fl m : Int} {n x : Int} (ok : r.ok nm fl m) (e : (effM hs s r).name = some (n, x)) : 0 ≤ n ∧ n < nm := by
  cases r <;> simp only [effM] at e <;> first | (cases e; done) | (cases e; exact ⟨ok.1, ok.2⟩) | (cases e; exact ⟨ok.1, ok.2.1⟩)
theorem nameAt.same {H H' : Hp} {o : Option (Int × Int)} {nv : V} (h : nameAt H o nv) (s : Same H H') : nameAt H' o nv := by
  unfold nameAt at *
  rcases o with _ | ⟨n, x⟩
  · exact h
  · obtain ⟨a, e, q⟩ := h
    exact ⟨a, e, s _ _ q⟩
theorem nameAt.off {H : Hp} {o : Option (Int × Int)} {nv : V} {fl : Addr} {ys : List V} {u : HO} (hf : H fl = some (.lst ys)) (h : nameAt H o nv) : nameAt (upd H fl u) o nv := by
  unfold nameAt at *
  rcases o with _ | ⟨n, x⟩
  · exact h
  · obtain ⟨a, e, q⟩ := h
    exact ⟨a, e, upd_oth (ne_of q hf (by intro z; cases z)) q⟩
def WRun (H : Hp) (p : Prog) (hs : List Int) (pa hl sd nl fl : Addr) (m : Nat) (σ : St) (H' : Hp) : Prop :=
  (∃ s sn x y, RunSt H H' sd nl fl sn s ∧ Good p hs s ∧ Lw.fin p hs s = Lw.fin p hs (s0 p) ∧ σ = [some (.ref pa), some (.ref hl), some (.ref sd), some (.ref fl), some (.ref sn), some .non, x, y] ∧ m = 1001 - s.done) ∨
  (∃ s sn ev x y, RunSt H H' sd nl fl sn s ∧ s = (Lw.fin p hs (s0 p)).1 ∧ EndAt H' (Lw.fin p hs (s0 p)).2 ev ∧ σ = [some (.ref pa), some (.ref hl), some (.ref sd), some (.ref fl), some (.ref sn), some ev, x, y] ∧ m = 0)
def spRunL : Sp := fun vs H Q _ => ∃ (pw : V) (hl : Addr) (p : Prog) (hs : List Int), vs = [pw, .ref hl] ∧ p.Ok ∧ ProgAt H p pw ∧ H hl = some (.lst (hs.map V.int)) ∧ hs.length ≤ 40 ∧ Num hs ∧
  ∀ (v : V) (H' : Hp), OutAt H' (Lw.fin p hs (s0 p)) v → Same H H' → Q v H'
section
variable {P : Program} {w : World} {K : PySem.W.Frag} {mg : Str → Option Value} {base : Heap} {f : Addr} {fd : FuncData}
theorem scs__law_run : FnScope ["_law_p", "_law_handed", "_law_s", "_law_files", "_law_sent", "_law_end", "_law_k", "_law_e"] ["_law_p", "_law_handed"] (defScope s__law_run) := ⟨rfl, rfl, rfl, by decide +kernel, rfl, by decide +kernel, by decide +kernel⟩
theorem ok_runL (F : Fun K "_law_run" "_law_run" s__law_run f fd) (T : Txt mg) (C_law_inner : FnC P w K mg base 1 "_law_inner" ["_law_p"] spInner) (C_law_effect : FnC P w K mg base 5 "_law_effect" ["_law_p", "_law_handed", "_law_s", "_law_files"] spEffect) (C_law_pass : FnC P w K mg base 1 "_law_pass" ["_law_s", "_law_e"] spPass) : FnOk P w K mg base CX0 6 f fd ["_law_p", "_law_handed"] spRunL := by
  refine F.ok scs__law_run (fun vs H Q E h => ?_) (fun cdv A outer s1 H vs Q E hr h => ?_)
  · obtain ⟨pw, hl, p, hs, rfl, _⟩ := h
    rfl
  obtain ⟨pw, hl, p, hs, rfl, hok, hP, hh, hh4, hN, k⟩ := h
  have nd := scs__law_run.nd
  have hu := hu_of hr
  refine ⟨_, (pss_cons (ps_asg (pe_tup (pa_cons (pe_callC C_law_inner (hr.mono (by omega)) (by rfl) (pa_cons (pv 0) pa_nil)) (pa_cons (pe_lc rfl nd (pi_range1 (by rfl) T.n_range (pa_cons (pe_ix (kIxT K) (pv 0) pe_int (fun _ _ => rfl)) pa_nil)) (blkOk_by (own := [("_law_k", 6)]) (by show blkC ["_law_p", "_law_handed", "_law_s", "_law_files", "_law_sent", "_law_end", "_law_k", "_law_e"] (defScope s__law_run) _ _ = true; decide +kernel)) (fun _ _ _ _ _ => (pg_name (i := 6) nd rfl (Or.inl rfl))) (fun _ _ _ _ _ => pts_nil) (fun _ _ _ _ _ => (pe_lst pa_nil))) (pa_cons (pe_lst pa_nil) (pa_cons pe_non pa_nil))))) (kPgT K (by rfl) (pgs_cons (pg_name (i := 2) nd rfl (Or.inl rfl)) (pgs_cons (pg_name (i := 3) nd rfl (Or.inl rfl)) (pgs_cons (pg_name (i := 4) nd rfl (Or.inl rfl)) (pgs_cons (pg_name (i := 5) nd rfl (Or.inl rfl)) pgs_nil))))))
      (pss_cons (ps_while PassesOwn.never (pt_cmpR o_isN (pv 5) pe_non (nomark _)) (pss_one (ps_if (pt_cmpR op_eq (pe_dget hu (pv 2) pe_str (fun _ _ => rfl)) (pe_callB (kLen K) (by rfl) T.n_len (by decide +kernel) (pa_cons (pe_ix (kIxT K) (pv 0) pe_int (fun _ _ => rfl)) pa_nil)) (nomark _)) (pss_one (ps_set (i := 5) nd rfl (Or.inl rfl) (pe_tup (pa_cons pe_str pa_nil)))) (pss_one (ps_if (pt_cmpR op_eq (pe_dget hu (pv 2) pe_str (fun _ _ => rfl)) pe_int (nomark _)) (pss_one (ps_set (i := 5) nd rfl (Or.inl rfl) (pe_tup (pa_cons pe_str pa_nil)))) (pss_cons (ps_set (i := 7) nd rfl (Or.inl rfl) (pe_callC C_law_effect (hr.mono (by omega)) (by rfl) (pa_cons (pv 0) (pa_cons (pv 1) (pa_cons (pv 2) (pa_cons (pv 3) pa_nil))))))
      (pss_one (ps_if (pt_cmpR o_notN (pe_dget hu (pv 7) pe_str (fun _ _ => rfl)) pe_non (nomark _)) (pss_one (ps_set (i := 5) nd rfl (Or.inl rfl) (pe_tup (pa_cons pe_str (pa_cons (pe_dget hu (pv 7) pe_str (fun _ _ => rfl)) pa_nil))))) (pss_cons (ps_if (pt_cmpR o_notN (pe_dget hu (pv 7) pe_str (fun _ _ => rfl)) pe_non (nomark _)) (pss_one (ps_asg (pe_ix (kIxT K) (pe_dget hu (pv 7) pe_str (fun _ _ => rfl)) pe_int (fun _ _ => rfl)) (pg_sub (pv 3) (pe_ix (kIxT K) (pe_dget hu (pv 7) pe_str (fun _ _ => rfl)) pe_int (fun _ _ => rfl)) set_list))) pss_nil)
      (pss_cons (ps_set (i := 4) nd rfl (Or.inl rfl) (pe_op op_cat (pv 4) (pe_op op_rep (pe_lst (pa_cons (pe_dget hu (pv 7) pe_str (fun _ _ => rfl)) pa_nil)) (pe_callTy c_int (by rfl) T.n_int (by decide +kernel) (pa_cons (pe_cmpR o_notN (pe_dget hu (pv 7) pe_str (fun _ _ => rfl)) pe_non (nomark _)) pa_nil)))))
      (pss_one (ps_expr (pe_callC C_law_pass (hr.mono (by omega)) (by rfl) (pa_cons (pv 2) (pa_cons (pv 7) pa_nil)))))))))))))))
      (pss_one (ps_ret (pe_tup (pa_cons (pv 3) (pa_cons (pv 4) (pa_cons (pv 5) (pa_cons (pe_dget hu (pv 2) pe_str (fun _ _ => rfl)) (pa_cons (pe_dget hu (pv 2) pe_str (fun _ _ => rfl)) pa_nil)))))))))), ?_⟩
  obtain ⟨pa, pb, rs, rfl, hpa, hpb, hR⟩ := id hP
  have hf1 := hok.f1
  have hf2 := hok.f2
  walk_at "lw_god"
  refine ⟨_, p, rfl, hok, hP, fun sd nl ag H1 nsd nnl nag ngl I1 hag S1 => ?_⟩
  walk_at "lw_god"
  refine lq_range (fun fl hfl => ?_)
  refine ⟨fun i H' => ∃ fv, H' fl = some (.lst fv) ∧ FilesAt H' fv (List.replicate i []) ∧ Same H1 H' ∧ (∀ a, .ref a ∈ fv → H1 a = none ∧ a ≠ fl), ?_, ?_, ?_⟩
  · exact ⟨[], upd_same, .nil, same_new hfl _, (fun a h => by cases h)⟩
  · rintro i H' hi ⟨fv, e, hF, s', hfr⟩
    refine go_gname ⟨rfl, ?_⟩
    walk_at "lw_god"
    refine go_qlst (Nat.le_of_ble_eq_true rfl) (fun q hq => ?_)
    refine go_lcA (upd_new hq e) (small_line (by rw [hF.length, List.length_replicate]; omega)) ?_
    have nq : q ≠ fl := (ne_of_none e hq).symm
    refine ⟨fv ++ [.ref q], upd_same, ?_, same_upd hfl (s'.trans (same_new hq _)), ?_⟩
    · rw [List.replicate_succ']
      refine FilesAt.snoc (hF.keep fun a xs hm ha => ?_) (upd_oth nq upd_same)
      exact upd_oth (hfr a hm).2 (upd_new hq ha)
    · intro a ha
      rcases List.mem_append.mp ha with z | z
      · exact hfr a z
      · cases List.mem_singleton.mp z
        exact ⟨s'.free hq, nq⟩
  · rintro H2 ⟨fv, e, hF, S2, hfr⟩
    walk_at "lw_god"
    refine go_qlst (Nat.le_of_ble_eq_true rfl) (fun sn hsn => ?_)
    walk_at "lw_god"
    refine go_qtup (Nat.le_of_ble_eq_true rfl) (fun pt hpt => ?_)
    walk_at "lw_god"
    have S3 : Same H2 (upd (upd H2 sn (.lst [])) pt (.tup [.ref sd, .ref fl, .ref sn, .non])) := (same_new hsn _).trans (same_new hpt _)
    have e3 : upd (upd H2 sn (.lst [])) pt (.tup [.ref sd, .ref fl, .ref sn, .non]) sn = some (.lst []) := upd_new hpt upd_same
    generalize upd (upd H2 sn (.lst [])) pt (.tup [.ref sd, .ref fl, .ref sn, .non]) = H3 at *
    have nfl : H fl = none := S1.free hfl
    have n2 := S2 _ _ I1.n
    have hlen : rs.length = p.rows.length := hR.length.symm
    refine go_whileM (WRun H p hs pa hl sd nl fl) 1001 (.inl ⟨s0 p, sn, none, none, ⟨⟨0, 0, _, _, _, S3 _ _ (S2 _ _ I1.d)⟩, S3 _ _ n2, ⟨fv, S3 _ _ e, hF.same S3, fun a ha => ⟨(ne_of_none I1.n (hfr a ha).1).symm, (hfr a ha).2⟩⟩, e3, S1.trans (S2.trans S3), (ne_of_none n2 hsn).symm, (ne_of_none e hsn).symm, ne_of_none I1.n hfl, nsd, nnl⟩, good0 p hs, rfl, rfl, rfl⟩) ?_
    rintro m σ H' (⟨s, sn', x, y, R, G, hfin, rfl, rfl⟩ | ⟨s, sn', ev, x, y, R, hs1, hev, rfl, rfl⟩)
    ·
      obtain ⟨lt, si, ab, ou, ag', hd⟩ := R.d
      obtain ⟨fv', hf, hF', hfr'⟩ := R.f
      have hpa' := R.sm _ _ hpa
      have hpb' := R.sm _ _ hpb
      have Gd := G.dn
      walk_at "lw_god"
      refine go_whM ?_
      walk_at "lw_god"
      refine go_iteD (fun c => ?_) (fun c => ?_)
      · walk_at "lw_god"
        refine go_qtup (Nat.le_of_ble_eq_true rfl) (fun ea hea => ?_)
        walk_at "lw_god"
        refine ⟨0, by omega, .inr ⟨s, sn', _, x, y, R.same (same_new hea _), ?_, ?_, rfl, rfl⟩⟩
        · rw [← hfin, fin_end (by omega)]
        · rw [← hfin, fin_end (by omega)]
          exact ⟨ea, rfl, upd_same⟩
      · walk_at "lw_god"
        refine go_iteD (fun c2 => ?_) (fun c2 => ?_)
        · walk_at "lw_god"
          refine go_qtup (Nat.le_of_ble_eq_true rfl) (fun ea hea => ?_)
          walk_at "lw_god"
          refine ⟨0, by omega, .inr ⟨s, sn', _, x, y, R.same (same_new hea _), ?_, ?_, rfl, rfl⟩⟩
          · rw [← hfin, fin_long (by omega) (by omega)]
          · rw [← hfin, fin_long (by omega) (by omega)]
            exact ⟨ea, rfl, upd_same⟩
        · have g0 := G.r0
          have g1 := G.r1
          obtain ⟨r, hr1⟩ : ∃ r, p.rows[s.row.toNat]? = some r := ⟨_, List.getElem?_eq_getElem (by omega)⟩
          have rok := hok.rw r (List.mem_of_getElem? hr1)
          have es := eff_step (hs := hs) G.nn G.tk rok
          walk_at "lw_god"
          refine ⟨_, hl, sd, fl, nl, p, hs, s, fv', r, _, _, _, _, _, _, rfl, hok, hP.mono R.sm.tk, R.sm _ _ hh, hh4, hd, R.n, hf, hF', G, hr1, fun ev He EA Se => ?_⟩
          obtain ⟨ed, nv, fw, lv, wv, rfl, ned, hed, hnm, hfi, hle, hfa⟩ := EA.ex
          have Re := R.same Se
          cases hfe : (effM hs s r).fault with
          | some wf =>
            rw [hfe] at hfa es
            cases hfa
            walk_at "lw_god"
            refine go_qtup (Nat.le_of_ble_eq_true rfl) (fun ea hea => ?_)
            walk_at "lw_god"
            refine ⟨0, by omega, .inr ⟨s, sn', _, x, _, Re.same (same_new hea _), ?_, ?_, rfl, rfl⟩⟩
            · rw [← hfin, fin_fault (by omega) (by omega) hr1 es]
            · rw [← hfin, fin_fault (by omega) (by omega) hr1 es]
              exact ⟨ea, rfl, upd_same⟩
          | none =>
            rw [hfe] at hfa es
            cases hfa
            have nse : sd ≠ ed := ne_of_none hd ned
            cases hff : (effM hs s r).file with
            | none =>
              rw [hff] at hfi
              cases hfi
              obtain ⟨H5, rfl⟩ : ∃ H5, H5 = He := ⟨_, rfl⟩
              have R5 : RunSt H H5 sd nl fl sn' { s with files := s.files } := Re
              have hed5 := hed
              have hnm5 : nameAt H5 (effM hs s r).name nv := hnm
              have F5 := s.files
              have hF5 : (s.app (effM hs s r)).files = s.files := by unfold S.app; rw [hff]
              obtain ⟨lt5, si5, ab5, ou5, ag5, hd5⟩ := R5.d
              have hn5 : H5 nl = some (.lst (s.names.map V.int)) := R5.n
              have ht5 : H5 sn' = some (.lst (s.sent.map V.int)) := R5.t
              have gst := G.st
              have hnin : ∀ n x, (effM hs s r).name = some (n, x) → 0 ≤ n ∧ n < (s.names.length : Int) := fun n x e => by
                have q1 := eff_name rok e
                have q2 := G.nl
                omega
              obtain ⟨lo, hlo⟩ : ∃ lo, lo = (effM hs s r).letter := ⟨_, rfl⟩
              have hlv : letterIs lo lv := by rw [hlo]; exact hle
              rcases lo with _ | z
              · cases hlv
                walk_at "lw_god"
                refine go_qlst (Nat.le_of_ble_eq_true rfl) (fun q1 hq1 => ?_)
                walk_at "lw_god"
                refine go_repF (v := .non) (by walk_at "lw_hp") (fun q2 hq2 => ?_)
                walk_at "lw_god"
                refine go_cat (xs := s.sent.map V.int) (ys := []) (by walk_at "lw_hp") (by walk_at "lw_hp") (small_le (by rw [List.length_map]; simp; omega)) (fun q3 hq3 => ?_)
                have z2 := (same_new hq1 (.lst [.non])).trans (same_new hq2 (.lst []))
                have fq3 : H5 q3 = none := z2.free hq3
                have z3 := z2.trans (same_new hq3 (.lst (s.sent.map V.int ++ [])))
                have hq3' : upd (upd (upd H5 q1 (.lst [.non])) q2 (.lst [])) q3 (.lst (s.sent.map V.int ++ [])) q3 = some (.lst ((s.sent ++ (effM hs s r).letter.toList).map V.int)) := by
                  rw [upd_same, ← hlo, List.map_append]; rfl
                generalize upd (upd (upd H5 q1 (.lst [.non])) q2 (.lst [])) q3 (.lst (s.sent.map V.int ++ [])) = H6 at *
                clear hq1 hq2 hq3
                have hd6 := z3 _ _ hd5
                have hn6 := z3 _ _ hn5
                have hed6 := z3 _ _ hed5
                walk_at "lw_god"
                refine ⟨sd, ed, nl, s.row, s.taken, s.done, lt5, si5, (effM hs s r).row, (effM hs s r).taken, s.names, ab5, ou5, ag5, nv, .non, _, .non, (effM hs s r).name, none, rfl, hd6, hn6, hed6, nse, hnm5.same z3, rfl, hnin, fun H7 h7 n7 o7 => ?_⟩
                walk_at "lw_god"
                have R7 : RunSt H H7 sd nl fl q3 (s.app (effM hs s r)) := by
                  obtain ⟨fv6, f1, f2, f3⟩ := R5.f
                  have nq3 : q3 ≠ sd := (ne_of_none hd5 fq3).symm
                  have nq3' : q3 ≠ nl := (ne_of_none hn5 fq3).symm
                  have nfs : fl ≠ sd := ne_of f1 hd5 (by intro z; cases z)
                  refine ⟨⟨_, _, _, _, _, h7⟩, n7, ⟨fv6, o7 _ _ (z3 _ _ f1) nfs R5.n3.symm, ?_, f3⟩, ?_, same_off2 (R5.sm.trans z3) o7 R5.fs R5.fn, nq3', (ne_of_none f1 fq3).symm, R5.n3, R5.fs, R5.fn⟩
                  · rw [show (s.app (effM hs s r)).files = s.files from hF5]
                    exact (f2.same z3).keep fun a xs hm ha => o7 _ _ ha (ne_of ha (z3 _ _ hd5) (by intro z; cases z)) (f3 a hm).1
                  · exact o7 _ _ hq3' nq3 nq3'
                have G7 := G.step hN (by omega) (by omega) rok es
                have ff := fin_next (p := p) (by omega) (by omega) hr1 es
                exact ⟨1001 - (s.done + 1), by omega, .inl ⟨_, q3, _, _, R7, G7, by rw [← ff]; exact hfin, rfl, rfl⟩⟩
              · cases hlv
                walk_at "lw_god"
                refine go_qlst (Nat.le_of_ble_eq_true rfl) (fun q1 hq1 => ?_)
                walk_at "lw_god"
                refine go_repT (v := (.int z)) (by walk_at "lw_hp") (fun q2 hq2 => ?_)
                walk_at "lw_god"
                refine go_cat (xs := s.sent.map V.int) (ys := [.int z]) (by walk_at "lw_hp") (by walk_at "lw_hp") (small_le (by rw [List.length_map]; simp; omega)) (fun q3 hq3 => ?_)
                have z2 := (same_new hq1 (.lst [(.int z)])).trans (same_new hq2 (.lst [.int z]))
                have fq3 : H5 q3 = none := z2.free hq3
                have z3 := z2.trans (same_new hq3 (.lst (s.sent.map V.int ++ [.int z])))
                have hq3' : upd (upd (upd H5 q1 (.lst [(.int z)])) q2 (.lst [.int z])) q3 (.lst (s.sent.map V.int ++ [.int z])) q3 = some (.lst ((s.sent ++ (effM hs s r).letter.toList).map V.int)) := by
                  rw [upd_same, ← hlo, List.map_append]; rfl
                generalize upd (upd (upd H5 q1 (.lst [(.int z)])) q2 (.lst [.int z])) q3 (.lst (s.sent.map V.int ++ [.int z])) = H6 at *
                clear hq1 hq2 hq3
                have hd6 := z3 _ _ hd5
                have hn6 := z3 _ _ hn5
                have hed6 := z3 _ _ hed5
                walk_at "lw_god"
                refine ⟨sd, ed, nl, s.row, s.taken, s.done, lt5, si5, (effM hs s r).row, (effM hs s r).taken, s.names, ab5, ou5, ag5, nv, .non, _, .non, (effM hs s r).name, (some z), rfl, hd6, hn6, hed6, nse, hnm5.same z3, rfl, hnin, fun H7 h7 n7 o7 => ?_⟩
                walk_at "lw_god"
                have R7 : RunSt H H7 sd nl fl q3 (s.app (effM hs s r)) := by
                  obtain ⟨fv6, f1, f2, f3⟩ := R5.f
                  have nq3 : q3 ≠ sd := (ne_of_none hd5 fq3).symm
                  have nq3' : q3 ≠ nl := (ne_of_none hn5 fq3).symm
                  have nfs : fl ≠ sd := ne_of f1 hd5 (by intro z; cases z)
                  refine ⟨⟨_, _, _, _, _, h7⟩, n7, ⟨fv6, o7 _ _ (z3 _ _ f1) nfs R5.n3.symm, ?_, f3⟩, ?_, same_off2 (R5.sm.trans z3) o7 R5.fs R5.fn, nq3', (ne_of_none f1 fq3).symm, R5.n3, R5.fs, R5.fn⟩
                  · rw [show (s.app (effM hs s r)).files = s.files from hF5]
                    exact (f2.same z3).keep fun a xs hm ha => o7 _ _ ha (ne_of ha (z3 _ _ hd5) (by intro z; cases z)) (f3 a hm).1
                  · exact o7 _ _ hq3' nq3 nq3'
                have G7 := G.step hN (by omega) (by omega) rok es
                have ff := fin_next (p := p) (by omega) (by omega) hr1 es
                exact ⟨1001 - (s.done + 1), by omega, .inl ⟨_, q3, _, _, R7, G7, by rw [← ff]; exact hfin, rfl, rfl⟩⟩
            | some gx =>
              obtain ⟨g, xs⟩ := gx
              rw [hff] at hfi
              obtain ⟨fa, l, rfl, fl0, hfa, hl5⟩ := hfi
              have hg := eff_file rok hff
              have gfl := G.fl
              have hgl : fv'.length = s.files.length := hF'.length
              have hix : ixN fv'.length g = some g.toNat := ixN_of hg.1 (by omega)
              have hfe' := Se _ _ hf
              walk_at "lw_god"
              have nlfl : l ≠ fl := fun z => by subst z; rw [hf] at fl0; cases fl0
              have nlnl : l ≠ nl := fun z => by subst z; rw [R.n] at fl0; cases fl0
              have hdfl : sd ≠ fl := ne_of hd hf (by intro z; cases z)
              have nedf : ed ≠ fl := ne_of hed hfe' (by intro z; cases z)
              have R5 : RunSt H (upd He fl (.lst (fv'.set g.toNat (.ref l)))) sd nl fl sn' { s with files := s.files.set g.toNat xs } := by
                obtain ⟨lt', si', ab', ou', ag'', hd'⟩ := Re.d
                refine ⟨⟨_, _, _, _, _, upd_oth hdfl hd'⟩, upd_oth R.n3 Re.n, ⟨_, upd_same, ?_, ?_⟩, upd_oth R.n2 Re.t, same_upd nfl Re.sm, R.n1, R.n2, R.n3, R.fs, R.fn⟩
                · exact ((hF'.same Se).keep fun a ys hm ha => upd_oth (hfr' a hm).2 ha).set (upd_oth nlfl hl5)
                · intro a ha
                  rcases List.mem_or_eq_of_mem_set ha with z | z
                  · exact hfr' a z
                  · cases z; exact ⟨nlnl, nlfl⟩
              have hed5 := upd_oth (o := .lst (fv'.set g.toNat (.ref l))) nedf hed
              have hnm5 : nameAt (upd He fl (.lst (fv'.set g.toNat (.ref l)))) (effM hs s r).name nv := nameAt.off hfe' hnm
              have hF5 : (s.app (effM hs s r)).files = s.files.set g.toNat xs := by unfold S.app; rw [hff]
              generalize upd He fl (.lst (fv'.set g.toNat (.ref l))) = H5 at *
              clear hed hfa hl5
              obtain ⟨lt5, si5, ab5, ou5, ag5, hd5⟩ := R5.d
              have hn5 : H5 nl = some (.lst (s.names.map V.int)) := R5.n
              have ht5 : H5 sn' = some (.lst (s.sent.map V.int)) := R5.t
              have gst := G.st
              have hnin : ∀ n x, (effM hs s r).name = some (n, x) → 0 ≤ n ∧ n < (s.names.length : Int) := fun n x e => by
                have q1 := eff_name rok e
                have q2 := G.nl
                omega
              obtain ⟨lo, hlo⟩ : ∃ lo, lo = (effM hs s r).letter := ⟨_, rfl⟩
              have hlv : letterIs lo lv := by rw [hlo]; exact hle
              rcases lo with _ | z
              · cases hlv
                walk_at "lw_god"
                refine go_qlst (Nat.le_of_ble_eq_true rfl) (fun q1 hq1 => ?_)
                walk_at "lw_god"
                refine go_repF (v := .non) (by walk_at "lw_hp") (fun q2 hq2 => ?_)
                walk_at "lw_god"
                refine go_cat (xs := s.sent.map V.int) (ys := []) (by walk_at "lw_hp") (by walk_at "lw_hp") (small_le (by rw [List.length_map]; simp; omega)) (fun q3 hq3 => ?_)
                have z2 := (same_new hq1 (.lst [.non])).trans (same_new hq2 (.lst []))
                have fq3 : H5 q3 = none := z2.free hq3
                have z3 := z2.trans (same_new hq3 (.lst (s.sent.map V.int ++ [])))
                have hq3' : upd (upd (upd H5 q1 (.lst [.non])) q2 (.lst [])) q3 (.lst (s.sent.map V.int ++ [])) q3 = some (.lst ((s.sent ++ (effM hs s r).letter.toList).map V.int)) := by
                  rw [upd_same, ← hlo, List.map_append]; rfl
                generalize upd (upd (upd H5 q1 (.lst [.non])) q2 (.lst [])) q3 (.lst (s.sent.map V.int ++ [])) = H6 at *
                clear hq1 hq2 hq3
                have hd6 := z3 _ _ hd5
                have hn6 := z3 _ _ hn5
                have hed6 := z3 _ _ hed5
                walk_at "lw_god"
                refine ⟨sd, ed, nl, s.row, s.taken, s.done, lt5, si5, (effM hs s r).row, (effM hs s r).taken, s.names, ab5, ou5, ag5, nv, (.ref fa), _, .non, (effM hs s r).name, none, rfl, hd6, hn6, hed6, nse, hnm5.same z3, rfl, hnin, fun H7 h7 n7 o7 => ?_⟩
                walk_at "lw_god"
                have R7 : RunSt H H7 sd nl fl q3 (s.app (effM hs s r)) := by
                  obtain ⟨fv6, f1, f2, f3⟩ := R5.f
                  have nq3 : q3 ≠ sd := (ne_of_none hd5 fq3).symm
                  have nq3' : q3 ≠ nl := (ne_of_none hn5 fq3).symm
                  have nfs : fl ≠ sd := ne_of f1 hd5 (by intro z; cases z)
                  refine ⟨⟨_, _, _, _, _, h7⟩, n7, ⟨fv6, o7 _ _ (z3 _ _ f1) nfs R5.n3.symm, ?_, f3⟩, ?_, same_off2 (R5.sm.trans z3) o7 R5.fs R5.fn, nq3', (ne_of_none f1 fq3).symm, R5.n3, R5.fs, R5.fn⟩
                  · rw [show (s.app (effM hs s r)).files = s.files.set g.toNat xs from hF5]
                    exact (f2.same z3).keep fun a xs hm ha => o7 _ _ ha (ne_of ha (z3 _ _ hd5) (by intro z; cases z)) (f3 a hm).1
                  · exact o7 _ _ hq3' nq3 nq3'
                have G7 := G.step hN (by omega) (by omega) rok es
                have ff := fin_next (p := p) (by omega) (by omega) hr1 es
                exact ⟨1001 - (s.done + 1), by omega, .inl ⟨_, q3, _, _, R7, G7, by rw [← ff]; exact hfin, rfl, rfl⟩⟩
              · cases hlv
                walk_at "lw_god"
                refine go_qlst (Nat.le_of_ble_eq_true rfl) (fun q1 hq1 => ?_)
                walk_at "lw_god"
                refine go_repT (v := (.int z)) (by walk_at "lw_hp") (fun q2 hq2 => ?_)
                walk_at "lw_god"
                refine go_cat (xs := s.sent.map V.int) (ys := [.int z]) (by walk_at "lw_hp") (by walk_at "lw_hp") (small_le (by rw [List.length_map]; simp; omega)) (fun q3 hq3 => ?_)
                have z2 := (same_new hq1 (.lst [(.int z)])).trans (same_new hq2 (.lst [.int z]))
                have fq3 : H5 q3 = none := z2.free hq3
                have z3 := z2.trans (same_new hq3 (.lst (s.sent.map V.int ++ [.int z])))
                have hq3' : upd (upd (upd H5 q1 (.lst [(.int z)])) q2 (.lst [.int z])) q3 (.lst (s.sent.map V.int ++ [.int z])) q3 = some (.lst ((s.sent ++ (effM hs s r).letter.toList).map V.int)) := by
                  rw [upd_same, ← hlo, List.map_append]; rfl
                generalize upd (upd (upd H5 q1 (.lst [(.int z)])) q2 (.lst [.int z])) q3 (.lst (s.sent.map V.int ++ [.int z])) = H6 at *
                clear hq1 hq2 hq3
                have hd6 := z3 _ _ hd5
                have hn6 := z3 _ _ hn5
                have hed6 := z3 _ _ hed5
                walk_at "lw_god"
                refine ⟨sd, ed, nl, s.row, s.taken, s.done, lt5, si5, (effM hs s r).row, (effM hs s r).taken, s.names, ab5, ou5, ag5, nv, (.ref fa), _, .non, (effM hs s r).name, (some z), rfl, hd6, hn6, hed6, nse, hnm5.same z3, rfl, hnin, fun H7 h7 n7 o7 => ?_⟩
                walk_at "lw_god"
                have R7 : RunSt H H7 sd nl fl q3 (s.app (effM hs s r)) := by
                  obtain ⟨fv6, f1, f2, f3⟩ := R5.f
                  have nq3 : q3 ≠ sd := (ne_of_none hd5 fq3).symm
                  have nq3' : q3 ≠ nl := (ne_of_none hn5 fq3).symm
                  have nfs : fl ≠ sd := ne_of f1 hd5 (by intro z; cases z)
                  refine ⟨⟨_, _, _, _, _, h7⟩, n7, ⟨fv6, o7 _ _ (z3 _ _ f1) nfs R5.n3.symm, ?_, f3⟩, ?_, same_off2 (R5.sm.trans z3) o7 R5.fs R5.fn, nq3', (ne_of_none f1 fq3).symm, R5.n3, R5.fs, R5.fn⟩
                  · rw [show (s.app (effM hs s r)).files = s.files.set g.toNat xs from hF5]
                    exact (f2.same z3).keep fun a xs hm ha => o7 _ _ ha (ne_of ha (z3 _ _ hd5) (by intro z; cases z)) (f3 a hm).1
                  · exact o7 _ _ hq3' nq3 nq3'
                have G7 := G.step hN (by omega) (by omega) rok es
                have ff := fin_next (p := p) (by omega) (by omega) hr1 es
                exact ⟨1001 - (s.done + 1), by omega, .inl ⟨_, q3, _, _, R7, G7, by rw [← ff]; exact hfin, rfl, rfl⟩⟩
    ·
      obtain ⟨lt, si, ab, ou, ag', hd⟩ := R.d
      obtain ⟨fv', hf, hF', hfr'⟩ := R.f
      obtain ⟨ea, rfl⟩ := hev.ref
      walk_at "lw_god"
      refine go_whM ?_
      walk_at "lw_god"
      refine go_qtup (Nat.le_of_ble_eq_true rfl) (fun oa hoa => ?_)
      have So := same_new hoa (.tup [.ref fl, .ref sn', .ref ea, .ref nl, .int s.done])
      exact k _ _ ⟨oa, fl, sn', nl, .ref ea, fv', rfl, by rw [← hs1]; exact upd_same, So _ _ hf, by rw [← hs1]; exact hF'.same So, by rw [← hs1]; exact So _ _ R.t, hev.mono So.tk, by rw [← hs1]; exact So _ _ R.n⟩ (R.sm.trans So)
end
end Lw
set_option Elab.async false
set_option linter.all false
set_option maxRecDepth 100000
set_option maxHeartbeats 4000000
namespace Lw
open PySem L2
local macro_rules | `(tactic| walk_at "lw_hp") => `(tactic| (repeat (first | assumption | exact upd_same | (refine' upd_new (by assumption) ?_) | (refine' tup_off (by assumption) (by assumption) ?_) | (refine' lst_off (by assumption) (by assumption) (by assumption) ?_) | (refine' Same.get (by assumption) ?_) | (refine' Off.get (by assumption) (by assumption) ?_) | (refine' upd_oth (by assumption) ?_))))
local macro_rules | `(tactic| walk_at "lw_go") => `(tactic| (repeat (first | (with_reducible (first | refine go_var rfl ?_ | refine go_c ?_ | refine go_cons ?_ | refine go_op ?_ | refine go_nil ?_ | refine go_seq ?_ | refine go_qb ?_ | refine go_test ?_ | refine go_ifS ?_ | refine go_gname ?_ | refine go_cb ?_)) | ((with_reducible refine' go_ixT ?hp ?ha ?_); (case hp => walk_at "lw_hp"); (case ha => first | rfl | assumption)) | (with_reducible (first | refine go_asg ?_ | refine go_callC ?_ | refine go_next ?_ | refine go_tup ?_ | refine go_i0 ?_ | refine go_ret ?_ | refine go_dget ?_ | refine go_gcons ?_ | refine go_gsub ?_ | refine go_testB ?_)) | ((with_reducible refine' go_ixL ?hp ?ha ?_); (case hp => walk_at "lw_hp"); (case ha => first | rfl | assumption)) | (with_reducible (first | refine' go_ixLs (by assumption) (by assumption) ?_ | refine go_lst ?_)) | ((with_reducible refine' go_i ?cc ?_); (case cc => first | omega | (simp only [CDiv, CMul, CPow]; omega) | (simp only [CDiv, CMul, CPow]; decide))) | (with_reducible (first | refine go_drop ?_ | refine go_eqI ?_ | refine go_eqS ?_ | refine go_eqB ?_ | refine go_eq (by rfl) ?_ | refine go_gnil ?_ | refine go_iteT ?_ | refine go_iteF ?_ | refine go_iteNt ?_ | refine go_iteNf ?_ | refine go_iteNN ?_)) | (with_reducible refine go_iteDT (by first | assumption | rfl | omega | (simp only [List.length_cons, List.length_nil, List.length_map]; omega)) ?_) | (with_reducible refine go_iteDF (by first | assumption | omega | decide | decide +kernel | (simp only [List.length_cons, List.length_nil, List.length_map]; omega)) ?_) | (with_reducible refine go_iteNT (by first | assumption | rfl | omega | (simp only [List.length_cons, List.length_nil, List.length_map]; omega)) ?_) | (with_reducible refine go_iteNF (by first | assumption | omega | decide | decide +kernel | (simp only [List.length_cons, List.length_nil, List.length_map]; omega)) ?_) | (with_reducible refine go_iteBT (by first | assumption | decide +kernel) ?_) | (with_reducible refine go_iteBF (by first | assumption | decide +kernel) ?_) | (with_reducible (first | refine go_dput ?_ | refine go_setD ?_)) | ((with_reducible refine' go_gtup ?hp ?ha ?_); (case hp => walk_at "lw_hp"); (case ha => first | rfl | assumption)) | (with_reducible refine go_if ?_) | ((with_reducible refine' go_setL ?hp ?ha ?_); (case hp => walk_at "lw_hp"); (case ha => first | rfl | assumption)) | (with_reducible (first | refine go_not ?_ | refine go_or ?_ | refine go_andV ?_ | refine go_sl ?_ | refine go_nopart ?_ | refine go_part ?_ | refine go_qI ?_ | refine' go_lenLs (by assumption) ?_)) | ((with_reducible refine' go_lenL ?hp ?_); (case hp => walk_at "lw_hp")) | ((with_reducible refine' go_lenT ?hp ?_); (case hp => walk_at "lw_hp")) | ((with_reducible refine' go_inT ?hp ?ha ?hb ?_); (case hp => walk_at "lw_hp"); (case ha => rfl); (case hb => rfl)) | ((with_reducible refine' go_notInT ?hp ?ha ?hb ?_); (case hp => walk_at "lw_hp"); (case ha => rfl); (case hb => rfl)) | (with_reducible (first | refine go_pnil ?_ | refine go_pcons ?_ | refine go_un ?_ | refine go_u ?_ | refine go_for ?_ | refine go_rng1 ?_ | refine go_qrng1 (by omega) (by omega) ?_ | refine go_notN_non ?_ | refine go_notN_int ?_ | refine go_notN_str ?_ | refine go_notN_bl ?_ | refine go_notN_ref ?_ | refine go_min ?_ | refine go_bm ?_ | refine go_lc ?_)) | ((with_reducible refine' go_qbm ?hp ?_); (case hp => walk_at "lw_hp")) | (with_reducible (first | refine go_int ?_ | refine go_intB ?_ | refine go_yes ?_ | refine go_and ?_ | refine go_notV ?_ | refine go_iL ?_)) | ((with_reducible refine' go_glst ?hp ?ha ?_); (case hp => walk_at "lw_hp"); (case ha => first | rfl | assumption)) | ((with_reducible refine' go_qiL ?hp ?_); (case hp => walk_at "lw_hp")) | (with_reducible (first | refine go_par ?_ | refine go_gpar ?_ | refine go_isN_non ?_ | refine go_isN_int ?_ | refine go_isN_str ?_ | refine go_isN_bl ?_ | refine go_isN_ref ?_ | refine go_neI ?_ | refine go_neS ?_ | refine go_neB ?_ | refine go_iT ?_ | refine go_ne (by rfl) ?_)) | ((with_reducible refine' go_ixAL ?hp ?ha ?_); (case hp => walk_at "lw_hp"); (case ha => first | rfl | assumption)) | ((with_reducible refine' go_ixAT ?hp ?ha ?_); (case hp => walk_at "lw_hp"); (case ha => first | rfl | assumption)) | ((with_reducible refine' go_qiT ?hp ?_); (case hp => walk_at "lw_hp")) | (with_reducible (first | refine go_is_non_int ?_ | refine go_is_non_bool ?_ | refine go_is_non_str ?_ | refine go_is_non_tuple ?_ | refine go_is_non_list ?_ | refine go_is_bl_int ?_ | refine go_is_bl_bool ?_ | refine go_is_bl_str ?_ | refine go_is_bl_tuple ?_ | refine go_is_bl_list ?_ | refine go_is_int_int ?_ | refine go_is_int_bool ?_ | refine go_is_int_str ?_ | refine go_is_int_tuple ?_ | refine go_is_int_list ?_ | refine go_is_str_int ?_ | refine go_is_str_bool ?_ | refine go_is_str_str ?_ | refine go_is_str_tuple ?_ | refine go_is_str_list ?_)) | ((with_reducible refine' go_is_lst_int ?hp ?_); (case hp => walk_at "lw_hp")) | ((with_reducible refine' go_is_lst_bool ?hp ?_); (case hp => walk_at "lw_hp")) | ((with_reducible refine' go_is_lst_str ?hp ?_); (case hp => walk_at "lw_hp")) | ((with_reducible refine' go_is_lst_tuple ?hp ?_); (case hp => walk_at "lw_hp")) | ((with_reducible refine' go_is_lst_list ?hp ?_); (case hp => walk_at "lw_hp")) | ((with_reducible refine' go_is_tup_int ?hp ?_); (case hp => walk_at "lw_hp")) | ((with_reducible refine' go_is_tup_bool ?hp ?_); (case hp => walk_at "lw_hp")) | ((with_reducible refine' go_is_tup_str ?hp ?_); (case hp => walk_at "lw_hp")) | ((with_reducible refine' go_is_tup_tuple ?hp ?_); (case hp => walk_at "lw_hp")) | ((with_reducible refine' go_is_tup_list ?hp ?_); (case hp => walk_at "lw_hp")) | (with_reducible (first | refine go_max ?_ | refine go_bm0 ?_ | refine go_chain ?_ | refine go_qch ?_)) | ((with_reducible refine' go_qbm0 ?hp ?_); (case hp => walk_at "lw_hp")) | (with_reducible (first | refine go_retN ?_ | refine go_orV ?_ | refine go_whQ ?_ | refine go_rng2 ?_ | refine go_qrng2 (by omega) (by omega) (by omega) (by omega) ?_ | refine go_rvr ?_ | refine go_qrvr (by omega) (by omega) ?_ | refine go_enum ?_ | refine go_aug rfl ?_ | refine go_ipI ?_)) | ((with_reducible refine' go_qenum ?hp ?_); (case hp => walk_at "lw_hp")) | ((with_reducible refine' go_sumL ?hp ?_); (case hp => walk_at "lw_hp")))))
abbrev s_is_number : Stmt := top 13
def Plain (H : Hp) (x : V) : Prop := (∃ n, x = .int n) ∨ (∃ b, x = .bl b) ∨ x = .non ∨ (∃ t, x = .str t) ∨ ∃ a xs, x = .ref a ∧ (H a = some (.lst xs) ∨ H a = some (.tup xs))
def numV (x : V) (lo hi : Int) : Bool := match x with
  | .int n => decide (lo ≤ n ∧ n ≤ hi)
  | _ => false
def spIsNum : Sp := fun vs H Q _ => ∃ (x : V) (lo hi : Int), vs = [x, .int lo, .int hi] ∧ Plain H x ∧ Q (.bl (numV x lo hi)) H
theorem int_of {ns : List Int} {i : Nat} {x : V} (h : (ns.map V.int)[i]? = some x) : ∃ n, x = .int n ∧ ns[i]? = some n := by
  rw [List.getElem?_map] at h
  cases e : ns[i]? with
  | none => rw [e] at h; cases h
  | some z => rw [e] at h; exact ⟨z, (Option.some.inj h).symm, rfl⟩
theorem mem_of {ns : List Int} {i : Nat} {n : Int} (h : ns[i]? = some n) : n ∈ ns := List.mem_of_getElem? h
theorem num_go {H : Hp} {Q : VK} {E : XK} {n lo hi : Int} (h0 : lo ≤ n) (h1 : n ≤ hi) (q : Q (.bl true) H) : spIsNum [.int n, .int lo, .int hi] H Q E := ⟨.int n, lo, hi, rfl, .inl ⟨n, rfl⟩, by rw [show numV (.int n) lo hi = true from decide_eq_true ⟨h0, h1⟩]; exact q⟩
section
variable {P : Program} {w : World} {K : PySem.W.Frag} {mg : Str → Option Value} {base : Heap} {f : Addr} {fd : FuncData}
theorem scs_is_number : FnScope ["thing", "low", "high"] ["thing", "low", "high"] (defScope s_is_number) := ⟨rfl, rfl, rfl, by decide +kernel, rfl, by decide +kernel, by decide +kernel⟩
theorem ok_isnum (F : Fun K "is_number" "is_number" s_is_number f fd) (T : Txt mg) : FnOk P w K mg base CX0 1 f fd ["thing", "low", "high"] spIsNum := by
  refine F.ok scs_is_number (fun vs H Q E h => ?_) (fun cdv A outer s H vs Q E hr h => ?_)
  · obtain ⟨x, lo, hi, rfl, _⟩ := h
    rfl
  obtain ⟨x, lo, hi, rfl, hx, k⟩ := h
  have nd := scs_is_number.nd
  have hu := hu_of hr
  refine ⟨_, (pss_one (ps_ret (pe_and (pe_callB (kIsinst K) (by rfl) T.n_isinstance (by decide +kernel) (pa_cons (pv 0) (pa_cons (pe_bltn (v := .ty "int") (by rfl) T.n_int (by decide +kernel) rfl) pa_nil))) (pe_and (pe_not (pe_callB (kIsinst K) (by rfl) T.n_isinstance (by decide +kernel) (pa_cons (pv 0) (pa_cons (pe_bltn (v := .ty "bool") (by rfl) T.n_bool (by decide +kernel) rfl) pa_nil)))) (pe_one (pe_chain op_le op_le (pv 1) (pv 0) (pv 2))))))), ?_⟩
  rcases hx with ⟨n, rfl⟩ | ⟨b, rfl⟩ | rfl | ⟨t, rfl⟩ | ⟨a, xs, rfl, ha | ha⟩
  · walk_at "lw_go"
    refine go_iteD (fun c => ?_) (fun c => ?_)
    · walk_at "lw_go"
      have e : numV (.int n) lo hi = decide (n ≤ hi) := by
        unfold numV
        exact decide_eq_decide.mpr ⟨fun z => z.2, fun z => ⟨c, z⟩⟩
      rw [e] at k
      exact k
    · have e : numV (.int n) lo hi = false := decide_eq_false (fun z => c z.1)
      rw [e] at k
      exact k
  all_goals
    walk_at "lw_go"
    exact k
end
end Lw
set_option Elab.async false
set_option linter.all false
set_option maxRecDepth 100000
set_option maxHeartbeats 4000000
namespace Lw
open PySem L2
local macro_rules | `(tactic| walk_at "lw_hp") => `(tactic| (repeat (first | assumption | exact upd_same | (refine' upd_new (by assumption) ?_) | (refine' tup_off (by assumption) (by assumption) ?_) | (refine' lst_off (by assumption) (by assumption) (by assumption) ?_) | (refine' Same.get (by assumption) ?_) | (refine' Off.get (by assumption) (by assumption) ?_) | (refine' upd_oth (by assumption) ?_))))
local macro_rules | `(tactic| walk_at "lw_go") => `(tactic| (repeat (first | (with_reducible (first | refine go_var rfl ?_ | refine go_c ?_ | refine go_cons ?_ | refine go_op ?_ | refine go_nil ?_ | refine go_seq ?_ | refine go_qb ?_ | refine go_test ?_ | refine go_ifS ?_ | refine go_gname ?_ | refine go_cb ?_)) | ((with_reducible refine' go_ixT ?hp ?ha ?_); (case hp => walk_at "lw_hp"); (case ha => first | rfl | assumption)) | (with_reducible (first | refine go_asg ?_ | refine go_callC ?_ | refine go_next ?_ | refine go_tup ?_ | refine go_i0 ?_ | refine go_ret ?_ | refine go_dget ?_ | refine go_gcons ?_ | refine go_gsub ?_ | refine go_testB ?_)) | ((with_reducible refine' go_ixL ?hp ?ha ?_); (case hp => walk_at "lw_hp"); (case ha => first | rfl | assumption)) | (with_reducible (first | refine' go_ixLs (by assumption) (by assumption) ?_ | refine go_lst ?_)) | ((with_reducible refine' go_i ?cc ?_); (case cc => first | omega | (simp only [CDiv, CMul, CPow]; omega) | (simp only [CDiv, CMul, CPow]; decide))) | (with_reducible (first | refine go_drop ?_ | refine go_eqI ?_ | refine go_eqS ?_ | refine go_eqB ?_ | refine go_eq (by rfl) ?_ | refine go_gnil ?_ | refine go_iteT ?_ | refine go_iteF ?_ | refine go_iteNt ?_ | refine go_iteNf ?_ | refine go_iteNN ?_)) | (with_reducible refine go_iteDT (by first | assumption | rfl | omega | (simp only [List.length_cons, List.length_nil, List.length_map]; omega)) ?_) | (with_reducible refine go_iteDF (by first | assumption | omega | decide | decide +kernel | (simp only [List.length_cons, List.length_nil, List.length_map]; omega)) ?_) | (with_reducible refine go_iteNT (by first | assumption | rfl | omega | (simp only [List.length_cons, List.length_nil, List.length_map]; omega)) ?_) | (with_reducible refine go_iteNF (by first | assumption | omega | decide | decide +kernel | (simp only [List.length_cons, List.length_nil, List.length_map]; omega)) ?_) | (with_reducible refine go_iteBT (by first | assumption | decide +kernel) ?_) | (with_reducible refine go_iteBF (by first | assumption | decide +kernel) ?_) | (with_reducible (first | refine go_dput ?_ | refine go_setD ?_)) | ((with_reducible refine' go_gtup ?hp ?ha ?_); (case hp => walk_at "lw_hp"); (case ha => first | rfl | assumption)) | (with_reducible refine go_if ?_) | ((with_reducible refine' go_setL ?hp ?ha ?_); (case hp => walk_at "lw_hp"); (case ha => first | rfl | assumption)) | (with_reducible (first | refine go_not ?_ | refine go_or ?_ | refine go_andV ?_ | refine go_sl ?_ | refine go_nopart ?_ | refine go_part ?_ | refine go_qI ?_ | refine' go_lenLs (by assumption) ?_)) | ((with_reducible refine' go_lenL ?hp ?_); (case hp => walk_at "lw_hp")) | ((with_reducible refine' go_lenT ?hp ?_); (case hp => walk_at "lw_hp")) | ((with_reducible refine' go_inT ?hp ?ha ?hb ?_); (case hp => walk_at "lw_hp"); (case ha => rfl); (case hb => rfl)) | ((with_reducible refine' go_notInT ?hp ?ha ?hb ?_); (case hp => walk_at "lw_hp"); (case ha => rfl); (case hb => rfl)) | (with_reducible (first | refine go_pnil ?_ | refine go_pcons ?_ | refine go_un ?_ | refine go_u ?_ | refine go_for ?_ | refine go_rng1 ?_ | refine go_qrng1 (by omega) (by omega) ?_ | refine go_notN_non ?_ | refine go_notN_int ?_ | refine go_notN_str ?_ | refine go_notN_bl ?_ | refine go_notN_ref ?_ | refine go_min ?_ | refine go_bm ?_ | refine go_lc ?_)) | ((with_reducible refine' go_qbm ?hp ?_); (case hp => walk_at "lw_hp")) | (with_reducible (first | refine go_int ?_ | refine go_intB ?_ | refine go_yes ?_ | refine go_and ?_ | refine go_notV ?_ | refine go_iL ?_)) | ((with_reducible refine' go_glst ?hp ?ha ?_); (case hp => walk_at "lw_hp"); (case ha => first | rfl | assumption)) | ((with_reducible refine' go_qiL ?hp ?_); (case hp => walk_at "lw_hp")) | (with_reducible (first | refine go_par ?_ | refine go_gpar ?_ | refine go_isN_non ?_ | refine go_isN_int ?_ | refine go_isN_str ?_ | refine go_isN_bl ?_ | refine go_isN_ref ?_ | refine go_neI ?_ | refine go_neS ?_ | refine go_neB ?_ | refine go_iT ?_ | refine go_ne (by rfl) ?_)) | ((with_reducible refine' go_ixAL ?hp ?ha ?_); (case hp => walk_at "lw_hp"); (case ha => first | rfl | assumption)) | ((with_reducible refine' go_ixAT ?hp ?ha ?_); (case hp => walk_at "lw_hp"); (case ha => first | rfl | assumption)) | ((with_reducible refine' go_qiT ?hp ?_); (case hp => walk_at "lw_hp")) | (with_reducible (first | refine go_is_non_int ?_ | refine go_is_non_bool ?_ | refine go_is_non_str ?_ | refine go_is_non_tuple ?_ | refine go_is_non_list ?_ | refine go_is_bl_int ?_ | refine go_is_bl_bool ?_ | refine go_is_bl_str ?_ | refine go_is_bl_tuple ?_ | refine go_is_bl_list ?_ | refine go_is_int_int ?_ | refine go_is_int_bool ?_ | refine go_is_int_str ?_ | refine go_is_int_tuple ?_ | refine go_is_int_list ?_ | refine go_is_str_int ?_ | refine go_is_str_bool ?_ | refine go_is_str_str ?_ | refine go_is_str_tuple ?_ | refine go_is_str_list ?_)) | ((with_reducible refine' go_is_lst_int ?hp ?_); (case hp => walk_at "lw_hp")) | ((with_reducible refine' go_is_lst_bool ?hp ?_); (case hp => walk_at "lw_hp")) | ((with_reducible refine' go_is_lst_str ?hp ?_); (case hp => walk_at "lw_hp")) | ((with_reducible refine' go_is_lst_tuple ?hp ?_); (case hp => walk_at "lw_hp")) | ((with_reducible refine' go_is_lst_list ?hp ?_); (case hp => walk_at "lw_hp")) | ((with_reducible refine' go_is_tup_int ?hp ?_); (case hp => walk_at "lw_hp")) | ((with_reducible refine' go_is_tup_bool ?hp ?_); (case hp => walk_at "lw_hp")) | ((with_reducible refine' go_is_tup_str ?hp ?_); (case hp => walk_at "lw_hp")) | ((with_reducible refine' go_is_tup_tuple ?hp ?_); (case hp => walk_at "lw_hp")) | ((with_reducible refine' go_is_tup_list ?hp ?_); (case hp => walk_at "lw_hp")) | (with_reducible (first | refine go_max ?_ | refine go_bm0 ?_ | refine go_chain ?_ | refine go_qch ?_)) | ((with_reducible refine' go_qbm0 ?hp ?_); (case hp => walk_at "lw_hp")) | (with_reducible (first | refine go_retN ?_ | refine go_orV ?_ | refine go_whQ ?_ | refine go_rng2 ?_ | refine go_qrng2 (by omega) (by omega) (by omega) (by omega) ?_ | refine go_rvr ?_ | refine go_qrvr (by omega) (by omega) ?_ | refine go_enum ?_ | refine go_aug rfl ?_ | refine go_ipI ?_)) | ((with_reducible refine' go_qenum ?hp ?_); (case hp => walk_at "lw_hp")) | ((with_reducible refine' go_sumL ?hp ?_); (case hp => walk_at "lw_hp")))))
local macro_rules | `(tactic| walk_at "lw_goc") => `(tactic| (repeat (first | (with_reducible (first | refine go_var rfl ?_ | refine go_c ?_ | refine go_cons ?_ | refine go_op ?_ | refine go_nil ?_ | refine go_seq ?_ | refine go_qb ?_ | refine go_test ?_ | refine go_ifS ?_ | refine go_gname ?_ | refine go_cb ?_)) | ((with_reducible refine' go_ixT ?hp ?ha ?_); (case hp => walk_at "lw_hp"); (case ha => first | rfl | assumption)) | (with_reducible (first | refine go_asg ?_ | refine go_callC ?_ | refine go_next ?_ | refine go_tup ?_ | refine go_i0 ?_ | refine go_ret ?_ | refine go_dget ?_)) | ((with_reducible show qFld _ _ _ _ _); (first | ((with_reducible refine' ig_row (by assumption) ?hp ?_); (case hp => walk_at "lw_hp")) | ((with_reducible refine' ig_names (by assumption) ?hp ?_); (case hp => walk_at "lw_hp")) | ((with_reducible refine' ig_taken (by assumption) ?hp ?_); (case hp => walk_at "lw_hp")) | ((with_reducible refine' ig_done (by assumption) ?hp ?_); (case hp => walk_at "lw_hp")) | ((with_reducible refine' ig_letters (by assumption) ?hp ?_); (case hp => walk_at "lw_hp")) | ((with_reducible refine' cg_follows (by assumption) ?hp ?_); (case hp => walk_at "lw_hp")) | ((with_reducible refine' cg_fault (by assumption) ?hp ?_); (case hp => walk_at "lw_hp")) | ((with_reducible refine' cg_name (by assumption) ?hp ?_); (case hp => walk_at "lw_hp")) | ((with_reducible refine' cg_worth (by assumption) ?hp ?_); (case hp => walk_at "lw_hp")) | ((with_reducible refine' cg_takes (by assumption) ?hp ?_); (case hp => walk_at "lw_hp")) | ((with_reducible refine' cg_file (by assumption) ?hp ?_); (case hp => walk_at "lw_hp")) | ((with_reducible refine' cg_numbers (by assumption) ?hp ?_); (case hp => walk_at "lw_hp")) | ((with_reducible refine' cg_letter (by assumption) ?hp ?_); (case hp => walk_at "lw_hp")))) | (with_reducible (first | refine go_fld ?_ | refine go_gcons ?_)) | ((with_reducible show qSFld _ _ _ _ _ _); (first | ((with_reducible refine' is_row (by assumption) ?hp ?_); (case hp => walk_at "lw_hp")) | ((with_reducible refine' is_names (by assumption) ?hp ?_); (case hp => walk_at "lw_hp")) | ((with_reducible refine' is_taken (by assumption) ?hp ?_); (case hp => walk_at "lw_hp")) | ((with_reducible refine' is_done (by assumption) ?hp ?_); (case hp => walk_at "lw_hp")) | ((with_reducible refine' is_letters (by assumption) ?hp ?_); (case hp => walk_at "lw_hp")) | ((with_reducible refine' cs_follows (by assumption) ?hp ?_); (case hp => walk_at "lw_hp")) | ((with_reducible refine' cs_fault (by assumption) ?hp ?_); (case hp => walk_at "lw_hp")) | ((with_reducible refine' cs_name (by assumption) ?hp ?_); (case hp => walk_at "lw_hp")) | ((with_reducible refine' cs_worth (by assumption) ?hp ?_); (case hp => walk_at "lw_hp")) | ((with_reducible refine' cs_takes (by assumption) ?hp ?_); (case hp => walk_at "lw_hp")) | ((with_reducible refine' cs_file (by assumption) ?hp ?_); (case hp => walk_at "lw_hp")) | ((with_reducible refine' cs_numbers (by assumption) ?hp ?_); (case hp => walk_at "lw_hp")) | ((with_reducible refine' cs_letter (by assumption) ?hp ?_); (case hp => walk_at "lw_hp")))) | (with_reducible (first | refine go_gsub ?_ | refine go_testB ?_ | refine go_sfld ?_)) | ((with_reducible refine' go_ixL ?hp ?ha ?_); (case hp => walk_at "lw_hp"); (case ha => first | rfl | assumption)) | (with_reducible (first | refine' go_ixLs (by assumption) (by assumption) ?_ | refine go_lst ?_)) | ((with_reducible refine' go_i ?cc ?_); (case cc => first | omega | (simp only [CDiv, CMul, CPow]; omega) | (simp only [CDiv, CMul, CPow]; decide))) | (with_reducible refine go_drop ?_) | ((with_reducible show qMeth _ _ _ _ _); (first | ((with_reducible refine' im_follow ?hp ?_); (case hp => walk_at "lw_hp")) | ((with_reducible refine' im_twin ?hp ?_); (case hp => walk_at "lw_hp")) | ((with_reducible refine' cm_hold ?hp ?_); (case hp => walk_at "lw_hp")) | ((with_reducible refine' cm_fill ?hp ?_); (case hp => walk_at "lw_hp")))) | (with_reducible (first | refine go_eqI ?_ | refine go_eqS ?_ | refine go_eqB ?_ | refine go_eq (by rfl) ?_ | refine go_gnil ?_ | refine go_iteT ?_ | refine go_iteF ?_ | refine go_iteNt ?_ | refine go_iteNf ?_ | refine go_iteNN ?_)) | (with_reducible refine go_iteDT (by first | assumption | rfl | omega | (simp only [List.length_cons, List.length_nil, List.length_map]; omega)) ?_) | (with_reducible refine go_iteDF (by first | assumption | omega | decide | decide +kernel | (simp only [List.length_cons, List.length_nil, List.length_map]; omega)) ?_) | (with_reducible refine go_iteNT (by first | assumption | rfl | omega | (simp only [List.length_cons, List.length_nil, List.length_map]; omega)) ?_) | (with_reducible refine go_iteNF (by first | assumption | omega | decide | decide +kernel | (simp only [List.length_cons, List.length_nil, List.length_map]; omega)) ?_) | (with_reducible refine go_iteBT (by first | assumption | decide +kernel) ?_) | (with_reducible refine go_iteBF (by first | assumption | decide +kernel) ?_) | (with_reducible (first | refine go_dput ?_ | refine go_setD ?_)) | ((with_reducible refine' go_gtup ?hp ?ha ?_); (case hp => walk_at "lw_hp"); (case ha => first | rfl | assumption)) | (with_reducible refine go_if ?_) | ((with_reducible refine' go_setL ?hp ?ha ?_); (case hp => walk_at "lw_hp"); (case ha => first | rfl | assumption)) | (with_reducible (first | refine go_not ?_ | refine go_or ?_ | refine go_andV ?_)) | ((with_reducible show qFA _ _ _ _ _ _ _ _); (first | ((with_reducible refine' ia_row (by assumption) ?hp ?_); (case hp => walk_at "lw_hp")) | ((with_reducible refine' ia_names (by assumption) ?hp ?_); (case hp => walk_at "lw_hp")) | ((with_reducible refine' ia_taken (by assumption) ?hp ?_); (case hp => walk_at "lw_hp")) | ((with_reducible refine' ia_done (by assumption) ?hp ?_); (case hp => walk_at "lw_hp")) | ((with_reducible refine' ia_letters (by assumption) ?hp ?_); (case hp => walk_at "lw_hp")) | ((with_reducible refine' ca_follows (by assumption) ?hp ?_); (case hp => walk_at "lw_hp")) | ((with_reducible refine' ca_fault (by assumption) ?hp ?_); (case hp => walk_at "lw_hp")) | ((with_reducible refine' ca_name (by assumption) ?hp ?_); (case hp => walk_at "lw_hp")) | ((with_reducible refine' ca_worth (by assumption) ?hp ?_); (case hp => walk_at "lw_hp")) | ((with_reducible refine' ca_takes (by assumption) ?hp ?_); (case hp => walk_at "lw_hp")) | ((with_reducible refine' ca_file (by assumption) ?hp ?_); (case hp => walk_at "lw_hp")) | ((with_reducible refine' ca_numbers (by assumption) ?hp ?_); (case hp => walk_at "lw_hp")) | ((with_reducible refine' ca_letter (by assumption) ?hp ?_); (case hp => walk_at "lw_hp")))) | ((with_reducible show qFB _ _ _ _ _ _); (first | ((with_reducible refine' ib_row ?hp ?_); (case hp => walk_at "lw_hp")) | ((with_reducible refine' ib_names ?hp ?_); (case hp => walk_at "lw_hp")) | ((with_reducible refine' ib_taken ?hp ?_); (case hp => walk_at "lw_hp")) | ((with_reducible refine' ib_done ?hp ?_); (case hp => walk_at "lw_hp")) | ((with_reducible refine' ib_letters ?hp ?_); (case hp => walk_at "lw_hp")) | ((with_reducible refine' cb_follows ?hp ?_); (case hp => walk_at "lw_hp")) | ((with_reducible refine' cb_fault ?hp ?_); (case hp => walk_at "lw_hp")) | ((with_reducible refine' cb_name ?hp ?_); (case hp => walk_at "lw_hp")) | ((with_reducible refine' cb_worth ?hp ?_); (case hp => walk_at "lw_hp")) | ((with_reducible refine' cb_takes ?hp ?_); (case hp => walk_at "lw_hp")) | ((with_reducible refine' cb_file ?hp ?_); (case hp => walk_at "lw_hp")) | ((with_reducible refine' cb_numbers ?hp ?_); (case hp => walk_at "lw_hp")) | ((with_reducible refine' cb_letter ?hp ?_); (case hp => walk_at "lw_hp")))) | (with_reducible (first | refine go_sl ?_ | refine go_nopart ?_ | refine go_part ?_ | refine go_qI ?_ | refine' go_lenLs (by assumption) ?_)) | ((with_reducible refine' go_lenL ?hp ?_); (case hp => walk_at "lw_hp")) | ((with_reducible refine' go_lenT ?hp ?_); (case hp => walk_at "lw_hp")) | ((with_reducible refine' go_inT ?hp ?ha ?hb ?_); (case hp => walk_at "lw_hp"); (case ha => rfl); (case hb => rfl)) | ((with_reducible refine' go_notInT ?hp ?ha ?hb ?_); (case hp => walk_at "lw_hp"); (case ha => rfl); (case hb => rfl)) | (with_reducible (first | refine go_sfa ?_ | refine go_radd ?_ | refine go_pnil ?_ | refine go_pcons ?_ | refine go_un ?_ | refine go_u ?_ | refine go_for ?_ | refine go_rng1 ?_ | refine go_qrng1 (by omega) (by omega) ?_ | refine go_methC ?_ | refine go_notN_non ?_ | refine go_notN_int ?_ | refine go_notN_str ?_ | refine go_notN_bl ?_ | refine go_notN_ref ?_ | refine go_min ?_ | refine go_bm ?_ | refine go_lc ?_)) | ((with_reducible refine' go_qbm ?hp ?_); (case hp => walk_at "lw_hp")) | (with_reducible (first | refine go_int ?_ | refine go_intB ?_ | refine go_yes ?_ | refine go_and ?_ | refine go_notV ?_ | refine go_iL ?_)) | ((with_reducible refine' go_glst ?hp ?ha ?_); (case hp => walk_at "lw_hp"); (case ha => first | rfl | assumption)) | ((with_reducible refine' go_qiL ?hp ?_); (case hp => walk_at "lw_hp")) | (with_reducible (first | refine go_dgetK ?_ | refine go_par ?_ | refine go_gpar ?_ | refine go_isN_non ?_ | refine go_isN_int ?_ | refine go_isN_str ?_ | refine go_isN_bl ?_ | refine go_isN_ref ?_ | refine go_neI ?_ | refine go_neS ?_ | refine go_neB ?_ | refine go_iT ?_ | refine go_ne (by rfl) ?_)) | ((with_reducible refine' go_ixAL ?hp ?ha ?_); (case hp => walk_at "lw_hp"); (case ha => first | rfl | assumption)) | ((with_reducible refine' go_ixAT ?hp ?ha ?_); (case hp => walk_at "lw_hp"); (case ha => first | rfl | assumption)) | ((with_reducible refine' go_qiT ?hp ?_); (case hp => walk_at "lw_hp")) | (with_reducible (first | refine go_makeC ?_ | refine go_is_non_int ?_ | refine go_is_non_bool ?_ | refine go_is_non_str ?_ | refine go_is_non_tuple ?_ | refine go_is_non_list ?_ | refine go_is_bl_int ?_ | refine go_is_bl_bool ?_ | refine go_is_bl_str ?_ | refine go_is_bl_tuple ?_ | refine go_is_bl_list ?_ | refine go_is_int_int ?_ | refine go_is_int_bool ?_ | refine go_is_int_str ?_ | refine go_is_int_tuple ?_ | refine go_is_int_list ?_ | refine go_is_str_int ?_ | refine go_is_str_bool ?_ | refine go_is_str_str ?_ | refine go_is_str_tuple ?_ | refine go_is_str_list ?_)) | ((with_reducible refine' go_is_lst_int ?hp ?_); (case hp => walk_at "lw_hp")) | ((with_reducible refine' go_is_lst_bool ?hp ?_); (case hp => walk_at "lw_hp")) | ((with_reducible refine' go_is_lst_str ?hp ?_); (case hp => walk_at "lw_hp")) | ((with_reducible refine' go_is_lst_tuple ?hp ?_); (case hp => walk_at "lw_hp")) | ((with_reducible refine' go_is_lst_list ?hp ?_); (case hp => walk_at "lw_hp")) | ((with_reducible refine' go_is_tup_int ?hp ?_); (case hp => walk_at "lw_hp")) | ((with_reducible refine' go_is_tup_bool ?hp ?_); (case hp => walk_at "lw_hp")) | ((with_reducible refine' go_is_tup_str ?hp ?_); (case hp => walk_at "lw_hp")) | ((with_reducible refine' go_is_tup_tuple ?hp ?_); (case hp => walk_at "lw_hp")) | ((with_reducible refine' go_is_tup_list ?hp ?_); (case hp => walk_at "lw_hp")) | (with_reducible (first | refine go_max ?_ | refine go_bm0 ?_ | refine go_chain ?_ | refine go_qch ?_)) | ((with_reducible refine' go_qbm0 ?hp ?_); (case hp => walk_at "lw_hp")) | (with_reducible (first | refine go_dinK ?_ | refine go_enumT ?_ | refine go_zipT ?_ | refine go_retN ?_ | refine go_orV ?_ | refine go_whQ ?_ | refine go_rng2 ?_ | refine go_qrng2 (by omega) (by omega) (by omega) (by omega) ?_ | refine go_rvr ?_ | refine go_qrvr (by omega) (by omega) ?_ | refine go_enum ?_ | refine go_aug rfl ?_ | refine go_ipI ?_)) | ((with_reducible refine' go_qenum ?hp ?_); (case hp => walk_at "lw_hp")) | ((with_reducible refine' go_sumL ?hp ?_); (case hp => walk_at "lw_hp")) | (with_reducible refine go_tru ?_))))
abbrev s_is_single : Stmt := top 15
abbrev s_is_part : Stmt := top 14
abbrev s_has_shape : Stmt := top 16
abbrev s_is_place : Stmt := top 17
abbrev s_check_row : Stmt := top 18
abbrev s_check_program : Stmt := top 19
abbrev s_check_handed : Stmt := top 20
def kindsOf : List (Str × List Str) := [("set", ["name", "part"]), ("take", ["name"]), ("get", ["name", "file", "part"]), ("size", ["name", "file"]), ("add", ["file", "part"]), ("put", ["file", "part", "part"]), ("cut", ["file", "part"]), ("send", ["part"]), ("go", ["row"]), ("unless", ["name", "row"]), ("mark", [])]
def placesOk (K : PySem.W.Frag) (d : Addr) : Bool := kindsOf.all fun p => match dictIn K d p.1 with
  | some (some (.ref a)) => strsIn K a p.2
  | _ => false
theorem places_at {K : PySem.W.Frag} {d : Addr} (h : placesOk K d = true) {i : Nat} {p : Str × List Str} (hp : kindsOf[i]? = some p) : ∃ a, dictIn K d p.1 = some (some (.ref a)) ∧ ∀ H, SqT K H a (p.2.map V.str) := by
  have q := List.all_eq_true.mp h p (List.mem_of_getElem? hp)
  split at q
  · rename_i a e
    exact ⟨a, e, strsIn_sq q⟩
  · cases q
structure Own (K : PySem.W.Frag) (mg : Str → Option Value) (cI cC dP dL : Addr) : Prop where
  i : ClsN K cI iK
  c : ClsN K cC cK
  g_PLACES : mg "PLACES" = some (.ref dP)
  g_PLANS : mg "PLANS" = some (.ref dL)
  pl : placesOk K dP = true
def spSingle : Sp := fun vs H Q _ => ∃ (v : V) (nm : Int) (p : Part), vs = [v, .int nm] ∧ PartAt H p v ∧ (∀ o a b, p ≠ .op o a b) ∧ p.ok nm 1 ∧ Q (.bl true) H
def spIsPart (n : Nat) : Sp := fun vs H Q _ => ∃ (v : V) (nm : Int) (p : Part), vs = [v, .int nm, .int n] ∧ PartAt H p v ∧ p.ok nm n ∧ ∀ H', Same H H' → Q (.bl true) H'
section
variable {P : Program} {w : World} {K : PySem.W.Frag} {mg : Str → Option Value} {base : Heap} {f : Addr} {fd : FuncData} {cI cC dP dL : Addr}
theorem scs_is_single : FnScope ["part", "names"] ["part", "names"] (defScope s_is_single) := ⟨rfl, rfl, rfl, by decide +kernel, rfl, by decide +kernel, by decide +kernel⟩
theorem ok_single (F : Fun K "is_single" "is_single" s_is_single f fd) (T : Txt mg) (C_is_number : FnC P w K mg base 1 "is_number" ["thing", "low", "high"] spIsNum) : FnOk P w K mg base CX0 2 f fd ["part", "names"] spSingle := by
  refine F.ok scs_is_single (fun vs H Q E h => ?_) (fun cdv A outer s H vs Q E hr h => ?_)
  · obtain ⟨v, nm, p, rfl, _⟩ := h
    rfl
  obtain ⟨v, nm, p, rfl, hp, hno, hk, k⟩ := h
  have nd := scs_is_single.nd
  have hu := hu_of hr
  refine ⟨_, (pss_cons (ps_if (pt_cmpR op_eq (pe_ix (kIxT K) (pv 0) pe_int (fun _ _ => rfl)) pe_str (nomark _)) (pss_one (ps_ret (pe_callC C_is_number (hr.mono (by omega)) (by rfl) (pa_cons (pe_ix (kIxT K) (pv 0) pe_int (fun _ _ => rfl)) (pa_cons pe_int (pa_cons (pe_gint (by rfl) T.g_TOP) pa_nil)))))) pss_nil)
      (pss_one (ps_ret (pe_and (pe_cmpR op_eq (pe_ix (kIxT K) (pv 0) pe_int (fun _ _ => rfl)) pe_str (nomark _)) (pe_one (pe_callC C_is_number (hr.mono (by omega)) (by rfl) (pa_cons (pe_ix (kIxT K) (pv 0) pe_int (fun _ _ => rfl)) (pa_cons pe_int (pa_cons (pe_op op_sub (pv 1) pe_int) pa_nil))))))))), ?_⟩
  cases p with
  | num z =>
    obtain ⟨a, rfl, ha⟩ := hp
    walk_at "lw_go"
    exact num_go hk.1 hk.2 k
  | name z =>
    obtain ⟨a, rfl, ha⟩ := hp
    have hz : 0 ≤ z ∧ z < nm := hk
    walk_at "lw_go"
    exact num_go hz.1 (by omega) k
  | op o x y => exact absurd rfl (hno o x y)
theorem scs_is_part : FnScope ["part", "names", "deep"] ["part", "names", "deep"] (defScope s_is_part) := ⟨rfl, rfl, rfl, by decide +kernel, rfl, by decide +kernel, by decide +kernel⟩
theorem ok_ispart {n : Nat} (F : Fun K "is_part" "is_part" s_is_part f fd) (T : Txt mg) (C_is_single : FnC P w K mg base 2 "is_single" ["part", "names"] spSingle) (C_is_part : FnC P w K mg base (n + 2) "is_part" ["part", "names", "deep"] (spIsPart n)) : FnOk P w K mg base CX0 (n + 3) f fd ["part", "names", "deep"] (spIsPart (n + 1)) := by
  refine F.ok scs_is_part (fun vs H Q E h => ?_) (fun cdv A outer s H vs Q E hr h => ?_)
  · obtain ⟨v, nm, p, rfl, _⟩ := h
    rfl
  obtain ⟨v, nm, p, rfl, hp, hk, k⟩ := h
  have nd := scs_is_part.nd
  have hu := hu_of hr
  refine ⟨_, (pss_cons (ps_if (PW.pt (pw_or (pt_cmpR op_eq (pv 2) pe_int (nomark _)) (pw_or1 (pt_not (pt_val (pe_callB (kIsinst K) (by rfl) T.n_isinstance (by decide +kernel) (pa_cons (pv 0) (pa_cons (pe_bltn (v := .ty "tuple") (by rfl) T.n_tuple (by decide +kernel) rfl) pa_nil)))))))) (pss_one (ps_ret pe_bl)) pss_nil)
      (pss_cons (ps_if (pt_cmpR op_eq (pe_callB (kLen K) (by rfl) T.n_len (by decide +kernel) (pa_cons (pv 0) pa_nil)) pe_int (nomark _)) (pss_one (ps_ret (pe_callC C_is_single (hr.mono (by omega)) (by rfl) (pa_cons (pv 0) (pa_cons (pv 1) pa_nil))))) pss_nil)
      (pss_cons (ps_if (PW.pt (pw_or (pt_cmpR op_ne (pe_callB (kLen K) (by rfl) T.n_len (by decide +kernel) (pa_cons (pv 0) pa_nil)) pe_int (nomark _)) (pw_or1 (pt_cmpR (kNotIn K) (pe_ix (kIxT K) (pv 0) pe_int (fun _ _ => rfl)) (pe_tup (pa_cons pe_str (pa_cons pe_str (pa_cons pe_str pa_nil)))) (by rfl))))) (pss_one (ps_ret pe_bl)) pss_nil)
      (pss_one (ps_ret (pe_and (pe_callC C_is_part (hr.mono (by omega)) (by rfl) (pa_cons (pe_ix (kIxT K) (pv 0) pe_int (fun _ _ => rfl)) (pa_cons (pv 1) (pa_cons (pe_op op_sub (pv 2) pe_int) pa_nil)))) (pe_one (pe_callC C_is_part (hr.mono (by omega)) (by rfl) (pa_cons (pe_ix (kIxT K) (pv 0) pe_int (fun _ _ => rfl)) (pa_cons (pv 1) (pa_cons (pe_op op_sub (pv 2) pe_int) pa_nil))))))))))), ?_⟩
  cases p with
  | num z =>
    have hp' := hp
    obtain ⟨a, rfl, ha⟩ := hp
    walk_at "lw_go"
    exact ⟨_, nm, .num z, rfl, hp', (fun _ _ _ e => by cases e), hk, k _ (Same.refl _)⟩
  | name z =>
    have hp' := hp
    obtain ⟨a, rfl, ha⟩ := hp
    walk_at "lw_go"
    exact ⟨_, nm, .name z, rfl, hp', (fun _ _ _ e => by cases e), hk, k _ (Same.refl _)⟩
  | op o x y =>
    obtain ⟨a, u, v', rfl, ha, hx, hy⟩ := hp
    have hw : inV (.str o.str) [.str "sum", .str "diff", .str "less"] = true := by cases o <;> decide +kernel
    walk_at "lw_go"
    refine go_qtup (Nat.le_of_ble_eq_true rfl) (fun q hq => ?_)
    have S1 := same_new hq (.tup [.str "sum", .str "diff", .str "less"])
    walk_at "lw_go"
    rw [hw]
    walk_at "lw_go"
    have en : ((n + 1 : Nat) : Int) - 1 = (n : Int) := by omega
    rw [en]
    refine ⟨_, nm, x, rfl, hx.mono S1.tk, hk.1, fun H1 s1 => ?_⟩
    have ha1 := s1 _ _ (S1 _ _ ha)
    walk_at "lw_go"
    rw [en]
    exact ⟨_, nm, y, rfl, hy.mono (S1.trans s1).tk, hk.2, fun H2 s2 => k _ ((S1.trans s1).trans s2)⟩
theorem no_ispart : FnOk P w K mg base CX0 2 f fd ["part", "names", "deep"] (spIsPart 0) :=
  ⟨fun vs H Q E h => by obtain ⟨v, nm, p, rfl, _⟩ := h; rfl, fun A outer s H args us vs Q E _ _ _ _ h => by obtain ⟨v, nm, p, rfl, _, hk, _⟩ := h; exact hk.elim⟩
theorem c_ispart (F : Fun K "is_part" "is_part" s_is_part f fd) (b : Binds K fd ["part", "names", "deep"] []) (m : mg "is_part" = some (.ref f)) (T : Txt mg) (C_is_single : FnC P w K mg base 2 "is_single" ["part", "names"] spSingle) : ∀ n : Nat, FnC P w K mg base (n + 2) "is_part" ["part", "names", "deep"] (spIsPart n)
  | 0 => ⟨f, fd, no_ispart, m, F.kp, b⟩
  | n + 1 => ⟨f, fd, ok_ispart F T C_is_single (c_ispart F b m T C_is_single n), m, F.kp, b⟩
def Row.ix : Row → Nat
  | .set .. => 0 | .take .. => 1 | .get .. => 2 | .size .. => 3 | .add .. => 4 | .put .. => 5 | .cut .. => 6 | .send .. => 7 | .go .. => 8 | .unl .. => 9 | .mark => 10
def Row.kinds (r : Row) : Str × List Str := kindsOf.getD r.ix ("", [])
theorem Row.kinds_at (r : Row) : kindsOf[r.ix]? = some r.kinds := by cases r <;> rfl
theorem row_word {H : Hp} : ∀ {r : Row} {xs : List V}, RowXs H r xs → ∃ rest, xs = .str r.kinds.1 :: rest ∧ rest.length = r.kinds.2.length
  | .set .., _, ⟨v, e, _⟩ => ⟨_, e, rfl⟩
  | .take _, _, e => ⟨_, e, rfl⟩
  | .get .., _, ⟨v, e, _⟩ => ⟨_, e, rfl⟩
  | .size .., _, e => ⟨_, e, rfl⟩
  | .add .., _, ⟨v, e, _⟩ => ⟨_, e, rfl⟩
  | .put .., _, ⟨v, u, e, _⟩ => ⟨_, e, rfl⟩
  | .cut .., _, ⟨v, e, _⟩ => ⟨_, e, rfl⟩
  | .send _, _, ⟨v, e, _⟩ => ⟨_, e, rfl⟩
  | .go _, _, e => ⟨_, e, rfl⟩
  | .unl .., _, e => ⟨_, e, rfl⟩
  | .mark, _, e => ⟨_, e, rfl⟩
def spShape : Sp := fun vs H Q _ => ∃ (v : V) (r : Row), vs = [v] ∧ RowAt H r v ∧ Q (.bl true) H
theorem scs_has_shape : FnScope ["row"] ["row"] (defScope s_has_shape) := ⟨rfl, rfl, rfl, by decide +kernel, rfl, by decide +kernel, by decide +kernel⟩
theorem ok_shape (F : Fun K "has_shape" "has_shape" s_has_shape f fd) (T : Txt mg) (O : Own K mg cI cC dP dL) : FnOk P w K mg base CX0 1 f fd ["row"] spShape := by
  refine F.ok scs_has_shape (fun vs H Q E h => ?_) (fun cdv A outer s H vs Q E hr h => ?_)
  · obtain ⟨v, r, rfl, _⟩ := h
    rfl
  obtain ⟨v, r, rfl, ⟨a, xs, rfl, ha, hx⟩, k⟩ := h
  obtain ⟨rest, rfl, hl⟩ := row_word hx
  obtain ⟨b, hb, hq⟩ := places_at O.pl r.kinds_at
  have hat : atI (.str r.kinds.1 :: rest) 0 = some (.str r.kinds.1) := by show atI (_ :: rest) ((0 : Nat) : Int) = _; exact atI_nat rfl
  have nd := scs_has_shape.nd
  have hu := hu_of hr
  have Oi := O.i
  have Oc := O.c
  refine ⟨_, (pss_cons (ps_if (PW.pt (pw_or (pt_not (pt_val (pe_callB (kIsinst K) (by rfl) T.n_isinstance (by decide +kernel) (pa_cons (pv 0) (pa_cons (pe_bltn (v := .ty "tuple") (by rfl) T.n_tuple (by decide +kernel) rfl) pa_nil))))) (pw_or (pt_cmpR op_eq (pe_callB (kLen K) (by rfl) T.n_len (by decide +kernel) (pa_cons (pv 0) pa_nil)) pe_int (nomark _)) (pw_or1 (pt_not (pt_val (pe_callB (kIsinst K) (by rfl) T.n_isinstance (by decide +kernel) (pa_cons (pe_ix (kIxT K) (pv 0) pe_int (fun _ _ => rfl)) (pa_cons (pe_bltn (v := .ty "str") (by rfl) T.n_str (by decide +kernel) rfl) pa_nil))))))))) (pss_one (ps_ret pe_bl)) pss_nil)
      (pss_one (ps_ret (pe_and (pe_cmp (pc_dinK K (pe_ix (kIxT K) (pv 0) pe_int (fun _ _ => rfl)) (pe_gref (by rfl) O.g_PLACES)) rfl) (pe_one (pe_cmpR op_eq (pe_callB (kLen K) (by rfl) T.n_len (by decide +kernel) (pa_cons (pv 0) pa_nil)) (pe_op op_add pe_int (pe_callB (kLen K) (by rfl) T.n_len (by decide +kernel) (pa_cons (pe_dgetK K (pe_gref (by rfl) O.g_PLACES) (pe_ix (kIxT K) (pv 0) pe_int (fun _ _ => rfl)) (fun _ _ => rfl)) pa_nil))) (nomark _))))))), ?_⟩
  walk_at "lw_goc"
  refine go_qdiK hb ?_
  walk_at "lw_goc"
  refine go_iteT ?_
  walk_at "lw_goc"
  refine go_qdgK (v := .ref b) hb rfl ?_
  walk_at "lw_goc"
  refine go_lenTs (hq _) ?_
  walk_at "lw_goc"
  rw [show decide (((V.str r.kinds.1 :: rest).length : Int) = 1 + ((r.kinds.2.map V.str).length : Int)) = true from decide_eq_true (by simp only [List.length_cons, List.length_map]; omega)]
  exact k
def PlaceIs (H : Hp) (nm fl many : Int) (kd : Str) (v : V) : Prop :=
  (kd = "name" ∧ ∃ n, v = .int n ∧ 0 ≤ n ∧ n < nm) ∨ (kd = "file" ∧ ∃ n, v = .int n ∧ 0 ≤ n ∧ n < fl) ∨ (kd = "row" ∧ ∃ n, v = .int n ∧ 0 ≤ n ∧ n ≤ many) ∨ (kd = "part" ∧ ∃ p, PartAt H p v ∧ p.ok nm 3)
def spPlace : Sp := fun vs H Q _ => ∃ (v : V) (kd : Str) (pa pb : Addr) (nm fl : Int) (rs : List V), vs = [v, .str kd, .ref pa] ∧ H pa = some (.tup [.int nm, .int fl, .ref pb]) ∧ H pb = some (.tup rs) ∧ PlaceIs H nm fl rs.length kd v ∧ ∀ H', Same H H' → Q (.bl true) H'
theorem scs_is_place : FnScope ["place", "kind", "program", "names", "files", "rows"] ["place", "kind", "program"] (defScope s_is_place) := ⟨rfl, rfl, rfl, by decide +kernel, rfl, by decide +kernel, by decide +kernel⟩
theorem ok_place (F : Fun K "is_place" "is_place" s_is_place f fd) (T : Txt mg) (C_is_number : FnC P w K mg base 1 "is_number" ["thing", "low", "high"] spIsNum) (C_is_part : FnC P w K mg base 5 "is_part" ["part", "names", "deep"] (spIsPart 3)) : FnOk P w K mg base CX0 6 f fd ["place", "kind", "program"] spPlace := by
  refine F.ok scs_is_place (fun vs H Q E h => ?_) (fun cdv A outer s H vs Q E hr h => ?_)
  · obtain ⟨v, kd, pa, pb, nm, fl, rs, rfl, _⟩ := h
    rfl
  obtain ⟨v, kd, pa, pb, nm, fl, rs, rfl, hpa, hpb, hk, k⟩ := h
  have nd := scs_is_place.nd
  have hu := hu_of hr
  refine ⟨_, (pss_cons (ps_asg (pv 2) (kPgT K (by rfl) (pgs_cons (pg_name (i := 3) nd rfl (Or.inl rfl)) (pgs_cons (pg_name (i := 4) nd rfl (Or.inl rfl)) (pgs_cons (pg_name (i := 5) nd rfl (Or.inl rfl)) pgs_nil)))))
      (pss_cons (ps_if (pt_cmpR op_eq (pv 1) pe_str (nomark _)) (pss_one (ps_ret (pe_callC C_is_number (hr.mono (by omega)) (by rfl) (pa_cons (pv 0) (pa_cons pe_int (pa_cons (pe_op op_sub (pv 3) pe_int) pa_nil)))))) pss_nil)
      (pss_cons (ps_if (pt_cmpR op_eq (pv 1) pe_str (nomark _)) (pss_one (ps_ret (pe_callC C_is_number (hr.mono (by omega)) (by rfl) (pa_cons (pv 0) (pa_cons pe_int (pa_cons (pe_op op_sub (pv 4) pe_int) pa_nil)))))) pss_nil)
      (pss_cons (ps_if (pt_cmpR op_eq (pv 1) pe_str (nomark _)) (pss_one (ps_ret (pe_callC C_is_number (hr.mono (by omega)) (by rfl) (pa_cons (pv 0) (pa_cons pe_int (pa_cons (pe_callB (kLen K) (by rfl) T.n_len (by decide +kernel) (pa_cons (pv 5) pa_nil)) pa_nil)))))) pss_nil)
      (pss_one (ps_ret (pe_callC C_is_part (hr.mono (by omega)) (by rfl) (pa_cons (pv 0) (pa_cons (pv 3) (pa_cons (pe_gint (by rfl) T.g_MOST_DEEP) pa_nil)))))))))), ?_⟩
  rcases hk with ⟨rfl, n, rfl, h0, h1⟩ | ⟨rfl, n, rfl, h0, h1⟩ | ⟨rfl, n, rfl, h0, h1⟩ | ⟨rfl, p, hp, hok⟩
  · walk_at "lw_go"
    exact num_go h0 (by omega) (k _ (Same.refl _))
  · walk_at "lw_go"
    exact num_go h0 (by omega) (k _ (Same.refl _))
  · walk_at "lw_go"
    exact num_go h0 (by omega) (k _ (Same.refl _))
  · walk_at "lw_go"
    exact ⟨_, nm, p, rfl, hp, hok, k⟩
theorem row_places {H : Hp} {nm fl many : Int} : ∀ {r : Row} {rest : List V}, RowXs H r (.str r.kinds.1 :: rest) → r.ok nm fl many → ∀ (i : Nat) (v y : V), rest[i]? = some v → (r.kinds.2.map V.str)[i]? = some y → ∃ kd, y = .str kd ∧ PlaceIs H nm fl many kd v
  | .set n p, _, ⟨v, e, hv⟩, ok, i, x, y, hx, hy => by
    cases e
    match i with
    | 0 => cases hx; cases hy; exact ⟨_, rfl, .inl ⟨rfl, n, rfl, ok.1, ok.2.1⟩⟩
    | 1 => cases hx; cases hy; exact ⟨_, rfl, .inr (.inr (.inr ⟨rfl, p, hv, ok.2.2⟩))⟩
    | i + 2 => cases hx
  | .take n, _, e, ok, i, x, y, hx, hy => by
    cases e
    match i with
    | 0 => cases hx; cases hy; exact ⟨_, rfl, .inl ⟨rfl, n, rfl, ok.1, ok.2⟩⟩
    | i + 1 => cases hx
  | .get n f p, _, ⟨v, e, hv⟩, ok, i, x, y, hx, hy => by
    cases e
    match i with
    | 0 => cases hx; cases hy; exact ⟨_, rfl, .inl ⟨rfl, n, rfl, ok.1, ok.2.1⟩⟩
    | 1 => cases hx; cases hy; exact ⟨_, rfl, .inr (.inl ⟨rfl, f, rfl, ok.2.2.1, ok.2.2.2.1⟩)⟩
    | 2 => cases hx; cases hy; exact ⟨_, rfl, .inr (.inr (.inr ⟨rfl, p, hv, ok.2.2.2.2⟩))⟩
    | i + 3 => cases hx
  | .size n f, _, e, ok, i, x, y, hx, hy => by
    cases e
    match i with
    | 0 => cases hx; cases hy; exact ⟨_, rfl, .inl ⟨rfl, n, rfl, ok.1, ok.2.1⟩⟩
    | 1 => cases hx; cases hy; exact ⟨_, rfl, .inr (.inl ⟨rfl, f, rfl, ok.2.2.1, ok.2.2.2⟩)⟩
    | i + 2 => cases hx
  | .add f p, _, ⟨v, e, hv⟩, ok, i, x, y, hx, hy => by
    cases e
    match i with
    | 0 => cases hx; cases hy; exact ⟨_, rfl, .inr (.inl ⟨rfl, f, rfl, ok.1, ok.2.1⟩)⟩
    | 1 => cases hx; cases hy; exact ⟨_, rfl, .inr (.inr (.inr ⟨rfl, p, hv, ok.2.2⟩))⟩
    | i + 2 => cases hx
  | .put f p q, _, ⟨v, u, e, hv, hu⟩, ok, i, x, y, hx, hy => by
    cases e
    match i with
    | 0 => cases hx; cases hy; exact ⟨_, rfl, .inr (.inl ⟨rfl, f, rfl, ok.1, ok.2.1⟩)⟩
    | 1 => cases hx; cases hy; exact ⟨_, rfl, .inr (.inr (.inr ⟨rfl, p, hv, ok.2.2.1⟩))⟩
    | 2 => cases hx; cases hy; exact ⟨_, rfl, .inr (.inr (.inr ⟨rfl, q, hu, ok.2.2.2⟩))⟩
    | i + 3 => cases hx
  | .cut f p, _, ⟨v, e, hv⟩, ok, i, x, y, hx, hy => by
    cases e
    match i with
    | 0 => cases hx; cases hy; exact ⟨_, rfl, .inr (.inl ⟨rfl, f, rfl, ok.1, ok.2.1⟩)⟩
    | 1 => cases hx; cases hy; exact ⟨_, rfl, .inr (.inr (.inr ⟨rfl, p, hv, ok.2.2⟩))⟩
    | i + 2 => cases hx
  | .send p, _, ⟨v, e, hv⟩, ok, i, x, y, hx, hy => by
    cases e
    match i with
    | 0 => cases hx; cases hy; exact ⟨_, rfl, .inr (.inr (.inr ⟨rfl, p, hv, ok⟩))⟩
    | i + 1 => cases hx
  | .go r, _, e, ok, i, x, y, hx, hy => by
    cases e
    match i with
    | 0 => cases hx; cases hy; exact ⟨_, rfl, .inr (.inr (.inl ⟨rfl, r, rfl, ok.1, ok.2⟩))⟩
    | i + 1 => cases hx
  | .unl n r, _, e, ok, i, x, y, hx, hy => by
    cases e
    match i with
    | 0 => cases hx; cases hy; exact ⟨_, rfl, .inl ⟨rfl, n, rfl, ok.1, ok.2.1⟩⟩
    | 1 => cases hx; cases hy; exact ⟨_, rfl, .inr (.inr (.inl ⟨rfl, r, rfl, ok.2.2.1, ok.2.2.2⟩))⟩
    | i + 2 => cases hx
  | .mark, _, e, ok, i, x, y, hx, hy => by
    cases e
    cases hx
theorem PlaceIs.mono {H H' : Hp} (t : TK H H') {nm fl many : Int} {kd : Str} {v : V} (h : PlaceIs H nm fl many kd v) : PlaceIs H' nm fl many kd v := by
  rcases h with h | h | h | ⟨e, p, hp, ok⟩
  · exact .inl h
  · exact .inr (.inl h)
  · exact .inr (.inr (.inl h))
  · exact .inr (.inr (.inr ⟨e, p, hp.mono t, ok⟩))
theorem sIx_pos {n d : Nat} {a : Int} (h : 0 ≤ a) : HT.sIx n d (some a) = min a.toNat n := by
  show (if a < 0 then _ else _) = _
  rw [if_neg (by omega)]
theorem cut_tail (x : V) (rest : List V) : cutV (x :: rest) (some 1) none = rest := by
  unfold cutV
  have e1 : HT.sIx (x :: rest).length 0 (some 1) = 1 := by
    rw [sIx_pos (by decide), List.length_cons]
    show min 1 (rest.length + 1) = 1
    omega
  have e2 : HT.sIx (x :: rest).length (x :: rest).length none = (x :: rest).length := rfl
  rw [e1, e2]
  show List.take (rest.length + 1 - 1) (List.drop 1 (x :: rest)) = rest
  rw [show rest.length + 1 - 1 = rest.length by omega, List.drop_one]
  exact List.take_length
def spCkRow : Sp := fun vs H Q _ => ∃ (n : Int) (v : V) (r : Row) (p : Prog) (pv : V), vs = [.int n, v, pv] ∧ 0 ≤ n ∧ n < 60 ∧ RowAt H r v ∧ ProgAt H p pv ∧ r.ok p.nm p.fl p.rows.length ∧ ∀ H', Same H H' → Q .non H'
theorem scs_check_row : FnScope ["number", "row", "program", "place", "kind"] ["number", "row", "program"] (defScope s_check_row) := ⟨rfl, rfl, rfl, by decide +kernel, rfl, by decide +kernel, by decide +kernel⟩
theorem ok_ckrow (F : Fun K "check_row" "check_row" s_check_row f fd) (T : Txt mg) (O : Own K mg cI cC dP dL) (C_has_shape : FnC P w K mg base 1 "has_shape" ["row"] spShape) (C_is_place : FnC P w K mg base 6 "is_place" ["place", "kind", "program"] spPlace) : FnOk P w K mg base CX0 7 f fd ["number", "row", "program"] spCkRow := by
  refine F.ok scs_check_row (fun vs H Q E h => ?_) (fun cdv A outer s H vs Q E hr h => ?_)
  · obtain ⟨n, v, r, p, pv, rfl, _⟩ := h
    rfl
  obtain ⟨n, v, r, p, pv, rfl, h0, h1, hR, hP, hok, k⟩ := h
  have hR' := hR
  obtain ⟨a, xs, rfl, ha, hx⟩ := hR
  obtain ⟨rest, rfl, hl⟩ := row_word hx
  obtain ⟨b, hb, hq⟩ := places_at O.pl r.kinds_at
  obtain ⟨pa, pb, rs, rfl, hpa, hpb, hRs⟩ := id hP
  have hat : atI (.str r.kinds.1 :: rest) 0 = some (.str r.kinds.1) := by show atI (_ :: rest) ((0 : Nat) : Int) = _; exact atI_nat rfl
  have nd := scs_check_row.nd
  have hu := hu_of hr
  have Oi := O.i
  have Oc := O.c
  refine ⟨_, (pss_cons (ps_if (pt_cmpR op_eq (pv 0) (pe_gint (by rfl) T.g_MOST_ROWS) (nomark _)) (pss_one ps_never) pss_nil)
      (pss_cons (ps_if (pt_not (pt_val (pe_callC C_has_shape (hr.mono (by omega)) (by rfl) (pa_cons (pv 1) pa_nil)))) (pss_one ps_never) pss_nil)
      (pss_one (ps_for PassesOwn.never rfl (kZipT K (by rfl) T.n_zip (pa_cons (pe_slice (kSlT K) (pv 1) (po_some pe_int) po_none) (pa_cons (pe_dgetK K (pe_gref (by rfl) O.g_PLACES) (pe_ix (kIxT K) (pv 1) pe_int (fun _ _ => rfl)) (fun _ _ => rfl)) pa_nil))) (kPgT K (by rfl) (pgs_cons (pg_name (i := 3) nd rfl (Or.inl rfl)) (pgs_cons (pg_name (i := 4) nd rfl (Or.inl rfl)) pgs_nil))) (pss_one (ps_if (pt_not (pt_val (pe_callC C_is_place (hr.mono (by omega)) (by rfl) (pa_cons (pv 3) (pa_cons (pv 4) (pa_cons (pv 2) pa_nil)))))) (pss_one ps_never) pss_nil)))))), ?_⟩
  walk_at "lw_goc"
  refine ⟨_, r, rfl, hR', ?_⟩
  walk_at "lw_goc"
  refine go_slT ha (by intro z; have z1 := z.1; rw [sIx_pos (by decide), List.length_cons] at z1; have z2 : min 1 (rest.length + 1) = 0 := z1; omega) (fun c hc => ?_)
  rw [cut_tail]
  have S1 := same_new hc (.tup rest)
  have hc1 : upd H c (.tup rest) c = some (.tup rest) := upd_same
  generalize upd H c (.tup rest) = H1 at *
  walk_at "lw_goc"
  refine go_qdgK (v := .ref b) hb rfl ?_
  walk_at "lw_goc"
  refine go_qzipT (SqT.of hc1) (hq _) ?_
  refine fq_zipT rest (r.kinds.2.map V.str) (by rw [List.length_map]; exact hl) (fun i σ H' => ∃ v1 v2, σ = [some (.int n), some (.ref a), some (.ref pa), v1, v2] ∧ Same H1 H') ⟨none, none, rfl, Same.refl _⟩ ?_ ?_ ?_
  · rintro i σ H' _ ⟨v1, v2, rfl, s'⟩
    exact ⟨SqT.of (s' _ _ hc1), hq _⟩
  · rintro i x y σ H' t hx' hy' ht ⟨v1, v2, rfl, s'⟩
    have S2 := S1.trans (s'.trans (same_new ht (.tup [x, y])))
    obtain ⟨kd, rfl, hpl⟩ := row_places hx hok i x y hx' hy'
    walk_at "lw_goc"
    refine ⟨x, kd, pa, pb, p.nm, p.fl, rs, rfl, S2 _ _ hpa, S2 _ _ hpb, ?_, fun H2 s2 => ?_⟩
    · rw [← hRs.length]; exact hpl.mono S2.tk
    walk_at "lw_goc"
    exact ⟨_, _, rfl, (s'.trans (same_new ht _)).trans s2⟩
  · rintro σ H' ⟨v1, v2, rfl, s'⟩
    walk_at "lw_goc"
    exact k _ (S1.trans s')
def spCkProg : Sp := fun vs H Q _ => ∃ (pv : V) (p : Prog), vs = [pv] ∧ p.Ok ∧ ProgAt H p pv ∧ ∀ H', Same H H' → Q .non H'
theorem scs_check_program : FnScope ["program", "names", "files", "rows", "number", "row"] ["program"] (defScope s_check_program) := ⟨rfl, rfl, rfl, by decide +kernel, rfl, by decide +kernel, by decide +kernel⟩
theorem ok_ckprog (F : Fun K "check_program" "check_program" s_check_program f fd) (T : Txt mg) (C_is_number : FnC P w K mg base 1 "is_number" ["thing", "low", "high"] spIsNum) (C_check_row : FnC P w K mg base 7 "check_row" ["number", "row", "program"] spCkRow) : FnOk P w K mg base CX0 8 f fd ["program"] spCkProg := by
  refine F.ok scs_check_program (fun vs H Q E h => ?_) (fun cdv A outer s H vs Q E hr h => ?_)
  · obtain ⟨pv, p, rfl, _⟩ := h
    rfl
  obtain ⟨pv, p, rfl, hok, hP, k⟩ := h
  obtain ⟨pa, pb, rs, rfl, hpa, hpb, hRs⟩ := id hP
  have nd := scs_check_program.nd
  have hu := hu_of hr
  refine ⟨_, (pss_cons (ps_if (PW.pt (pw_or (pt_not (pt_val (pe_callB (kIsinst K) (by rfl) T.n_isinstance (by decide +kernel) (pa_cons (pv 0) (pa_cons (pe_bltn (v := .ty "tuple") (by rfl) T.n_tuple (by decide +kernel) rfl) pa_nil))))) (pw_or (pt_cmpR op_ne (pe_callB (kLen K) (by rfl) T.n_len (by decide +kernel) (pa_cons (pv 0) pa_nil)) pe_int (nomark _)) (pw_or1 (pt_not (pt_val (pe_callB (kIsinst K) (by rfl) T.n_isinstance (by decide +kernel) (pa_cons (pe_ix (kIxT K) (pv 0) pe_int (fun _ _ => rfl)) (pa_cons (pe_bltn (v := .ty "tuple") (by rfl) T.n_tuple (by decide +kernel) rfl) pa_nil))))))))) (pss_one ps_never) pss_nil)
      (pss_cons (ps_asg (pv 0) (kPgT K (by rfl) (pgs_cons (pg_name (i := 1) nd rfl (Or.inl rfl)) (pgs_cons (pg_name (i := 2) nd rfl (Or.inl rfl)) (pgs_cons (pg_name (i := 3) nd rfl (Or.inl rfl)) pgs_nil)))))
      (pss_cons (ps_if (pt_not (pt_val (pe_callC C_is_number (hr.mono (by omega)) (by rfl) (pa_cons (pv 1) (pa_cons pe_int (pa_cons (pe_gint (by rfl) T.g_MOST_NAMES) pa_nil)))))) (pss_one ps_never) pss_nil)
      (pss_cons (ps_if (pt_not (pt_val (pe_callC C_is_number (hr.mono (by omega)) (by rfl) (pa_cons (pv 2) (pa_cons pe_int (pa_cons (pe_gint (by rfl) T.g_MOST_FILES) pa_nil)))))) (pss_one ps_never) pss_nil)
      (pss_one (ps_for PassesOwn.never rfl (kEnumT K (by rfl) T.n_enumerate (pa_cons (pv 3) pa_nil)) (kPgT K (by rfl) (pgs_cons (pg_name (i := 4) nd rfl (Or.inl rfl)) (pgs_cons (pg_name (i := 5) nd rfl (Or.inl rfl)) pgs_nil))) (pss_one (ps_expr (pe_callC C_check_row (hr.mono (by omega)) (by rfl) (pa_cons (pv 4) (pa_cons (pv 5) (pa_cons (pv 0) pa_nil)))))))))))), ?_⟩
  walk_at "lw_goc"
  refine num_go hok.n1 hok.n2 ?_
  walk_at "lw_goc"
  refine num_go hok.f1 hok.f2 ?_
  walk_at "lw_goc"
  refine go_qenumT hpb ?_
  refine fq_enumT rs (fun i σ H' => ∃ v1 v2, σ = [some (.ref pa), some (.int p.nm), some (.int p.fl), some (.ref pb), v1, v2] ∧ Same H H') ⟨none, none, rfl, Same.refl _⟩ ?_ ?_ ?_
  · rintro i σ H' _ ⟨v1, v2, rfl, s'⟩
    exact SqT.of (s' _ _ hpb)
  · rintro i x σ H' t hx' ht ⟨v1, v2, rfl, s'⟩
    have S2 := s'.trans (same_new ht (.tup [.int (i : Nat), x]))
    obtain ⟨r, hr1, hr2⟩ := hRs.take_succ hx'
    have hln := hok.ln
    have hi := (List.getElem?_eq_some_iff.mp hr1).1
    walk_at "lw_goc"
    refine ⟨_, x, r, p, _, rfl, by omega, by omega, hr2.mono S2.tk, hP.mono S2.tk, hok.rw r (List.mem_of_getElem? hr1), fun H2 s2 => ?_⟩
    walk_at "lw_goc"
    exact ⟨_, _, rfl, S2.trans s2⟩
  · rintro σ H' ⟨v1, v2, rfl, s'⟩
    walk_at "lw_goc"
    exact k _ s'
def spCkHand : Sp := fun vs H Q _ => ∃ (hl : Addr) (hs : List Int), vs = [.ref hl] ∧ H hl = some (.lst (hs.map V.int)) ∧ hs.length ≤ 40 ∧ (∀ x ∈ hs, 0 ≤ x ∧ x ≤ 10006) ∧ Q .non H
theorem scs_check_handed : FnScope ["handed", "number"] ["handed"] (defScope s_check_handed) := ⟨rfl, rfl, rfl, by decide +kernel, rfl, by decide +kernel, by decide +kernel⟩
theorem ok_ckhand (F : Fun K "check_handed" "check_handed" s_check_handed f fd) (T : Txt mg) (C_is_number : FnC P w K mg base 1 "is_number" ["thing", "low", "high"] spIsNum) : FnOk P w K mg base CX0 2 f fd ["handed"] spCkHand := by
  refine F.ok scs_check_handed (fun vs H Q E h => ?_) (fun cdv A outer s H vs Q E hr h => ?_)
  · obtain ⟨hl, hs, rfl, _⟩ := h
    rfl
  obtain ⟨a, hs, rfl, ha, hl, hN, k⟩ := h
  have nd := scs_check_handed.nd
  have hu := hu_of hr
  refine ⟨_, (pss_cons (ps_if (PW.pt (pw_or (pt_not (pt_val (pe_callB (kIsinst K) (by rfl) T.n_isinstance (by decide +kernel) (pa_cons (pv 0) (pa_cons (pe_bltn (v := .ty "list") (by rfl) T.n_list (by decide +kernel) rfl) pa_nil))))) (pw_or1 (pt_cmpR op_gt (pe_callB (kLen K) (by rfl) T.n_len (by decide +kernel) (pa_cons (pv 0) pa_nil)) (pe_gint (by rfl) T.g_MOST_HANDED) (nomark _))))) (pss_one ps_never) pss_nil)
      (pss_one (ps_for PassesOwn.never rfl (kPiL K (pv 0)) (pg_name (i := 1) nd rfl (Or.inl rfl)) (pss_one (ps_if (pt_not (pt_val (pe_callC C_is_number (hr.mono (by omega)) (by rfl) (pa_cons (pv 1) (pa_cons pe_int (pa_cons (pe_gint (by rfl) T.g_TOP) pa_nil)))))) (pss_one ps_never) pss_nil))))), ?_⟩
  walk_at "lw_go"
  refine fq_list (hs.map V.int) (fun i σ H' => ∃ v1, σ = [some (.ref a), v1] ∧ H' = H) ⟨none, rfl, rfl⟩ ?_ ?_ ?_
  · rintro i σ H' _ ⟨v1, rfl, rfl⟩
    exact SqL.of ha
  · rintro i x σ H' hx' ⟨v1, rfl, rfl⟩
    obtain ⟨n, rfl, hn⟩ := int_of hx'
    have hb := hN n (mem_of hn)
    walk_at "lw_go"
    refine num_go hb.1 hb.2 ?_
    walk_at "lw_go"
    exact ⟨_, rfl, rfl⟩
  · rintro σ H' ⟨v1, rfl, rfl⟩
    walk_at "lw_go"
    exact k
end
end Lw
set_option Elab.async false
set_option linter.all false
set_option maxRecDepth 100000
set_option maxHeartbeats 4000000
namespace Lw
open PySem L2
local macro_rules | `(tactic| walk_at "lw_hp") => `(tactic| (repeat (first | assumption | exact upd_same | (refine' upd_new (by assumption) ?_) | (refine' tup_off (by assumption) (by assumption) ?_) | (refine' lst_off (by assumption) (by assumption) (by assumption) ?_) | (refine' Same.get (by assumption) ?_) | (refine' Off.get (by assumption) (by assumption) ?_) | (refine' upd_oth (by assumption) ?_))))
local macro_rules | `(tactic| walk_at "lw_go") => `(tactic| (repeat (first | (with_reducible (first | refine go_var rfl ?_ | refine go_c ?_ | refine go_cons ?_ | refine go_op ?_ | refine go_nil ?_ | refine go_seq ?_ | refine go_qb ?_ | refine go_test ?_ | refine go_ifS ?_ | refine go_gname ?_ | refine go_cb ?_)) | ((with_reducible refine' go_ixT ?hp ?ha ?_); (case hp => walk_at "lw_hp"); (case ha => first | rfl | assumption)) | (with_reducible (first | refine go_asg ?_ | refine go_callC ?_ | refine go_next ?_ | refine go_tup ?_ | refine go_i0 ?_ | refine go_ret ?_ | refine go_dget ?_ | refine go_gcons ?_ | refine go_gsub ?_ | refine go_testB ?_)) | ((with_reducible refine' go_ixL ?hp ?ha ?_); (case hp => walk_at "lw_hp"); (case ha => first | rfl | assumption)) | (with_reducible (first | refine' go_ixLs (by assumption) (by assumption) ?_ | refine go_lst ?_)) | ((with_reducible refine' go_i ?cc ?_); (case cc => first | omega | (simp only [CDiv, CMul, CPow]; omega) | (simp only [CDiv, CMul, CPow]; decide))) | (with_reducible (first | refine go_drop ?_ | refine go_eqI ?_ | refine go_eqS ?_ | refine go_eqB ?_ | refine go_eq (by rfl) ?_ | refine go_gnil ?_ | refine go_iteT ?_ | refine go_iteF ?_ | refine go_iteNt ?_ | refine go_iteNf ?_ | refine go_iteNN ?_)) | (with_reducible refine go_iteDT (by first | assumption | rfl | omega | (simp only [List.length_cons, List.length_nil, List.length_map]; omega)) ?_) | (with_reducible refine go_iteDF (by first | assumption | omega | decide | decide +kernel | (simp only [List.length_cons, List.length_nil, List.length_map]; omega)) ?_) | (with_reducible refine go_iteNT (by first | assumption | rfl | omega | (simp only [List.length_cons, List.length_nil, List.length_map]; omega)) ?_) | (with_reducible refine go_iteNF (by first | assumption | omega | decide | decide +kernel | (simp only [List.length_cons, List.length_nil, List.length_map]; omega)) ?_) | (with_reducible refine go_iteBT (by first | assumption | decide +kernel) ?_) | (with_reducible refine go_iteBF (by first | assumption | decide +kernel) ?_) | (with_reducible (first | refine go_dput ?_ | refine go_setD ?_)) | ((with_reducible refine' go_gtup ?hp ?ha ?_); (case hp => walk_at "lw_hp"); (case ha => first | rfl | assumption)) | (with_reducible refine go_if ?_) | ((with_reducible refine' go_setL ?hp ?ha ?_); (case hp => walk_at "lw_hp"); (case ha => first | rfl | assumption)) | (with_reducible (first | refine go_not ?_ | refine go_or ?_ | refine go_andV ?_ | refine go_sl ?_ | refine go_nopart ?_ | refine go_part ?_ | refine go_qI ?_ | refine' go_lenLs (by assumption) ?_)) | ((with_reducible refine' go_lenL ?hp ?_); (case hp => walk_at "lw_hp")) | ((with_reducible refine' go_lenT ?hp ?_); (case hp => walk_at "lw_hp")) | ((with_reducible refine' go_inT ?hp ?ha ?hb ?_); (case hp => walk_at "lw_hp"); (case ha => rfl); (case hb => rfl)) | ((with_reducible refine' go_notInT ?hp ?ha ?hb ?_); (case hp => walk_at "lw_hp"); (case ha => rfl); (case hb => rfl)) | (with_reducible (first | refine go_pnil ?_ | refine go_pcons ?_ | refine go_un ?_ | refine go_u ?_ | refine go_for ?_ | refine go_rng1 ?_ | refine go_qrng1 (by omega) (by omega) ?_ | refine go_notN_non ?_ | refine go_notN_int ?_ | refine go_notN_str ?_ | refine go_notN_bl ?_ | refine go_notN_ref ?_ | refine go_min ?_ | refine go_bm ?_ | refine go_lc ?_)) | ((with_reducible refine' go_qbm ?hp ?_); (case hp => walk_at "lw_hp")) | (with_reducible (first | refine go_int ?_ | refine go_intB ?_ | refine go_yes ?_ | refine go_and ?_ | refine go_notV ?_ | refine go_iL ?_)) | ((with_reducible refine' go_glst ?hp ?ha ?_); (case hp => walk_at "lw_hp"); (case ha => first | rfl | assumption)) | ((with_reducible refine' go_qiL ?hp ?_); (case hp => walk_at "lw_hp")) | (with_reducible (first | refine go_par ?_ | refine go_gpar ?_ | refine go_isN_non ?_ | refine go_isN_int ?_ | refine go_isN_str ?_ | refine go_isN_bl ?_ | refine go_isN_ref ?_ | refine go_neI ?_ | refine go_neS ?_ | refine go_neB ?_ | refine go_iT ?_ | refine go_ne (by rfl) ?_)) | ((with_reducible refine' go_ixAL ?hp ?ha ?_); (case hp => walk_at "lw_hp"); (case ha => first | rfl | assumption)) | ((with_reducible refine' go_ixAT ?hp ?ha ?_); (case hp => walk_at "lw_hp"); (case ha => first | rfl | assumption)) | ((with_reducible refine' go_qiT ?hp ?_); (case hp => walk_at "lw_hp")) | (with_reducible (first | refine go_is_non_int ?_ | refine go_is_non_bool ?_ | refine go_is_non_str ?_ | refine go_is_non_tuple ?_ | refine go_is_non_list ?_ | refine go_is_bl_int ?_ | refine go_is_bl_bool ?_ | refine go_is_bl_str ?_ | refine go_is_bl_tuple ?_ | refine go_is_bl_list ?_ | refine go_is_int_int ?_ | refine go_is_int_bool ?_ | refine go_is_int_str ?_ | refine go_is_int_tuple ?_ | refine go_is_int_list ?_ | refine go_is_str_int ?_ | refine go_is_str_bool ?_ | refine go_is_str_str ?_ | refine go_is_str_tuple ?_ | refine go_is_str_list ?_)) | ((with_reducible refine' go_is_lst_int ?hp ?_); (case hp => walk_at "lw_hp")) | ((with_reducible refine' go_is_lst_bool ?hp ?_); (case hp => walk_at "lw_hp")) | ((with_reducible refine' go_is_lst_str ?hp ?_); (case hp => walk_at "lw_hp")) | ((with_reducible refine' go_is_lst_tuple ?hp ?_); (case hp => walk_at "lw_hp")) | ((with_reducible refine' go_is_lst_list ?hp ?_); (case hp => walk_at "lw_hp")) | ((with_reducible refine' go_is_tup_int ?hp ?_); (case hp => walk_at "lw_hp")) | ((with_reducible refine' go_is_tup_bool ?hp ?_); (case hp => walk_at "lw_hp")) | ((with_reducible refine' go_is_tup_str ?hp ?_); (case hp => walk_at "lw_hp")) | ((with_reducible refine' go_is_tup_tuple ?hp ?_); (case hp => walk_at "lw_hp")) | ((with_reducible refine' go_is_tup_list ?hp ?_); (case hp => walk_at "lw_hp")) | (with_reducible (first | refine go_max ?_ | refine go_bm0 ?_ | refine go_chain ?_ | refine go_qch ?_)) | ((with_reducible refine' go_qbm0 ?hp ?_); (case hp => walk_at "lw_hp")) | (with_reducible (first | refine go_retN ?_ | refine go_orV ?_ | refine go_whQ ?_ | refine go_rng2 ?_ | refine go_qrng2 (by omega) (by omega) (by omega) (by omega) ?_ | refine go_rvr ?_ | refine go_qrvr (by omega) (by omega) ?_ | refine go_enum ?_ | refine go_aug rfl ?_ | refine go_ipI ?_)) | ((with_reducible refine' go_qenum ?hp ?_); (case hp => walk_at "lw_hp")) | ((with_reducible refine' go_sumL ?hp ?_); (case hp => walk_at "lw_hp")))))
local macro_rules | `(tactic| walk_at "lw_goc") => `(tactic| (repeat (first | (with_reducible (first | refine go_var rfl ?_ | refine go_c ?_ | refine go_cons ?_ | refine go_op ?_ | refine go_nil ?_ | refine go_seq ?_ | refine go_qb ?_ | refine go_test ?_ | refine go_ifS ?_ | refine go_gname ?_ | refine go_cb ?_)) | ((with_reducible refine' go_ixT ?hp ?ha ?_); (case hp => walk_at "lw_hp"); (case ha => first | rfl | assumption)) | (with_reducible (first | refine go_asg ?_ | refine go_callC ?_ | refine go_next ?_ | refine go_tup ?_ | refine go_i0 ?_ | refine go_ret ?_ | refine go_dget ?_)) | ((with_reducible show qFld _ _ _ _ _); (first | ((with_reducible refine' ig_row (by assumption) ?hp ?_); (case hp => walk_at "lw_hp")) | ((with_reducible refine' ig_names (by assumption) ?hp ?_); (case hp => walk_at "lw_hp")) | ((with_reducible refine' ig_taken (by assumption) ?hp ?_); (case hp => walk_at "lw_hp")) | ((with_reducible refine' ig_done (by assumption) ?hp ?_); (case hp => walk_at "lw_hp")) | ((with_reducible refine' ig_letters (by assumption) ?hp ?_); (case hp => walk_at "lw_hp")) | ((with_reducible refine' cg_follows (by assumption) ?hp ?_); (case hp => walk_at "lw_hp")) | ((with_reducible refine' cg_fault (by assumption) ?hp ?_); (case hp => walk_at "lw_hp")) | ((with_reducible refine' cg_name (by assumption) ?hp ?_); (case hp => walk_at "lw_hp")) | ((with_reducible refine' cg_worth (by assumption) ?hp ?_); (case hp => walk_at "lw_hp")) | ((with_reducible refine' cg_takes (by assumption) ?hp ?_); (case hp => walk_at "lw_hp")) | ((with_reducible refine' cg_file (by assumption) ?hp ?_); (case hp => walk_at "lw_hp")) | ((with_reducible refine' cg_numbers (by assumption) ?hp ?_); (case hp => walk_at "lw_hp")) | ((with_reducible refine' cg_letter (by assumption) ?hp ?_); (case hp => walk_at "lw_hp")))) | (with_reducible (first | refine go_fld ?_ | refine go_gcons ?_)) | ((with_reducible show qSFld _ _ _ _ _ _); (first | ((with_reducible refine' is_row (by assumption) ?hp ?_); (case hp => walk_at "lw_hp")) | ((with_reducible refine' is_names (by assumption) ?hp ?_); (case hp => walk_at "lw_hp")) | ((with_reducible refine' is_taken (by assumption) ?hp ?_); (case hp => walk_at "lw_hp")) | ((with_reducible refine' is_done (by assumption) ?hp ?_); (case hp => walk_at "lw_hp")) | ((with_reducible refine' is_letters (by assumption) ?hp ?_); (case hp => walk_at "lw_hp")) | ((with_reducible refine' cs_follows (by assumption) ?hp ?_); (case hp => walk_at "lw_hp")) | ((with_reducible refine' cs_fault (by assumption) ?hp ?_); (case hp => walk_at "lw_hp")) | ((with_reducible refine' cs_name (by assumption) ?hp ?_); (case hp => walk_at "lw_hp")) | ((with_reducible refine' cs_worth (by assumption) ?hp ?_); (case hp => walk_at "lw_hp")) | ((with_reducible refine' cs_takes (by assumption) ?hp ?_); (case hp => walk_at "lw_hp")) | ((with_reducible refine' cs_file (by assumption) ?hp ?_); (case hp => walk_at "lw_hp")) | ((with_reducible refine' cs_numbers (by assumption) ?hp ?_); (case hp => walk_at "lw_hp")) | ((with_reducible refine' cs_letter (by assumption) ?hp ?_); (case hp => walk_at "lw_hp")))) | (with_reducible (first | refine go_gsub ?_ | refine go_testB ?_ | refine go_sfld ?_)) | ((with_reducible refine' go_ixL ?hp ?ha ?_); (case hp => walk_at "lw_hp"); (case ha => first | rfl | assumption)) | (with_reducible (first | refine' go_ixLs (by assumption) (by assumption) ?_ | refine go_lst ?_)) | ((with_reducible refine' go_i ?cc ?_); (case cc => first | omega | (simp only [CDiv, CMul, CPow]; omega) | (simp only [CDiv, CMul, CPow]; decide))) | (with_reducible refine go_drop ?_) | ((with_reducible show qMeth _ _ _ _ _); (first | ((with_reducible refine' im_follow ?hp ?_); (case hp => walk_at "lw_hp")) | ((with_reducible refine' im_twin ?hp ?_); (case hp => walk_at "lw_hp")) | ((with_reducible refine' cm_hold ?hp ?_); (case hp => walk_at "lw_hp")) | ((with_reducible refine' cm_fill ?hp ?_); (case hp => walk_at "lw_hp")))) | (with_reducible (first | refine go_eqI ?_ | refine go_eqS ?_ | refine go_eqB ?_ | refine go_eq (by rfl) ?_ | refine go_gnil ?_ | refine go_iteT ?_ | refine go_iteF ?_ | refine go_iteNt ?_ | refine go_iteNf ?_ | refine go_iteNN ?_)) | (with_reducible refine go_iteDT (by first | assumption | rfl | omega | (simp only [List.length_cons, List.length_nil, List.length_map]; omega)) ?_) | (with_reducible refine go_iteDF (by first | assumption | omega | decide | decide +kernel | (simp only [List.length_cons, List.length_nil, List.length_map]; omega)) ?_) | (with_reducible refine go_iteNT (by first | assumption | rfl | omega | (simp only [List.length_cons, List.length_nil, List.length_map]; omega)) ?_) | (with_reducible refine go_iteNF (by first | assumption | omega | decide | decide +kernel | (simp only [List.length_cons, List.length_nil, List.length_map]; omega)) ?_) | (with_reducible refine go_iteBT (by first | assumption | decide +kernel) ?_) | (with_reducible refine go_iteBF (by first | assumption | decide +kernel) ?_) | (with_reducible (first | refine go_dput ?_ | refine go_setD ?_)) | ((with_reducible refine' go_gtup ?hp ?ha ?_); (case hp => walk_at "lw_hp"); (case ha => first | rfl | assumption)) | (with_reducible refine go_if ?_) | ((with_reducible refine' go_setL ?hp ?ha ?_); (case hp => walk_at "lw_hp"); (case ha => first | rfl | assumption)) | (with_reducible (first | refine go_not ?_ | refine go_or ?_ | refine go_andV ?_)) | ((with_reducible show qFA _ _ _ _ _ _ _ _); (first | ((with_reducible refine' ia_row (by assumption) ?hp ?_); (case hp => walk_at "lw_hp")) | ((with_reducible refine' ia_names (by assumption) ?hp ?_); (case hp => walk_at "lw_hp")) | ((with_reducible refine' ia_taken (by assumption) ?hp ?_); (case hp => walk_at "lw_hp")) | ((with_reducible refine' ia_done (by assumption) ?hp ?_); (case hp => walk_at "lw_hp")) | ((with_reducible refine' ia_letters (by assumption) ?hp ?_); (case hp => walk_at "lw_hp")) | ((with_reducible refine' ca_follows (by assumption) ?hp ?_); (case hp => walk_at "lw_hp")) | ((with_reducible refine' ca_fault (by assumption) ?hp ?_); (case hp => walk_at "lw_hp")) | ((with_reducible refine' ca_name (by assumption) ?hp ?_); (case hp => walk_at "lw_hp")) | ((with_reducible refine' ca_worth (by assumption) ?hp ?_); (case hp => walk_at "lw_hp")) | ((with_reducible refine' ca_takes (by assumption) ?hp ?_); (case hp => walk_at "lw_hp")) | ((with_reducible refine' ca_file (by assumption) ?hp ?_); (case hp => walk_at "lw_hp")) | ((with_reducible refine' ca_numbers (by assumption) ?hp ?_); (case hp => walk_at "lw_hp")) | ((with_reducible refine' ca_letter (by assumption) ?hp ?_); (case hp => walk_at "lw_hp")))) | ((with_reducible show qFB _ _ _ _ _ _); (first | ((with_reducible refine' ib_row ?hp ?_); (case hp => walk_at "lw_hp")) | ((with_reducible refine' ib_names ?hp ?_); (case hp => walk_at "lw_hp")) | ((with_reducible refine' ib_taken ?hp ?_); (case hp => walk_at "lw_hp")) | ((with_reducible refine' ib_done ?hp ?_); (case hp => walk_at "lw_hp")) | ((with_reducible refine' ib_letters ?hp ?_); (case hp => walk_at "lw_hp")) | ((with_reducible refine' cb_follows ?hp ?_); (case hp => walk_at "lw_hp")) | ((with_reducible refine' cb_fault ?hp ?_); (case hp => walk_at "lw_hp")) | ((with_reducible refine' cb_name ?hp ?_); (case hp => walk_at "lw_hp")) | ((with_reducible refine' cb_worth ?hp ?_); (case hp => walk_at "lw_hp")) | ((with_reducible refine' cb_takes ?hp ?_); (case hp => walk_at "lw_hp")) | ((with_reducible refine' cb_file ?hp ?_); (case hp => walk_at "lw_hp")) | ((with_reducible refine' cb_numbers ?hp ?_); (case hp => walk_at "lw_hp")) | ((with_reducible refine' cb_letter ?hp ?_); (case hp => walk_at "lw_hp")))) | (with_reducible (first | refine go_sl ?_ | refine go_nopart ?_ | refine go_part ?_ | refine go_qI ?_ | refine' go_lenLs (by assumption) ?_)) | ((with_reducible refine' go_lenL ?hp ?_); (case hp => walk_at "lw_hp")) | ((with_reducible refine' go_lenT ?hp ?_); (case hp => walk_at "lw_hp")) | ((with_reducible refine' go_inT ?hp ?ha ?hb ?_); (case hp => walk_at "lw_hp"); (case ha => rfl); (case hb => rfl)) | ((with_reducible refine' go_notInT ?hp ?ha ?hb ?_); (case hp => walk_at "lw_hp"); (case ha => rfl); (case hb => rfl)) | (with_reducible (first | refine go_sfa ?_ | refine go_radd ?_ | refine go_pnil ?_ | refine go_pcons ?_ | refine go_un ?_ | refine go_u ?_ | refine go_for ?_ | refine go_rng1 ?_ | refine go_qrng1 (by omega) (by omega) ?_ | refine go_methC ?_ | refine go_notN_non ?_ | refine go_notN_int ?_ | refine go_notN_str ?_ | refine go_notN_bl ?_ | refine go_notN_ref ?_ | refine go_min ?_ | refine go_bm ?_ | refine go_lc ?_)) | ((with_reducible refine' go_qbm ?hp ?_); (case hp => walk_at "lw_hp")) | (with_reducible (first | refine go_int ?_ | refine go_intB ?_ | refine go_yes ?_ | refine go_and ?_ | refine go_notV ?_ | refine go_iL ?_)) | ((with_reducible refine' go_glst ?hp ?ha ?_); (case hp => walk_at "lw_hp"); (case ha => first | rfl | assumption)) | ((with_reducible refine' go_qiL ?hp ?_); (case hp => walk_at "lw_hp")) | (with_reducible (first | refine go_dgetK ?_ | refine go_par ?_ | refine go_gpar ?_ | refine go_isN_non ?_ | refine go_isN_int ?_ | refine go_isN_str ?_ | refine go_isN_bl ?_ | refine go_isN_ref ?_ | refine go_neI ?_ | refine go_neS ?_ | refine go_neB ?_ | refine go_iT ?_ | refine go_ne (by rfl) ?_)) | ((with_reducible refine' go_ixAL ?hp ?ha ?_); (case hp => walk_at "lw_hp"); (case ha => first | rfl | assumption)) | ((with_reducible refine' go_ixAT ?hp ?ha ?_); (case hp => walk_at "lw_hp"); (case ha => first | rfl | assumption)) | ((with_reducible refine' go_qiT ?hp ?_); (case hp => walk_at "lw_hp")) | (with_reducible (first | refine go_makeC ?_ | refine go_is_non_int ?_ | refine go_is_non_bool ?_ | refine go_is_non_str ?_ | refine go_is_non_tuple ?_ | refine go_is_non_list ?_ | refine go_is_bl_int ?_ | refine go_is_bl_bool ?_ | refine go_is_bl_str ?_ | refine go_is_bl_tuple ?_ | refine go_is_bl_list ?_ | refine go_is_int_int ?_ | refine go_is_int_bool ?_ | refine go_is_int_str ?_ | refine go_is_int_tuple ?_ | refine go_is_int_list ?_ | refine go_is_str_int ?_ | refine go_is_str_bool ?_ | refine go_is_str_str ?_ | refine go_is_str_tuple ?_ | refine go_is_str_list ?_)) | ((with_reducible refine' go_is_lst_int ?hp ?_); (case hp => walk_at "lw_hp")) | ((with_reducible refine' go_is_lst_bool ?hp ?_); (case hp => walk_at "lw_hp")) | ((with_reducible refine' go_is_lst_str ?hp ?_); (case hp => walk_at "lw_hp")) | ((with_reducible refine' go_is_lst_tuple ?hp ?_); (case hp => walk_at "lw_hp")) | ((with_reducible refine' go_is_lst_list ?hp ?_); (case hp => walk_at "lw_hp")) | ((with_reducible refine' go_is_tup_int ?hp ?_); (case hp => walk_at "lw_hp")) | ((with_reducible refine' go_is_tup_bool ?hp ?_); (case hp => walk_at "lw_hp")) | ((with_reducible refine' go_is_tup_str ?hp ?_); (case hp => walk_at "lw_hp")) | ((with_reducible refine' go_is_tup_tuple ?hp ?_); (case hp => walk_at "lw_hp")) | ((with_reducible refine' go_is_tup_list ?hp ?_); (case hp => walk_at "lw_hp")) | (with_reducible (first | refine go_max ?_ | refine go_bm0 ?_ | refine go_chain ?_ | refine go_qch ?_)) | ((with_reducible refine' go_qbm0 ?hp ?_); (case hp => walk_at "lw_hp")) | (with_reducible (first | refine go_dinK ?_ | refine go_enumT ?_ | refine go_zipT ?_ | refine go_retN ?_ | refine go_orV ?_ | refine go_whQ ?_ | refine go_rng2 ?_ | refine go_qrng2 (by omega) (by omega) (by omega) (by omega) ?_ | refine go_rvr ?_ | refine go_qrvr (by omega) (by omega) ?_ | refine go_enum ?_ | refine go_aug rfl ?_ | refine go_ipI ?_)) | ((with_reducible refine' go_qenum ?hp ?_); (case hp => walk_at "lw_hp")) | ((with_reducible refine' go_sumL ?hp ?_); (case hp => walk_at "lw_hp")) | (with_reducible refine go_tru ?_))))
local macro_rules | `(tactic| walk_at "lw_goi") => `(tactic| (repeat (first | (with_reducible (first | refine go_var rfl ?_ | refine go_c ?_ | refine go_cons ?_ | refine go_op ?_ | refine go_nil ?_ | refine go_seq ?_ | refine go_qb ?_ | refine go_test ?_ | refine go_ifS ?_ | refine go_gname ?_ | refine go_cb ?_)) | ((with_reducible refine' go_ixT ?hp ?ha ?_); (case hp => walk_at "lw_hp"); (case ha => first | rfl | assumption)) | (with_reducible (first | refine go_asg ?_ | refine go_callC ?_ | refine go_next ?_ | refine go_tup ?_ | refine go_i0 ?_ | refine go_ret ?_ | refine go_dget ?_ | refine go_fld ?_ | refine go_gcons ?_)) | ((with_reducible show qSFld _ _ _ _ _ _); (first | ((with_reducible refine' in_row (by assumption) ?hp ?_); (case hp => walk_at "lw_hp")) | ((with_reducible refine' in_names (by assumption) ?hp ?_); (case hp => walk_at "lw_hp")) | ((with_reducible refine' in_taken (by assumption) ?hp ?_); (case hp => walk_at "lw_hp")) | ((with_reducible refine' in_done (by assumption) ?hp ?_); (case hp => walk_at "lw_hp")) | ((with_reducible refine' in_letters (by assumption) ?hp ?_); (case hp => walk_at "lw_hp")) | ((with_reducible refine' cn_follows (by assumption) ?hp ?_); (case hp => walk_at "lw_hp")) | ((with_reducible refine' cn_fault (by assumption) ?hp ?_); (case hp => walk_at "lw_hp")) | ((with_reducible refine' cn_name (by assumption) ?hp ?_); (case hp => walk_at "lw_hp")) | ((with_reducible refine' cn_worth (by assumption) ?hp ?_); (case hp => walk_at "lw_hp")) | ((with_reducible refine' cn_takes (by assumption) ?hp ?_); (case hp => walk_at "lw_hp")) | ((with_reducible refine' cn_file (by assumption) ?hp ?_); (case hp => walk_at "lw_hp")) | ((with_reducible refine' cn_numbers (by assumption) ?hp ?_); (case hp => walk_at "lw_hp")) | ((with_reducible refine' cn_letter (by assumption) ?hp ?_); (case hp => walk_at "lw_hp")) | ((with_reducible refine' dn_row (by assumption) ?hp ?_); (case hp => walk_at "lw_hp")) | ((with_reducible refine' dn_change (by assumption) ?hp ?_); (case hp => walk_at "lw_hp")) | ((with_reducible refine' dn_was (by assumption) ?hp ?_); (case hp => walk_at "lw_hp")) | ((with_reducible refine' dn_done (by assumption) ?hp ?_); (case hp => walk_at "lw_hp")) | ((with_reducible refine' wn_rows (by assumption) ?hp ?_); (case hp => walk_at "lw_hp")) | ((with_reducible refine' wn_handed (by assumption) ?hp ?_); (case hp => walk_at "lw_hp")) | ((with_reducible refine' wn_way (by assumption) ?hp ?_); (case hp => walk_at "lw_hp")) | ((with_reducible refine' wn_often (by assumption) ?hp ?_); (case hp => walk_at "lw_hp")) | ((with_reducible refine' wn_disk (by assumption) ?hp ?_); (case hp => walk_at "lw_hp")) | ((with_reducible refine' wn_out (by assumption) ?hp ?_); (case hp => walk_at "lw_hp")) | ((with_reducible refine' wn_mark (by assumption) ?hp ?_); (case hp => walk_at "lw_hp")) | ((with_reducible refine' wn_notes (by assumption) ?hp ?_); (case hp => walk_at "lw_hp")) | ((with_reducible refine' wn_ending (by assumption) ?hp ?_); (case hp => walk_at "lw_hp")) | ((with_reducible refine' wn_all_done (by assumption) ?hp ?_); (case hp => walk_at "lw_hp")) | ((with_reducible refine' wn_inside (by assumption) ?hp ?_); (case hp => walk_at "lw_hp")) | ((with_reducible refine' wn_ahead (by assumption) ?hp ?_); (case hp => walk_at "lw_hp")) | ((with_reducible refine' wn_about (by assumption) ?hp ?_); (case hp => walk_at "lw_hp")) | ((with_reducible refine' wn_letter_out (by assumption) ?hp ?_); (case hp => walk_at "lw_hp")))) | (with_reducible (first | refine go_gsub ?_ | refine go_testB ?_ | refine go_sfld ?_)) | ((with_reducible refine' go_ixL ?hp ?ha ?_); (case hp => walk_at "lw_hp"); (case ha => first | rfl | assumption)) | (with_reducible (first | refine' go_ixLs (by assumption) (by assumption) ?_ | refine go_lst ?_)) | ((with_reducible refine' go_i ?cc ?_); (case cc => first | omega | (simp only [CDiv, CMul, CPow]; omega) | (simp only [CDiv, CMul, CPow]; decide))) | (with_reducible (first | refine go_drop ?_ | refine go_eqI ?_ | refine go_eqS ?_ | refine go_eqB ?_ | refine go_eq (by rfl) ?_ | refine go_gnil ?_ | refine go_iteT ?_ | refine go_iteF ?_ | refine go_iteNt ?_ | refine go_iteNf ?_ | refine go_iteNN ?_)) | (with_reducible refine go_iteDT (by first | assumption | rfl | omega | (simp only [List.length_cons, List.length_nil, List.length_map]; omega)) ?_) | (with_reducible refine go_iteDF (by first | assumption | omega | decide | decide +kernel | (simp only [List.length_cons, List.length_nil, List.length_map]; omega)) ?_) | (with_reducible refine go_iteNT (by first | assumption | rfl | omega | (simp only [List.length_cons, List.length_nil, List.length_map]; omega)) ?_) | (with_reducible refine go_iteNF (by first | assumption | omega | decide | decide +kernel | (simp only [List.length_cons, List.length_nil, List.length_map]; omega)) ?_) | (with_reducible refine go_iteBT (by first | assumption | decide +kernel) ?_) | (with_reducible refine go_iteBF (by first | assumption | decide +kernel) ?_) | (with_reducible (first | refine go_dput ?_ | refine go_setD ?_)) | ((with_reducible refine' go_gtup ?hp ?ha ?_); (case hp => walk_at "lw_hp"); (case ha => first | rfl | assumption)) | (with_reducible refine go_if ?_) | ((with_reducible refine' go_setL ?hp ?ha ?_); (case hp => walk_at "lw_hp"); (case ha => first | rfl | assumption)) | (with_reducible (first | refine go_not ?_ | refine go_or ?_ | refine go_andV ?_ | refine go_sl ?_ | refine go_nopart ?_ | refine go_part ?_ | refine go_qI ?_ | refine' go_lenLs (by assumption) ?_)) | ((with_reducible refine' go_lenL ?hp ?_); (case hp => walk_at "lw_hp")) | ((with_reducible refine' go_lenT ?hp ?_); (case hp => walk_at "lw_hp")) | ((with_reducible refine' go_inT ?hp ?ha ?hb ?_); (case hp => walk_at "lw_hp"); (case ha => rfl); (case hb => rfl)) | ((with_reducible refine' go_notInT ?hp ?ha ?hb ?_); (case hp => walk_at "lw_hp"); (case ha => rfl); (case hb => rfl)) | (with_reducible (first | refine go_sfa ?_ | refine go_radd ?_ | refine go_pnil ?_ | refine go_pcons ?_ | refine go_un ?_ | refine go_u ?_ | refine go_for ?_ | refine go_rng1 ?_ | refine go_qrng1 (by omega) (by omega) ?_ | refine go_methC ?_ | refine go_notN_non ?_ | refine go_notN_int ?_ | refine go_notN_str ?_ | refine go_notN_bl ?_ | refine go_notN_ref ?_ | refine go_min ?_ | refine go_bm ?_ | refine go_lc ?_)) | ((with_reducible refine' go_qbm ?hp ?_); (case hp => walk_at "lw_hp")) | (with_reducible (first | refine go_int ?_ | refine go_intB ?_ | refine go_yes ?_ | refine go_and ?_ | refine go_notV ?_ | refine go_iL ?_)) | ((with_reducible refine' go_glst ?hp ?ha ?_); (case hp => walk_at "lw_hp"); (case ha => first | rfl | assumption)) | ((with_reducible refine' go_qiL ?hp ?_); (case hp => walk_at "lw_hp")) | (with_reducible (first | refine go_dgetK ?_ | refine go_par ?_ | refine go_gpar ?_ | refine go_isN_non ?_ | refine go_isN_int ?_ | refine go_isN_str ?_ | refine go_isN_bl ?_ | refine go_isN_ref ?_ | refine go_neI ?_ | refine go_neS ?_ | refine go_neB ?_ | refine go_iT ?_ | refine go_ne (by rfl) ?_)) | ((with_reducible refine' go_ixAL ?hp ?ha ?_); (case hp => walk_at "lw_hp"); (case ha => first | rfl | assumption)) | ((with_reducible refine' go_ixAT ?hp ?ha ?_); (case hp => walk_at "lw_hp"); (case ha => first | rfl | assumption)) | ((with_reducible refine' go_qiT ?hp ?_); (case hp => walk_at "lw_hp")) | (with_reducible (first | refine go_makeC ?_ | refine go_is_non_int ?_ | refine go_is_non_bool ?_ | refine go_is_non_str ?_ | refine go_is_non_tuple ?_ | refine go_is_non_list ?_ | refine go_is_bl_int ?_ | refine go_is_bl_bool ?_ | refine go_is_bl_str ?_ | refine go_is_bl_tuple ?_ | refine go_is_bl_list ?_ | refine go_is_int_int ?_ | refine go_is_int_bool ?_ | refine go_is_int_str ?_ | refine go_is_int_tuple ?_ | refine go_is_int_list ?_ | refine go_is_str_int ?_ | refine go_is_str_bool ?_ | refine go_is_str_str ?_ | refine go_is_str_tuple ?_ | refine go_is_str_list ?_)) | ((with_reducible refine' go_is_lst_int ?hp ?_); (case hp => walk_at "lw_hp")) | ((with_reducible refine' go_is_lst_bool ?hp ?_); (case hp => walk_at "lw_hp")) | ((with_reducible refine' go_is_lst_str ?hp ?_); (case hp => walk_at "lw_hp")) | ((with_reducible refine' go_is_lst_tuple ?hp ?_); (case hp => walk_at "lw_hp")) | ((with_reducible refine' go_is_lst_list ?hp ?_); (case hp => walk_at "lw_hp")) | ((with_reducible refine' go_is_tup_int ?hp ?_); (case hp => walk_at "lw_hp")) | ((with_reducible refine' go_is_tup_bool ?hp ?_); (case hp => walk_at "lw_hp")) | ((with_reducible refine' go_is_tup_str ?hp ?_); (case hp => walk_at "lw_hp")) | ((with_reducible refine' go_is_tup_tuple ?hp ?_); (case hp => walk_at "lw_hp")) | ((with_reducible refine' go_is_tup_list ?hp ?_); (case hp => walk_at "lw_hp")) | (with_reducible (first | refine go_max ?_ | refine go_bm0 ?_ | refine go_chain ?_ | refine go_qch ?_)) | ((with_reducible refine' go_qbm0 ?hp ?_); (case hp => walk_at "lw_hp")) | (with_reducible (first | refine go_dinK ?_ | refine go_enumT ?_ | refine go_zipT ?_ | refine go_retN ?_ | refine go_orV ?_ | refine go_whQ ?_ | refine go_rng2 ?_ | refine go_qrng2 (by omega) (by omega) (by omega) (by omega) ?_ | refine go_rvr ?_ | refine go_qrvr (by omega) (by omega) ?_ | refine go_enum ?_ | refine go_aug rfl ?_ | refine go_ipI ?_)) | ((with_reducible refine' go_qenum ?hp ?_); (case hp => walk_at "lw_hp")) | ((with_reducible refine' go_sumL ?hp ?_); (case hp => walk_at "lw_hp")) | (with_reducible refine go_tru ?_))))
abbrev s_comes_to : Stmt := top 26
abbrev s_Inside___init__ : Stmt := inClass (top 24) 0
abbrev s_Inside_follow : Stmt := inClass (top 24) 1
abbrev s_Change___init__ : Stmt := inClass (top 25) 0
abbrev s_Change_hold : Stmt := inClass (top 25) 1
abbrev s_Change_fill : Stmt := inClass (top 25) 2
def spComes (n : Nat) : Sp := fun vs H Q _ => ∃ (v : V) (nl : Addr) (p : Part) (ns : List Int) (nm : Int), vs = [v, .ref nl] ∧ PartAt H p v ∧ p.ok nm n ∧ H nl = some (.lst (ns.map V.int)) ∧ ns.length = nm.toNat ∧ Q (.int (p.val ns)) H
section
variable {P : Program} {w : World} {K : PySem.W.Frag} {mg : Str → Option Value} {base : Heap} {f : Addr} {fd : FuncData} {cI cC dP dL : Addr}
theorem scs_comes_to : FnScope ["part", "names", "word", "one", "other"] ["part", "names"] (defScope s_comes_to) := ⟨rfl, rfl, rfl, by decide +kernel, rfl, by decide +kernel, by decide +kernel⟩
theorem ok_comes {n : Nat} (F : Fun K "comes_to" "comes_to" s_comes_to f fd) (T : Txt mg) (C_comes_to : FnC P w K mg base (n + 1) "comes_to" ["part", "names"] (spComes n)) : FnOk P w K mg base CX0 (n + 2) f fd ["part", "names"] (spComes (n + 1)) := by
  refine F.ok scs_comes_to (fun vs H Q E h => ?_) (fun cdv A outer s H vs Q E hr h => ?_)
  · obtain ⟨v, nl, p, ns, nm, rfl, _⟩ := h
    rfl
  obtain ⟨v, nl, p, ns, nm, rfl, hp, hk, hn, hl, k⟩ := h
  have nd := scs_comes_to.nd
  have hu := hu_of hr
  refine ⟨_, (pss_cons (ps_set (i := 2) nd rfl (Or.inl rfl) (pe_ix (kIxT K) (pv 0) pe_int (fun _ _ => rfl)))
      (pss_cons (ps_if (pt_cmpR op_eq (pv 2) pe_str (nomark _)) (pss_one (ps_ret (pe_ix (kIxT K) (pv 0) pe_int (fun _ _ => rfl)))) pss_nil)
      (pss_cons (ps_if (pt_cmpR op_eq (pv 2) pe_str (nomark _)) (pss_one (ps_ret (pe_ix (kIxL K) (pv 1) (pe_ix (kIxT K) (pv 0) pe_int (fun _ _ => rfl)) (fun _ _ => rfl)))) pss_nil)
      (pss_cons (ps_set (i := 3) nd rfl (Or.inl rfl) (pe_callC C_comes_to (hr.mono (by omega)) (by rfl) (pa_cons (pe_ix (kIxT K) (pv 0) pe_int (fun _ _ => rfl)) (pa_cons (pv 1) pa_nil))))
      (pss_cons (ps_set (i := 4) nd rfl (Or.inl rfl) (pe_callC C_comes_to (hr.mono (by omega)) (by rfl) (pa_cons (pe_ix (kIxT K) (pv 0) pe_int (fun _ _ => rfl)) (pa_cons (pv 1) pa_nil))))
      (pss_cons (ps_if (pt_cmpR op_eq (pv 2) pe_str (nomark _)) (pss_one (ps_ret (pe_op op_mod (pe_op op_add (pv 3) (pv 4)) (pe_gint (by rfl) T.g_REST)))) pss_nil)
      (pss_cons (ps_if (pt_cmpR op_eq (pv 2) pe_str (nomark _)) (pss_one (ps_ret (pe_op op_mod (pe_op op_sub (pv 3) (pv 4)) (pe_gint (by rfl) T.g_REST)))) pss_nil)
      (pss_one (ps_ret (pe_ifExp (pt_cmpR op_lt (pv 3) (pv 4) (nomark _)) pe_int pe_int)))))))))), ?_⟩
  cases p with
  | num z =>
    obtain ⟨a, rfl, ha⟩ := hp
    walk_at "lw_go"
    exact k
  | name z =>
    obtain ⟨a, rfl, ha⟩ := hp
    have hz : 0 ≤ z ∧ z < nm := hk
    have hat : atI (ns.map V.int) z = some (.int (ns.getD z.toNat 0)) := at_num hz.1 (by omega)
    walk_at "lw_go"
    exact k
  | op o x y =>
    obtain ⟨a, u, v', rfl, ha, hx, hy⟩ := hp
    cases o with
    | less =>
      have hat : atI [V.str Op3.less.str, u, v'] 0 = some (.str "less") := rfl
      walk_at "lw_go"
      refine ⟨_, nl, x, ns, nm, rfl, hx, hk.1, hn, hl, ?_⟩
      walk_at "lw_go"
      refine ⟨_, nl, y, ns, nm, rfl, hy, hk.2, hn, hl, ?_⟩
      walk_at "lw_go"
      refine go_iteD (fun c => ?_) (fun c => ?_)
      · walk_at "lw_go"
        rw [show Part.val ns (.op .less x y) = 1 from if_pos c] at k
        exact k
      · walk_at "lw_go"
        rw [show Part.val ns (.op .less x y) = 0 from if_neg c] at k
        exact k
    | sum =>
      have hat : atI [V.str Op3.sum.str, u, v'] 0 = some (.str "sum") := rfl
      walk_at "lw_go"
      refine ⟨_, nl, x, ns, nm, rfl, hx, hk.1, hn, hl, ?_⟩
      walk_at "lw_go"
      refine ⟨_, nl, y, ns, nm, rfl, hy, hk.2, hn, hl, ?_⟩
      walk_at "lw_go"
      exact k
    | diff =>
      have hat : atI [V.str Op3.diff.str, u, v'] 0 = some (.str "diff") := rfl
      walk_at "lw_go"
      refine ⟨_, nl, x, ns, nm, rfl, hx, hk.1, hn, hl, ?_⟩
      walk_at "lw_go"
      refine ⟨_, nl, y, ns, nm, rfl, hy, hk.2, hn, hl, ?_⟩
      walk_at "lw_go"
      exact k
theorem no_comes : FnOk P w K mg base CX0 1 f fd ["part", "names"] (spComes 0) :=
  ⟨fun vs H Q E h => by obtain ⟨v, nl, p, ns, nm, rfl, _⟩ := h; rfl, fun A outer s H args us vs Q E _ _ _ _ h => by obtain ⟨v, nl, p, ns, nm, rfl, _, hk, _⟩ := h; exact hk.elim⟩
theorem c_comes (F : Fun K "comes_to" "comes_to" s_comes_to f fd) (b : Binds K fd ["part", "names"] []) (m : mg "comes_to" = some (.ref f)) (T : Txt mg) : ∀ n : Nat, FnC P w K mg base (n + 1) "comes_to" ["part", "names"] (spComes n)
  | 0 => ⟨f, fd, no_comes, m, F.kp, b⟩
  | n + 1 => ⟨f, fd, ok_comes F T (c_comes F b m T n), m, F.kp, b⟩
theorem comes_go {H : Hp} {Q : VK} {E : XK} {v : V} {nl : Addr} {p : Part} {ns : List Int} {nm : Int} (hp : PartAt H p v) (hk : p.ok nm 3) (hn : H nl = some (.lst (ns.map V.int))) (hl : ns.length = nm.toNat) (q : Q (.int (p.val ns)) H) : spComes 3 [v, .ref nl] H Q E := ⟨v, nl, p, ns, nm, rfl, hp, hk, hn, hl, q⟩
def spIInit (cI : Addr) : Sp := fun vs H Q _ => ∃ (x dx : Addr) (nm : Int), vs = [.ref x, .int nm] ∧ H x = some (.ins cI dx []) ∧ 0 ≤ nm ∧ nm ≤ 1000 ∧
  ∀ (nl : Addr) (H' : Hp), H nl = none → InAt cI H' x nl 0 (List.replicate nm.toNat 0) 0 0 0 → Off x H H' → Q .non H'
theorem scs_Inside___init__ : FnScope ["self", "names"] ["self", "names"] (defScope s_Inside___init__) := ⟨rfl, rfl, rfl, by decide +kernel, rfl, by decide +kernel, by decide +kernel⟩
theorem ok_iinit (F : Fun K "__init__" "Inside.__init__" s_Inside___init__ f fd) (T : Txt mg) (O : Own K mg cI cC dP dL) : FnOk P w K mg base CX0 1 f fd ["self", "names"] (spIInit cI) := by
  refine F.ok scs_Inside___init__ (fun vs H Q E h => ?_) (fun cdv A outer s H vs Q E hr h => ?_)
  · obtain ⟨x, dx, nm, rfl, _⟩ := h
    rfl
  obtain ⟨x, dx, nm, rfl, hx, h0, h1, k⟩ := h
  have nd := scs_Inside___init__.nd
  have hu := hu_of hr
  have Oi := O.i
  have Oc := O.c
  refine ⟨_, (pss_cons (kSFld K (pv 0) pe_int rfl)
      (pss_cons (kSFld K (pv 0) (pe_op op_rep (pe_lst (pa_cons pe_int pa_nil)) (pv 1)) rfl)
      (pss_cons (kSFld K (pv 0) pe_int rfl)
      (pss_cons (kSFld K (pv 0) pe_int rfl)
      (pss_one (kSFld K (pv 0) pe_int rfl)))))), ?_⟩
  walk_at "lw_goi"
  refine go_qlst (Nat.le_of_ble_eq_true rfl) (fun p1 hp1 => ?_)
  walk_at "lw_goi"
  refine go_rep1 upd_same h0 h1 (fun nl hnl => ?_)
  have n1 : x ≠ p1 := ne_of_none (H := upd H x _) upd_same hp1
  have n2 : x ≠ nl := by
    intro z; subst z
    rw [upd_ne n1, upd_same] at hnl
    cases hnl
  have n3 := n2.symm
  have fnl : H nl = none := by
    have : nl ≠ p1 := by intro z; subst z; rw [upd_same] at hnl; cases hnl
    rwa [upd_ne this, upd_ne n3] at hnl
  walk_at "lw_goi"
  refine k nl _ fnl ⟨⟨dx, upd_same⟩, ?_⟩ (fun b u hb hn => ?_)
  · rw [List.map_replicate]
    rw [upd_ne n3, upd_ne n3, upd_ne n3, upd_ne n3, upd_same]
  · have b1 : b ≠ nl := ne_of_none hb fnl
    have b2 : b ≠ p1 := by
      have : H p1 = none := by rwa [upd_ne n1.symm] at hp1
      exact ne_of_none hb this
    rw [upd_ne hn, upd_ne hn, upd_ne hn, upd_ne hn, upd_ne b1, upd_ne b2, upd_ne hn]
    exact hb
def spFollow (cI cC : Addr) : Sp := fun vs H Q _ => ∃ (ip nl ch nu : Addr) (row tk dn lt : Int) (ns : List Int) (e : Chg) (fl : Int), vs = [.ref ip, .ref ch] ∧ InAt cI H ip nl row ns tk dn lt ∧ ChgAt cC H ch nu e ∧ cI ≠ cC ∧ e.In ns.length fl ∧
  ∀ H', InAt cI H' ip nl e.follows (e.names ns) (tk + e.takes) (dn + 1) (lt + if e.letter.isSome then 1 else 0) → Off2 ip nl H H' → Q .non H'
theorem scs_Inside_follow : FnScope ["self", "change"] ["self", "change"] (defScope s_Inside_follow) := ⟨rfl, rfl, rfl, by decide +kernel, rfl, by decide +kernel, by decide +kernel⟩
theorem ok_follow (F : Fun K "follow" "Inside.follow" s_Inside_follow f fd) (T : Txt mg) (O : Own K mg cI cC dP dL) : FnOk P w K mg base CX0 1 f fd ["self", "change"] (spFollow cI cC) := by
  refine F.ok scs_Inside_follow (fun vs H Q E h => ?_) (fun cdv A outer s H vs Q E hr h => ?_)
  · obtain ⟨ip, nl, ch, nu, row, tk, dn, lt, ns, e, fl, rfl, _⟩ := h
    rfl
  obtain ⟨ip, nl, ch, nu, row, tk, dn, lt, ns, e, fl, rfl, ⟨⟨dx, hi⟩, hn⟩, ⟨⟨dy, hc⟩, hnu⟩, hne, hin, k⟩ := h
  have nd := scs_Inside_follow.nd
  have hu := hu_of hr
  have Oi := O.i
  have Oc := O.c
  have n1 : ch ≠ ip := ne_of hc hi (by intro z; injection z with z; exact hne z.symm)
  have n2 := n1.symm
  have n3 : nl ≠ ip := ne_of hn hi (by intro z; cases z)
  have n4 := n3.symm
  have n5 : nl ≠ ch := ne_of hn hc (by intro z; cases z)
  have n6 := n5.symm
  refine ⟨_, (pss_cons (ps_if (pt_cmpR o_notN (kFld K (pv 1) rfl) pe_non (nomark _)) (pss_one (ps_asg (kFld K (pv 1) rfl) (pg_sub (kFld K (pv 0) rfl) (kFld K (pv 1) rfl) set_list))) pss_nil)
      (pss_cons (ps_if (pt_cmpR o_notN (kFld K (pv 1) rfl) pe_non (nomark _)) (pss_one (kFldAug K (pv 0) pe_int in_add)) pss_nil)
      (pss_cons (kFldAug K (pv 0) (kFld K (pv 1) rfl) in_add)
      (pss_cons (kSFld K (pv 0) (kFld K (pv 1) rfl) rfl)
      (pss_one (kFldAug K (pv 0) pe_int in_add)))))), ?_⟩
  obtain ⟨fo, fa, na, wo, ta, fi, nus, le⟩ := e
  rcases na with _ | n
  · rcases le with _ | z
    · replace hc : H ch = some (.ins cC dy (cF (.int fo) (optS fa) .non (.int wo) (.int ta) (optI fi) (.ref nu) .non)) := hc
      walk_at "lw_goc"
      refine k _ ⟨⟨dx, by show _ = some (HO.ins cI dx (iF (.int fo) _ _ _ (.int (lt + 0)))); rw [Int.add_zero]; exact upd_same⟩, by walk_at "lw_hp"⟩ (fun b u hb h1 h2 => by walk_at "lw_hp")
    · replace hc : H ch = some (.ins cC dy (cF (.int fo) (optS fa) .non (.int wo) (.int ta) (optI fi) (.ref nu) (.int z))) := hc
      walk_at "lw_goc"
      refine k _ ⟨⟨dx, upd_same⟩, by walk_at "lw_hp"⟩ (fun b u hb h1 h2 => by walk_at "lw_hp")
  · have hz := hin.n n rfl
    have hix : ixN (ns.map V.int).length n = some n.toNat := ixN_of hz.1 (by rw [List.length_map]; exact hz.2)
    have hset : (ns.map V.int).set n.toNat (.int wo) = (ns.set n.toNat wo).map V.int := by rw [List.map_set]
    rcases le with _ | z
    · replace hc : H ch = some (.ins cC dy (cF (.int fo) (optS fa) (.int n) (.int wo) (.int ta) (optI fi) (.ref nu) .non)) := hc
      walk_at "lw_goc"
      refine k _ ⟨⟨dx, by show _ = some (HO.ins cI dx (iF (.int fo) _ _ _ (.int (lt + 0)))); rw [Int.add_zero]; exact upd_same⟩, ?_⟩ (fun b u hb h1 h2 => by walk_at "lw_hp")
      show _ = some (HO.lst ((ns.set n.toNat wo).map V.int))
      rw [← hset]
      walk_at "lw_hp"
    · replace hc : H ch = some (.ins cC dy (cF (.int fo) (optS fa) (.int n) (.int wo) (.int ta) (optI fi) (.ref nu) (.int z))) := hc
      walk_at "lw_goc"
      refine k _ ⟨⟨dx, upd_same⟩, ?_⟩ (fun b u hb h1 h2 => by walk_at "lw_hp")
      show _ = some (HO.lst ((ns.set n.toNat wo).map V.int))
      rw [← hset]
      walk_at "lw_hp"
def spCInit (cC : Addr) : Sp := fun vs H Q _ => ∃ (x dx : Addr) (n : Int), vs = [.ref x, .int n] ∧ H x = some (.ins cC dx []) ∧
  ∀ (nu : Addr) (H' : Hp), H nu = none → ChgAt cC H' x nu ⟨n, none, none, 0, 0, none, [], none⟩ → Off x H H' → Q .non H'
theorem scs_Change___init__ : FnScope ["self", "follows"] ["self", "follows"] (defScope s_Change___init__) := ⟨rfl, rfl, rfl, by decide +kernel, rfl, by decide +kernel, by decide +kernel⟩
theorem ok_cinit (F : Fun K "__init__" "Change.__init__" s_Change___init__ f fd) (T : Txt mg) (O : Own K mg cI cC dP dL) : FnOk P w K mg base CX0 1 f fd ["self", "follows"] (spCInit cC) := by
  refine F.ok scs_Change___init__ (fun vs H Q E h => ?_) (fun cdv A outer s H vs Q E hr h => ?_)
  · obtain ⟨x, dx, nm, rfl, _⟩ := h
    rfl
  obtain ⟨x, dx, nm, rfl, hx, k⟩ := h
  have nd := scs_Change___init__.nd
  have hu := hu_of hr
  have Oi := O.i
  have Oc := O.c
  refine ⟨_, (pss_cons (kSFld K (pv 0) (pv 1) rfl)
      (pss_cons (kSFld K (pv 0) pe_non rfl)
      (pss_cons (kSFld K (pv 0) pe_non rfl)
      (pss_cons (kSFld K (pv 0) pe_int rfl)
      (pss_cons (kSFld K (pv 0) pe_int rfl)
      (pss_cons (kSFld K (pv 0) pe_non rfl)
      (pss_cons (kSFld K (pv 0) (pe_lst pa_nil) rfl)
      (pss_one (kSFld K (pv 0) pe_non rfl))))))))), ?_⟩
  walk_at "lw_goi"
  refine go_qlst (Nat.le_of_ble_eq_true rfl) (fun nu hnu => ?_)
  have n2 : x ≠ nu := ne_of_none upd_same hnu
  have n3 := n2.symm
  have fnl : H nu = none := by
    rwa [upd_ne n3, upd_ne n3, upd_ne n3, upd_ne n3, upd_ne n3, upd_ne n3] at hnu
  walk_at "lw_goi"
  refine k nu _ fnl ⟨⟨dx, upd_same⟩, ?_⟩ (fun b u hb hn => ?_)
  · show _ = some (HO.lst [])
    rw [upd_ne n3, upd_ne n3, upd_same]
  · have b1 : b ≠ nu := ne_of_none hb fnl
    rw [upd_ne hn, upd_ne hn, upd_ne b1, upd_ne hn, upd_ne hn, upd_ne hn, upd_ne hn, upd_ne hn, upd_ne hn]
    exact hb
def spHold (cC : Addr) : Sp := fun vs H Q _ => ∃ (ch nu : Addr) (n x : Int) (e : Chg), vs = [.ref ch, .int n, .int x] ∧ ChgAt cC H ch nu e ∧
  ∀ (H' : Hp), ChgAt cC H' ch nu { e with name := some n, worth := x } → Off ch H H' → Q .non H'
theorem scs_Change_hold : FnScope ["self", "name", "worth"] ["self", "name", "worth"] (defScope s_Change_hold) := ⟨rfl, rfl, rfl, by decide +kernel, rfl, by decide +kernel, by decide +kernel⟩
theorem ok_hold (F : Fun K "hold" "Change.hold" s_Change_hold f fd) (T : Txt mg) (O : Own K mg cI cC dP dL) : FnOk P w K mg base CX0 1 f fd ["self", "name", "worth"] (spHold cC) := by
  refine F.ok scs_Change_hold (fun vs H Q E h => ?_) (fun cdv A outer s H vs Q E hr h => ?_)
  · obtain ⟨ch, nu, n, x, e, rfl, _⟩ := h
    rfl
  obtain ⟨ch, nu, n, x, e, rfl, ⟨⟨dy, hc⟩, hnu⟩, k⟩ := h
  have nd := scs_Change_hold.nd
  have hu := hu_of hr
  have Oi := O.i
  have Oc := O.c
  have n1 : nu ≠ ch := ne_of hnu hc (by intro z; cases z)
  refine ⟨_, (pss_cons (kSFld K (pv 0) (pv 1) rfl)
      (pss_one (kSFld K (pv 0) (pv 2) rfl))), ?_⟩
  walk_at "lw_goc"
  exact k _ ⟨⟨dy, upd_same⟩, by walk_at "lw_hp"⟩ (fun b u hb h1 => by walk_at "lw_hp")
def spFill (cC : Addr) : Sp := fun vs H Q _ => ∃ (ch nu nu' : Addr) (g : Int) (xs : List Int) (e : Chg), vs = [.ref ch, .int g, .ref nu'] ∧ ChgAt cC H ch nu e ∧ H nu' = some (.lst (xs.map V.int)) ∧
  ∀ (H' : Hp), ChgAt cC H' ch nu' { e with file := some g, numbers := xs } → Off ch H H' → Q .non H'
theorem scs_Change_fill : FnScope ["self", "file", "numbers"] ["self", "file", "numbers"] (defScope s_Change_fill) := ⟨rfl, rfl, rfl, by decide +kernel, rfl, by decide +kernel, by decide +kernel⟩
theorem ok_fill (F : Fun K "fill" "Change.fill" s_Change_fill f fd) (T : Txt mg) (O : Own K mg cI cC dP dL) : FnOk P w K mg base CX0 1 f fd ["self", "file", "numbers"] (spFill cC) := by
  refine F.ok scs_Change_fill (fun vs H Q E h => ?_) (fun cdv A outer s H vs Q E hr h => ?_)
  · obtain ⟨ch, nu, nu', g, xs, e, rfl, _⟩ := h
    rfl
  obtain ⟨ch, nu, nu', g, xs, e, rfl, ⟨⟨dy, hc⟩, hnu⟩, hx, k⟩ := h
  have nd := scs_Change_fill.nd
  have hu := hu_of hr
  have Oi := O.i
  have Oc := O.c
  have n1 : nu' ≠ ch := ne_of hx hc (by intro z; cases z)
  refine ⟨_, (pss_cons (kSFld K (pv 0) (pv 1) rfl)
      (pss_one (kSFld K (pv 0) (pv 2) rfl))), ?_⟩
  walk_at "lw_goc"
  exact k _ ⟨⟨dy, upd_same⟩, by walk_at "lw_hp"⟩ (fun b u hb h1 => by walk_at "lw_hp")
end
end Lw
set_option Elab.async false
set_option linter.all false
set_option maxRecDepth 100000
set_option maxHeartbeats 4000000
namespace Lw
open PySem L2
local macro_rules | `(tactic| walk_at "lw_hp") => `(tactic| (repeat (first | assumption | exact upd_same | (refine' upd_new (by assumption) ?_) | (refine' tup_off (by assumption) (by assumption) ?_) | (refine' lst_off (by assumption) (by assumption) (by assumption) ?_) | (refine' Same.get (by assumption) ?_) | (refine' Off.get (by assumption) (by assumption) ?_) | (refine' upd_oth (by assumption) ?_))))
local macro_rules | `(tactic| walk_at "lw_goc") => `(tactic| (repeat (first | (with_reducible (first | refine go_var rfl ?_ | refine go_c ?_ | refine go_cons ?_ | refine go_op ?_ | refine go_nil ?_ | refine go_seq ?_ | refine go_qb ?_ | refine go_test ?_ | refine go_ifS ?_ | refine go_gname ?_ | refine go_cb ?_)) | ((with_reducible refine' go_ixT ?hp ?ha ?_); (case hp => walk_at "lw_hp"); (case ha => first | rfl | assumption)) | (with_reducible (first | refine go_asg ?_ | refine go_callC ?_ | refine go_next ?_ | refine go_tup ?_ | refine go_i0 ?_ | refine go_ret ?_ | refine go_dget ?_)) | ((with_reducible show qFld _ _ _ _ _); (first | ((with_reducible refine' ig_row (by assumption) ?hp ?_); (case hp => walk_at "lw_hp")) | ((with_reducible refine' ig_names (by assumption) ?hp ?_); (case hp => walk_at "lw_hp")) | ((with_reducible refine' ig_taken (by assumption) ?hp ?_); (case hp => walk_at "lw_hp")) | ((with_reducible refine' ig_done (by assumption) ?hp ?_); (case hp => walk_at "lw_hp")) | ((with_reducible refine' ig_letters (by assumption) ?hp ?_); (case hp => walk_at "lw_hp")) | ((with_reducible refine' cg_follows (by assumption) ?hp ?_); (case hp => walk_at "lw_hp")) | ((with_reducible refine' cg_fault (by assumption) ?hp ?_); (case hp => walk_at "lw_hp")) | ((with_reducible refine' cg_name (by assumption) ?hp ?_); (case hp => walk_at "lw_hp")) | ((with_reducible refine' cg_worth (by assumption) ?hp ?_); (case hp => walk_at "lw_hp")) | ((with_reducible refine' cg_takes (by assumption) ?hp ?_); (case hp => walk_at "lw_hp")) | ((with_reducible refine' cg_file (by assumption) ?hp ?_); (case hp => walk_at "lw_hp")) | ((with_reducible refine' cg_numbers (by assumption) ?hp ?_); (case hp => walk_at "lw_hp")) | ((with_reducible refine' cg_letter (by assumption) ?hp ?_); (case hp => walk_at "lw_hp")))) | (with_reducible (first | refine go_fld ?_ | refine go_gcons ?_)) | ((with_reducible show qSFld _ _ _ _ _ _); (first | ((with_reducible refine' is_row (by assumption) ?hp ?_); (case hp => walk_at "lw_hp")) | ((with_reducible refine' is_names (by assumption) ?hp ?_); (case hp => walk_at "lw_hp")) | ((with_reducible refine' is_taken (by assumption) ?hp ?_); (case hp => walk_at "lw_hp")) | ((with_reducible refine' is_done (by assumption) ?hp ?_); (case hp => walk_at "lw_hp")) | ((with_reducible refine' is_letters (by assumption) ?hp ?_); (case hp => walk_at "lw_hp")) | ((with_reducible refine' cs_follows (by assumption) ?hp ?_); (case hp => walk_at "lw_hp")) | ((with_reducible refine' cs_fault (by assumption) ?hp ?_); (case hp => walk_at "lw_hp")) | ((with_reducible refine' cs_name (by assumption) ?hp ?_); (case hp => walk_at "lw_hp")) | ((with_reducible refine' cs_worth (by assumption) ?hp ?_); (case hp => walk_at "lw_hp")) | ((with_reducible refine' cs_takes (by assumption) ?hp ?_); (case hp => walk_at "lw_hp")) | ((with_reducible refine' cs_file (by assumption) ?hp ?_); (case hp => walk_at "lw_hp")) | ((with_reducible refine' cs_numbers (by assumption) ?hp ?_); (case hp => walk_at "lw_hp")) | ((with_reducible refine' cs_letter (by assumption) ?hp ?_); (case hp => walk_at "lw_hp")))) | (with_reducible (first | refine go_gsub ?_ | refine go_testB ?_ | refine go_sfld ?_)) | ((with_reducible refine' go_ixL ?hp ?ha ?_); (case hp => walk_at "lw_hp"); (case ha => first | rfl | assumption)) | (with_reducible (first | refine' go_ixLs (by assumption) (by assumption) ?_ | refine go_lst ?_)) | ((with_reducible refine' go_i ?cc ?_); (case cc => first | omega | (simp only [CDiv, CMul, CPow]; omega) | (simp only [CDiv, CMul, CPow]; decide))) | (with_reducible refine go_drop ?_) | ((with_reducible show qMeth _ _ _ _ _); (first | ((with_reducible refine' im_follow ?hp ?_); (case hp => walk_at "lw_hp")) | ((with_reducible refine' im_twin ?hp ?_); (case hp => walk_at "lw_hp")) | ((with_reducible refine' cm_hold ?hp ?_); (case hp => walk_at "lw_hp")) | ((with_reducible refine' cm_fill ?hp ?_); (case hp => walk_at "lw_hp")))) | (with_reducible (first | refine go_eqI ?_ | refine go_eqS ?_ | refine go_eqB ?_ | refine go_eq (by rfl) ?_ | refine go_gnil ?_ | refine go_iteT ?_ | refine go_iteF ?_ | refine go_iteNt ?_ | refine go_iteNf ?_ | refine go_iteNN ?_)) | (with_reducible refine go_iteDT (by first | assumption | rfl | omega | (simp only [List.length_cons, List.length_nil, List.length_map]; omega)) ?_) | (with_reducible refine go_iteDF (by first | assumption | omega | decide | decide +kernel | (simp only [List.length_cons, List.length_nil, List.length_map]; omega)) ?_) | (with_reducible refine go_iteNT (by first | assumption | rfl | omega | (simp only [List.length_cons, List.length_nil, List.length_map]; omega)) ?_) | (with_reducible refine go_iteNF (by first | assumption | omega | decide | decide +kernel | (simp only [List.length_cons, List.length_nil, List.length_map]; omega)) ?_) | (with_reducible refine go_iteBT (by first | assumption | decide +kernel) ?_) | (with_reducible refine go_iteBF (by first | assumption | decide +kernel) ?_) | (with_reducible (first | refine go_dput ?_ | refine go_setD ?_)) | ((with_reducible refine' go_gtup ?hp ?ha ?_); (case hp => walk_at "lw_hp"); (case ha => first | rfl | assumption)) | (with_reducible refine go_if ?_) | ((with_reducible refine' go_setL ?hp ?ha ?_); (case hp => walk_at "lw_hp"); (case ha => first | rfl | assumption)) | (with_reducible (first | refine go_not ?_ | refine go_or ?_ | refine go_andV ?_)) | ((with_reducible show qFA _ _ _ _ _ _ _ _); (first | ((with_reducible refine' ia_row (by assumption) ?hp ?_); (case hp => walk_at "lw_hp")) | ((with_reducible refine' ia_names (by assumption) ?hp ?_); (case hp => walk_at "lw_hp")) | ((with_reducible refine' ia_taken (by assumption) ?hp ?_); (case hp => walk_at "lw_hp")) | ((with_reducible refine' ia_done (by assumption) ?hp ?_); (case hp => walk_at "lw_hp")) | ((with_reducible refine' ia_letters (by assumption) ?hp ?_); (case hp => walk_at "lw_hp")) | ((with_reducible refine' ca_follows (by assumption) ?hp ?_); (case hp => walk_at "lw_hp")) | ((with_reducible refine' ca_fault (by assumption) ?hp ?_); (case hp => walk_at "lw_hp")) | ((with_reducible refine' ca_name (by assumption) ?hp ?_); (case hp => walk_at "lw_hp")) | ((with_reducible refine' ca_worth (by assumption) ?hp ?_); (case hp => walk_at "lw_hp")) | ((with_reducible refine' ca_takes (by assumption) ?hp ?_); (case hp => walk_at "lw_hp")) | ((with_reducible refine' ca_file (by assumption) ?hp ?_); (case hp => walk_at "lw_hp")) | ((with_reducible refine' ca_numbers (by assumption) ?hp ?_); (case hp => walk_at "lw_hp")) | ((with_reducible refine' ca_letter (by assumption) ?hp ?_); (case hp => walk_at "lw_hp")))) | ((with_reducible show qFB _ _ _ _ _ _); (first | ((with_reducible refine' ib_row ?hp ?_); (case hp => walk_at "lw_hp")) | ((with_reducible refine' ib_names ?hp ?_); (case hp => walk_at "lw_hp")) | ((with_reducible refine' ib_taken ?hp ?_); (case hp => walk_at "lw_hp")) | ((with_reducible refine' ib_done ?hp ?_); (case hp => walk_at "lw_hp")) | ((with_reducible refine' ib_letters ?hp ?_); (case hp => walk_at "lw_hp")) | ((with_reducible refine' cb_follows ?hp ?_); (case hp => walk_at "lw_hp")) | ((with_reducible refine' cb_fault ?hp ?_); (case hp => walk_at "lw_hp")) | ((with_reducible refine' cb_name ?hp ?_); (case hp => walk_at "lw_hp")) | ((with_reducible refine' cb_worth ?hp ?_); (case hp => walk_at "lw_hp")) | ((with_reducible refine' cb_takes ?hp ?_); (case hp => walk_at "lw_hp")) | ((with_reducible refine' cb_file ?hp ?_); (case hp => walk_at "lw_hp")) | ((with_reducible refine' cb_numbers ?hp ?_); (case hp => walk_at "lw_hp")) | ((with_reducible refine' cb_letter ?hp ?_); (case hp => walk_at "lw_hp")))) | (with_reducible (first | refine go_sl ?_ | refine go_nopart ?_ | refine go_part ?_ | refine go_qI ?_ | refine' go_lenLs (by assumption) ?_)) | ((with_reducible refine' go_lenL ?hp ?_); (case hp => walk_at "lw_hp")) | ((with_reducible refine' go_lenT ?hp ?_); (case hp => walk_at "lw_hp")) | ((with_reducible refine' go_inT ?hp ?ha ?hb ?_); (case hp => walk_at "lw_hp"); (case ha => rfl); (case hb => rfl)) | ((with_reducible refine' go_notInT ?hp ?ha ?hb ?_); (case hp => walk_at "lw_hp"); (case ha => rfl); (case hb => rfl)) | (with_reducible (first | refine go_sfa ?_ | refine go_radd ?_ | refine go_pnil ?_ | refine go_pcons ?_ | refine go_un ?_ | refine go_u ?_ | refine go_for ?_ | refine go_rng1 ?_ | refine go_qrng1 (by omega) (by omega) ?_ | refine go_methC ?_ | refine go_notN_non ?_ | refine go_notN_int ?_ | refine go_notN_str ?_ | refine go_notN_bl ?_ | refine go_notN_ref ?_ | refine go_min ?_ | refine go_bm ?_ | refine go_lc ?_)) | ((with_reducible refine' go_qbm ?hp ?_); (case hp => walk_at "lw_hp")) | (with_reducible (first | refine go_int ?_ | refine go_intB ?_ | refine go_yes ?_ | refine go_and ?_ | refine go_notV ?_ | refine go_iL ?_)) | ((with_reducible refine' go_glst ?hp ?ha ?_); (case hp => walk_at "lw_hp"); (case ha => first | rfl | assumption)) | ((with_reducible refine' go_qiL ?hp ?_); (case hp => walk_at "lw_hp")) | (with_reducible (first | refine go_dgetK ?_ | refine go_par ?_ | refine go_gpar ?_ | refine go_isN_non ?_ | refine go_isN_int ?_ | refine go_isN_str ?_ | refine go_isN_bl ?_ | refine go_isN_ref ?_ | refine go_neI ?_ | refine go_neS ?_ | refine go_neB ?_ | refine go_iT ?_ | refine go_ne (by rfl) ?_)) | ((with_reducible refine' go_ixAL ?hp ?ha ?_); (case hp => walk_at "lw_hp"); (case ha => first | rfl | assumption)) | ((with_reducible refine' go_ixAT ?hp ?ha ?_); (case hp => walk_at "lw_hp"); (case ha => first | rfl | assumption)) | ((with_reducible refine' go_qiT ?hp ?_); (case hp => walk_at "lw_hp")) | (with_reducible (first | refine go_makeC ?_ | refine go_is_non_int ?_ | refine go_is_non_bool ?_ | refine go_is_non_str ?_ | refine go_is_non_tuple ?_ | refine go_is_non_list ?_ | refine go_is_bl_int ?_ | refine go_is_bl_bool ?_ | refine go_is_bl_str ?_ | refine go_is_bl_tuple ?_ | refine go_is_bl_list ?_ | refine go_is_int_int ?_ | refine go_is_int_bool ?_ | refine go_is_int_str ?_ | refine go_is_int_tuple ?_ | refine go_is_int_list ?_ | refine go_is_str_int ?_ | refine go_is_str_bool ?_ | refine go_is_str_str ?_ | refine go_is_str_tuple ?_ | refine go_is_str_list ?_)) | ((with_reducible refine' go_is_lst_int ?hp ?_); (case hp => walk_at "lw_hp")) | ((with_reducible refine' go_is_lst_bool ?hp ?_); (case hp => walk_at "lw_hp")) | ((with_reducible refine' go_is_lst_str ?hp ?_); (case hp => walk_at "lw_hp")) | ((with_reducible refine' go_is_lst_tuple ?hp ?_); (case hp => walk_at "lw_hp")) | ((with_reducible refine' go_is_lst_list ?hp ?_); (case hp => walk_at "lw_hp")) | ((with_reducible refine' go_is_tup_int ?hp ?_); (case hp => walk_at "lw_hp")) | ((with_reducible refine' go_is_tup_bool ?hp ?_); (case hp => walk_at "lw_hp")) | ((with_reducible refine' go_is_tup_str ?hp ?_); (case hp => walk_at "lw_hp")) | ((with_reducible refine' go_is_tup_tuple ?hp ?_); (case hp => walk_at "lw_hp")) | ((with_reducible refine' go_is_tup_list ?hp ?_); (case hp => walk_at "lw_hp")) | (with_reducible (first | refine go_max ?_ | refine go_bm0 ?_ | refine go_chain ?_ | refine go_qch ?_)) | ((with_reducible refine' go_qbm0 ?hp ?_); (case hp => walk_at "lw_hp")) | (with_reducible (first | refine go_dinK ?_ | refine go_enumT ?_ | refine go_zipT ?_ | refine go_retN ?_ | refine go_orV ?_ | refine go_whQ ?_ | refine go_rng2 ?_ | refine go_qrng2 (by omega) (by omega) (by omega) (by omega) ?_ | refine go_rvr ?_ | refine go_qrvr (by omega) (by omega) ?_ | refine go_enum ?_ | refine go_aug rfl ?_ | refine go_ipI ?_)) | ((with_reducible refine' go_qenum ?hp ?_); (case hp => walk_at "lw_hp")) | ((with_reducible refine' go_sumL ?hp ?_); (case hp => walk_at "lw_hp")) | (with_reducible refine go_tru ?_))))
abbrev s_plan_set : Stmt := top 27
abbrev s_plan_take : Stmt := top 28
abbrev s_plan_get : Stmt := top 29
abbrev s_plan_size : Stmt := top 30
abbrev s_plan_add : Stmt := top 31
abbrev s_plan_put : Stmt := top 32
abbrev s_plan_cut : Stmt := top 33
abbrev s_plan_send : Stmt := top 34
abbrev s_plan_go : Stmt := top 35
abbrev s_plan_unless : Stmt := top 36
abbrev s_plan_mark : Stmt := top 37
structure PlAt (cI : Addr) (H : Hp) (rv : V) (ip fl hl nl : Addr) (p : Prog) (hs : List Int) (s : S) (r : Row) : Prop where
  rr : RowAt H r rv
  ok : r.ok p.nm p.fl p.rows.length
  i : ∃ lt, InAt cI H ip nl s.row s.names s.taken s.done lt
  f : ∃ fv, H fl = some (.lst fv) ∧ FilesAt H fv s.files
  h : H hl = some (.lst (hs.map V.int))
  g : Good p hs s
theorem PlAt.same {cI : Addr} {H H' : Hp} {rv : V} {ip fl hl nl : Addr} {p : Prog} {hs : List Int} {s : S} {r : Row} (h : PlAt cI H rv ip fl hl nl p hs s r) (z : Same H H') : PlAt cI H' rv ip fl hl nl p hs s r := by
  obtain ⟨lt, hi⟩ := h.i
  obtain ⟨fv, h1, h2⟩ := h.f
  exact ⟨h.rr.mono z.tk, h.ok, ⟨lt, hi.same z⟩, ⟨fv, z _ _ h1, h2.same z⟩, z _ _ h.h, h.g⟩
def spPlan (cI cC : Addr) (i : Nat) : Sp := fun vs H Q _ => ∃ (rv : V) (ip fl hl nl ch nu : Addr) (p : Prog) (hs : List Int) (s : S) (r : Row), vs = [rv, .ref ip, .ref fl, .ref hl, .ref ch] ∧ r.ix = i ∧ PlAt cI H rv ip fl hl nl p hs s r ∧ ChgAt cC H ch nu (chg0 s) ∧ cI ≠ cC ∧
  ∀ (nu' : Addr) (H' : Hp), ChgAt cC H' ch nu' (chgM hs s r) → Off ch H H' → (nu' = nu ∨ H nu' = none) → Q .non H'
theorem file_len {s : S} {f fl : Int} {p : Prog} {hs : List Int} (g : Good p hs s) (h0 : 0 ≤ f) (h1 : f < p.fl) : f < s.files.length := by
  have := g.fl
  omega
section
variable {P : Program} {w : World} {K : PySem.W.Frag} {mg : Str → Option Value} {base : Heap} {f : Addr} {fd : FuncData} {cI cC dP dL : Addr}
theorem scs_plan_set : FnScope ["row", "inside", "files", "handed", "change"] ["row", "inside", "files", "handed", "change"] (defScope s_plan_set) := ⟨rfl, rfl, rfl, by decide +kernel, rfl, by decide +kernel, by decide +kernel⟩
theorem ok_pset (F : Fun K "plan_set" "plan_set" s_plan_set f fd) (T : Txt mg) (O : Own K mg cI cC dP dL) (C_comes_to : FnC P w K mg base 4 "comes_to" ["part", "names"] (spComes 3)) (MT_Change_hold : MtC P w K mg base 1 cC "hold" ["self", "name", "worth"] (spHold cC)) : FnOk P w K mg base CX0 5 f fd ["row", "inside", "files", "handed", "change"] (spPlan cI cC 0) := by
  refine F.ok scs_plan_set (fun vs H Q E h => ?_) (fun cdv A outer s0 H vs Q E hr h => ?_)
  · obtain ⟨rv, ip, fl, hl, nl, ch, nu, p, hs, s, r, rfl, _⟩ := h
    rfl
  obtain ⟨rv, ip, fl, hl, nl, ch, nu, p, hs, s, r, rfl, hix, ⟨hR, ok, ⟨lt, ⟨dx, hi⟩, hn⟩, ⟨fv, hfl, hF⟩, hh, G⟩, hC, hne, k⟩ := h
  obtain ⟨n, q, rfl⟩ : ∃ n q, r = .set n q := by cases r <;> first | exact ⟨_, _, rfl⟩ | (cases hix)
  obtain ⟨a, xs, rfl, ha, v, rfl, hv⟩ := hR
  have nd := scs_plan_set.nd
  have hu := hu_of hr
  have Oi := O.i
  have Oc := O.c
  have hnl := G.nl
  have hC' := hC
  obtain ⟨⟨dy, hc⟩, hnu⟩ := hC
  have n1 : ch ≠ ip := ne_of hc hi (by intro z; injection z with z; exact hne z.symm)
  have n2 := n1.symm
  have n3 : nu ≠ ch := ne_of hnu hc (by intro z; cases z)
  refine ⟨_, (pss_one (ps_expr (pe_methC (pv 4) MT_Change_hold (hr.mono (by omega)) (pa_cons (pe_ix (kIxT K) (pv 0) pe_int (fun _ _ => rfl)) (pa_cons (pe_callC C_comes_to (hr.mono (by omega)) (by rfl) (pa_cons (pe_ix (kIxT K) (pv 0) pe_int (fun _ _ => rfl)) (pa_cons (kFld K (pv 1) rfl) pa_nil))) pa_nil))))), ?_⟩
  walk_at "lw_goc"
  refine comes_go hv ok.2.2 hn hnl ?_
  walk_at "lw_goc"
  refine ⟨ch, nu, n, _, chg0 s, rfl, hC', fun H1 c1 o1 => ?_⟩
  walk_at "lw_goc"
  exact k _ _ c1 o1 (.inl rfl)
theorem scs_plan_take : FnScope ["row", "inside", "files", "handed", "change"] ["row", "inside", "files", "handed", "change"] (defScope s_plan_take) := ⟨rfl, rfl, rfl, by decide +kernel, rfl, by decide +kernel, by decide +kernel⟩
theorem ok_ptake (F : Fun K "plan_take" "plan_take" s_plan_take f fd) (T : Txt mg) (O : Own K mg cI cC dP dL) (MT_Change_hold : MtC P w K mg base 1 cC "hold" ["self", "name", "worth"] (spHold cC)) : FnOk P w K mg base CX0 5 f fd ["row", "inside", "files", "handed", "change"] (spPlan cI cC 1) := by
  refine F.ok scs_plan_take (fun vs H Q E h => ?_) (fun cdv A outer s0 H vs Q E hr h => ?_)
  · obtain ⟨rv, ip, fl, hl, nl, ch, nu, p, hs, s, r, rfl, _⟩ := h
    rfl
  obtain ⟨rv, ip, fl, hl, nl, ch, nu, p, hs, s, r, rfl, hix, ⟨hR, ok, ⟨lt, ⟨dx, hi⟩, hn⟩, ⟨fv, hfl, hF⟩, hh, G⟩, hC, hne, k⟩ := h
  obtain ⟨n, rfl⟩ : ∃ n, r = .take n := by cases r <;> first | exact ⟨_, rfl⟩ | (cases hix)
  obtain ⟨a, xs, rfl, ha, rfl⟩ := hR
  have nd := scs_plan_take.nd
  have hu := hu_of hr
  have Oi := O.i
  have Oc := O.c
  have hnl := G.nl
  have hC' := hC
  obtain ⟨⟨dy, hc⟩, hnu⟩ := hC
  have n1 : ch ≠ ip := ne_of hc hi (by intro z; injection z with z; exact hne z.symm)
  have n2 := n1.symm
  have n3 : nu ≠ ch := ne_of hnu hc (by intro z; cases z)
  refine ⟨_, (pss_one (ps_if (pt_cmpR op_eq (kFld K (pv 1) rfl) (pe_callB (kLen K) (by rfl) T.n_len (by decide +kernel) (pa_cons (pv 3) pa_nil)) (nomark _)) (pss_one (kSFld K (pv 4) pe_str rfl)) (pss_cons (ps_expr (pe_methC (pv 4) MT_Change_hold (hr.mono (by omega)) (pa_cons (pe_ix (kIxT K) (pv 0) pe_int (fun _ _ => rfl)) (pa_cons (pe_ix (kIxL K) (pv 3) (kFld K (pv 1) rfl) (fun _ _ => rfl)) pa_nil))))
      (pss_one (kSFld K (pv 4) pe_int rfl))))), ?_⟩
  walk_at "lw_goc"
  refine go_iteD (fun c => ?_) (fun c => ?_)
  · have c' : s.taken = hs.length := by rw [List.length_map] at c; omega
    walk_at "lw_goc"
    rw [show chgM hs s (.take n) = { chg0 s with fault := some "none" } from if_pos c'] at k
    exact k nu _ ⟨⟨dy, upd_same⟩, by walk_at "lw_hp"⟩ (off_upd _ _ _) (.inl rfl)
  · have c' : ¬ s.taken = hs.length := by rw [List.length_map] at c; omega
    have ht := G.tk
    have hat : atI (hs.map V.int) (s.taken : Int) = some (.int (hs.getD s.taken 0)) := at_num (g := (s.taken : Int)) (by omega) (by omega)
    walk_at "lw_goc"
    refine ⟨ch, nu, n, _, chg0 s, rfl, hC', fun H1 c1 o1 => ?_⟩
    obtain ⟨⟨dy1, hc1⟩, hnu1⟩ := c1
    have o1' : Off ch H H1 := o1
    clear o1
    walk_at "lw_goc"
    rw [show chgM hs s (.take n) = { chg0 s with name := some n, worth := hs.getD s.taken 0, takes := 1 } from if_neg c'] at k
    exact k nu _ ⟨⟨dy1, upd_same⟩, by walk_at "lw_hp"⟩ (o1'.trans (off_upd _ _ _)) (.inl rfl)
theorem scs_plan_get : FnScope ["row", "inside", "files", "handed", "change", "numbers", "place"] ["row", "inside", "files", "handed", "change"] (defScope s_plan_get) := ⟨rfl, rfl, rfl, by decide +kernel, rfl, by decide +kernel, by decide +kernel⟩
theorem ok_pget (F : Fun K "plan_get" "plan_get" s_plan_get f fd) (T : Txt mg) (O : Own K mg cI cC dP dL) (C_comes_to : FnC P w K mg base 4 "comes_to" ["part", "names"] (spComes 3)) (MT_Change_hold : MtC P w K mg base 1 cC "hold" ["self", "name", "worth"] (spHold cC)) : FnOk P w K mg base CX0 5 f fd ["row", "inside", "files", "handed", "change"] (spPlan cI cC 2) := by
  refine F.ok scs_plan_get (fun vs H Q E h => ?_) (fun cdv A outer s0 H vs Q E hr h => ?_)
  · obtain ⟨rv, ip, fl, hl, nl, ch, nu, p, hs, s, r, rfl, _⟩ := h
    rfl
  obtain ⟨rv, ip, fl, hl, nl, ch, nu, p, hs, s, r, rfl, hix, ⟨hR, ok, ⟨lt, ⟨dx, hi⟩, hn⟩, ⟨fv, hfl, hF⟩, hh, G⟩, hC, hne, k⟩ := h
  obtain ⟨n, g, q, rfl⟩ : ∃ n g q, r = .get n g q := by cases r <;> first | exact ⟨_, _, _, rfl⟩ | (cases hix)
  obtain ⟨a, xs, rfl, ha, v, rfl, hv⟩ := hR
  have nd := scs_plan_get.nd
  have hu := hu_of hr
  have Oi := O.i
  have Oc := O.c
  have hnl := G.nl
  have hC' := hC
  obtain ⟨⟨dy, hc⟩, hnu⟩ := hC
  have n1 : ch ≠ ip := ne_of hc hi (by intro z; injection z with z; exact hne z.symm)
  have n2 := n1.symm
  have n3 : nu ≠ ch := ne_of hnu hc (by intro z; cases z)
  refine ⟨_, (pss_cons (ps_set (i := 5) nd rfl (Or.inl rfl) (pe_ix (kIxL K) (pv 2) (pe_ix (kIxT K) (pv 0) pe_int (fun _ _ => rfl)) (fun _ _ => rfl)))
      (pss_cons (ps_set (i := 6) nd rfl (Or.inl rfl) (pe_callC C_comes_to (hr.mono (by omega)) (by rfl) (pa_cons (pe_ix (kIxT K) (pv 0) pe_int (fun _ _ => rfl)) (pa_cons (kFld K (pv 1) rfl) pa_nil))))
      (pss_one (ps_if (pt_cmpR op_ge (pv 6) (pe_callB (kLen K) (by rfl) T.n_len (by decide +kernel) (pa_cons (pv 5) pa_nil)) (nomark _)) (pss_one (kSFld K (pv 4) pe_str rfl)) (pss_one (ps_expr (pe_methC (pv 4) MT_Change_hold (hr.mono (by omega)) (pa_cons (pe_ix (kIxT K) (pv 0) pe_int (fun _ _ => rfl)) (pa_cons (pe_ix (kIxL K) (pv 5) (pv 6) (fun _ _ => rfl)) pa_nil))))))))), ?_⟩
  obtain ⟨fa, hfa, hfx⟩ := at_file hF ok.2.2.1 (file_len (fl := 0) G ok.2.2.1 ok.2.2.2.1)
  walk_at "lw_goc"
  refine comes_go hv ok.2.2.2.2 hn hnl ?_
  have hb := Part.val_num G.nn ok.2.2.2.2
  walk_at "lw_goc"
  refine go_iteD (fun c => ?_) (fun c => ?_)
  · have c' : ((s.file g).length : Int) ≤ q.val s.names := by rw [List.length_map] at c; exact c
    walk_at "lw_goc"
    rw [show chgM hs s (.get n g q) = { chg0 s with fault := some "place" } from if_pos c'] at k
    exact k nu _ ⟨⟨dy, upd_same⟩, by walk_at "lw_hp"⟩ (off_upd _ _ _) (.inl rfl)
  · have c' : ¬ ((s.file g).length : Int) ≤ q.val s.names := by rw [List.length_map] at c; exact c
    have hat : atI ((s.files.getD g.toNat []).map V.int) (q.val s.names) = some (.int ((s.file g).getD (q.val s.names).toNat 0)) := at_num hb.1 (by show q.val s.names < ((s.file g).length : Int); omega)
    walk_at "lw_goc"
    refine ⟨ch, nu, n, _, chg0 s, rfl, hC', fun H1 c1 o1 => ?_⟩
    walk_at "lw_goc"
    rw [show chgM hs s (.get n g q) = { chg0 s with name := some n, worth := (s.file g).getD (q.val s.names).toNat 0 } from if_neg c'] at k
    exact k _ _ c1 o1 (.inl rfl)
theorem scs_plan_size : FnScope ["row", "inside", "files", "handed", "change"] ["row", "inside", "files", "handed", "change"] (defScope s_plan_size) := ⟨rfl, rfl, rfl, by decide +kernel, rfl, by decide +kernel, by decide +kernel⟩
theorem ok_psize (F : Fun K "plan_size" "plan_size" s_plan_size f fd) (T : Txt mg) (O : Own K mg cI cC dP dL) (MT_Change_hold : MtC P w K mg base 1 cC "hold" ["self", "name", "worth"] (spHold cC)) : FnOk P w K mg base CX0 5 f fd ["row", "inside", "files", "handed", "change"] (spPlan cI cC 3) := by
  refine F.ok scs_plan_size (fun vs H Q E h => ?_) (fun cdv A outer s0 H vs Q E hr h => ?_)
  · obtain ⟨rv, ip, fl, hl, nl, ch, nu, p, hs, s, r, rfl, _⟩ := h
    rfl
  obtain ⟨rv, ip, fl, hl, nl, ch, nu, p, hs, s, r, rfl, hix, ⟨hR, ok, ⟨lt, ⟨dx, hi⟩, hn⟩, ⟨fv, hfl, hF⟩, hh, G⟩, hC, hne, k⟩ := h
  obtain ⟨n, g, rfl⟩ : ∃ n g, r = .size n g := by cases r <;> first | exact ⟨_, _, rfl⟩ | (cases hix)
  obtain ⟨a, xs, rfl, ha, rfl⟩ := hR
  have nd := scs_plan_size.nd
  have hu := hu_of hr
  have Oi := O.i
  have Oc := O.c
  have hnl := G.nl
  have hC' := hC
  obtain ⟨⟨dy, hc⟩, hnu⟩ := hC
  have n1 : ch ≠ ip := ne_of hc hi (by intro z; injection z with z; exact hne z.symm)
  have n2 := n1.symm
  have n3 : nu ≠ ch := ne_of hnu hc (by intro z; cases z)
  refine ⟨_, (pss_one (ps_expr (pe_methC (pv 4) MT_Change_hold (hr.mono (by omega)) (pa_cons (pe_ix (kIxT K) (pv 0) pe_int (fun _ _ => rfl)) (pa_cons (pe_callB (kLen K) (by rfl) T.n_len (by decide +kernel) (pa_cons (pe_ix (kIxL K) (pv 2) (pe_ix (kIxT K) (pv 0) pe_int (fun _ _ => rfl)) (fun _ _ => rfl)) pa_nil)) pa_nil))))), ?_⟩
  obtain ⟨fa, hfa, hfx⟩ := at_file hF ok.2.2.1 (file_len (fl := 0) G ok.2.2.1 ok.2.2.2)
  walk_at "lw_goc"
  refine ⟨ch, nu, n, _, chg0 s, rfl, hC', fun H1 c1 o1 => ?_⟩
  rw [List.length_map] at c1
  walk_at "lw_goc"
  exact k _ _ c1 o1 (.inl rfl)
theorem scs_plan_add : FnScope ["row", "inside", "files", "handed", "change", "numbers"] ["row", "inside", "files", "handed", "change"] (defScope s_plan_add) := ⟨rfl, rfl, rfl, by decide +kernel, rfl, by decide +kernel, by decide +kernel⟩
theorem ok_padd (F : Fun K "plan_add" "plan_add" s_plan_add f fd) (T : Txt mg) (O : Own K mg cI cC dP dL) (C_comes_to : FnC P w K mg base 4 "comes_to" ["part", "names"] (spComes 3)) (MT_Change_fill : MtC P w K mg base 1 cC "fill" ["self", "file", "numbers"] (spFill cC)) : FnOk P w K mg base CX0 5 f fd ["row", "inside", "files", "handed", "change"] (spPlan cI cC 4) := by
  refine F.ok scs_plan_add (fun vs H Q E h => ?_) (fun cdv A outer s0 H vs Q E hr h => ?_)
  · obtain ⟨rv, ip, fl, hl, nl, ch, nu, p, hs, s, r, rfl, _⟩ := h
    rfl
  obtain ⟨rv, ip, fl, hl, nl, ch, nu, p, hs, s, r, rfl, hix, ⟨hR, ok, ⟨lt, ⟨dx, hi⟩, hn⟩, ⟨fv, hfl, hF⟩, hh, G⟩, hC, hne, k⟩ := h
  obtain ⟨g, q, rfl⟩ : ∃ g q, r = .add g q := by cases r <;> first | exact ⟨_, _, rfl⟩ | (cases hix)
  obtain ⟨a, xs, rfl, ha, v, rfl, hv⟩ := hR
  have nd := scs_plan_add.nd
  have hu := hu_of hr
  have Oi := O.i
  have Oc := O.c
  have hnl := G.nl
  have hC' := hC
  obtain ⟨⟨dy, hc⟩, hnu⟩ := hC
  have n1 : ch ≠ ip := ne_of hc hi (by intro z; injection z with z; exact hne z.symm)
  have n2 := n1.symm
  have n3 : nu ≠ ch := ne_of hnu hc (by intro z; cases z)
  refine ⟨_, (pss_cons (ps_set (i := 5) nd rfl (Or.inl rfl) (pe_ix (kIxL K) (pv 2) (pe_ix (kIxT K) (pv 0) pe_int (fun _ _ => rfl)) (fun _ _ => rfl)))
      (pss_one (ps_if (pt_cmpR op_eq (pe_callB (kLen K) (by rfl) T.n_len (by decide +kernel) (pa_cons (pv 5) pa_nil)) (pe_gint (by rfl) T.g_MOST_NUMBERS) (nomark _)) (pss_one (kSFld K (pv 4) pe_str rfl)) (pss_one (ps_expr (pe_methC (pv 4) MT_Change_fill (hr.mono (by omega)) (pa_cons (pe_ix (kIxT K) (pv 0) pe_int (fun _ _ => rfl)) (pa_cons (pe_op op_cat (pv 5) (pe_lst (pa_cons (pe_callC C_comes_to (hr.mono (by omega)) (by rfl) (pa_cons (pe_ix (kIxT K) (pv 0) pe_int (fun _ _ => rfl)) (pa_cons (kFld K (pv 1) rfl) pa_nil))) pa_nil))) pa_nil)))))))), ?_⟩
  obtain ⟨fa, hfa, hfx⟩ := at_file hF ok.1 (file_len (fl := 0) G ok.1 ok.2.1)
  have hgl := (G.file g).1
  walk_at "lw_goc"
  refine go_iteD (fun c => ?_) (fun c => ?_)
  · have c' : (s.file g).length = 40 := by rw [List.length_map] at c; show (s.files.getD g.toNat []).length = 40; omega
    walk_at "lw_goc"
    rw [show chgM hs s (.add g q) = { chg0 s with fault := some "full" } from if_pos c'] at k
    exact k nu _ ⟨⟨dy, upd_same⟩, by walk_at "lw_hp"⟩ (off_upd _ _ _) (.inl rfl)
  · have c' : ¬ (s.file g).length = 40 := by rw [List.length_map] at c; show ¬ (s.files.getD g.toNat []).length = 40; omega
    walk_at "lw_goc"
    refine comes_go hv ok.2.2 hn hnl ?_
    walk_at "lw_goc"
    refine go_qlst (Nat.le_of_ble_eq_true rfl) (fun q1 hq1 => ?_)
    refine go_cat (ys := [V.int (q.val s.names)]) (upd_new hq1 hfx) upd_same (small_le (by rw [List.length_map]; show (s.file g).length + 1 ≤ _; omega)) (fun q2 hq2 => ?_)
    have S1 : Same H (upd (upd H q1 (.lst [.int (q.val s.names)])) q2 (.lst ((s.files.getD g.toNat []).map V.int ++ [V.int (q.val s.names)]))) := (same_new hq1 _).trans (same_new hq2 _)
    have e2 : upd (upd H q1 (.lst [.int (q.val s.names)])) q2 (.lst ((s.files.getD g.toNat []).map V.int ++ [V.int (q.val s.names)])) q2 = some (.lst ((s.file g ++ [q.val s.names]).map V.int)) := by rw [upd_same, List.map_append]; rfl
    have f2 : H q2 = none := (same_new hq1 _).free hq2
    generalize upd (upd H q1 (.lst [.int (q.val s.names)])) q2 (.lst ((s.files.getD g.toNat []).map V.int ++ [V.int (q.val s.names)])) = H1 at *
    walk_at "lw_goc"
    refine ⟨ch, nu, q2, g, _, chg0 s, rfl, hC'.same S1, e2, fun H2 c2 o2 => ?_⟩
    walk_at "lw_goc"
    rw [show chgM hs s (.add g q) = { chg0 s with file := some g, numbers := s.file g ++ [q.val s.names] } from if_neg c'] at k
    exact k _ _ c2 (S1.off.trans o2) (.inr f2)
theorem scs_plan_put : FnScope ["row", "inside", "files", "handed", "change", "numbers", "place"] ["row", "inside", "files", "handed", "change"] (defScope s_plan_put) := ⟨rfl, rfl, rfl, by decide +kernel, rfl, by decide +kernel, by decide +kernel⟩
theorem ok_pput (F : Fun K "plan_put" "plan_put" s_plan_put f fd) (T : Txt mg) (O : Own K mg cI cC dP dL) (C_comes_to : FnC P w K mg base 4 "comes_to" ["part", "names"] (spComes 3)) (MT_Change_fill : MtC P w K mg base 1 cC "fill" ["self", "file", "numbers"] (spFill cC)) : FnOk P w K mg base CX0 5 f fd ["row", "inside", "files", "handed", "change"] (spPlan cI cC 5) := by
  refine F.ok scs_plan_put (fun vs H Q E h => ?_) (fun cdv A outer s0 H vs Q E hr h => ?_)
  · obtain ⟨rv, ip, fl, hl, nl, ch, nu, p, hs, s, r, rfl, _⟩ := h
    rfl
  obtain ⟨rv, ip, fl, hl, nl, ch, nu, p, hs, s, r, rfl, hix, ⟨hR, ok, ⟨lt, ⟨dx, hi⟩, hn⟩, ⟨fv, hfl, hF⟩, hh, G⟩, hC, hne, k⟩ := h
  obtain ⟨g, q, r2, rfl⟩ : ∃ g q r2, r = .put g q r2 := by cases r <;> first | exact ⟨_, _, _, rfl⟩ | (cases hix)
  obtain ⟨a, xs, rfl, ha, v, v2, rfl, hv, hv2⟩ := hR
  have nd := scs_plan_put.nd
  have hu := hu_of hr
  have Oi := O.i
  have Oc := O.c
  have hnl := G.nl
  have hC' := hC
  obtain ⟨⟨dy, hc⟩, hnu⟩ := hC
  have n1 : ch ≠ ip := ne_of hc hi (by intro z; injection z with z; exact hne z.symm)
  have n2 := n1.symm
  have n3 : nu ≠ ch := ne_of hnu hc (by intro z; cases z)
  refine ⟨_, (pss_cons (ps_set (i := 5) nd rfl (Or.inl rfl) (pe_callTy (kList K) (by rfl) T.n_list (by decide +kernel) (pa_cons (pe_ix (kIxL K) (pv 2) (pe_ix (kIxT K) (pv 0) pe_int (fun _ _ => rfl)) (fun _ _ => rfl)) pa_nil)))
      (pss_cons (ps_set (i := 6) nd rfl (Or.inl rfl) (pe_callC C_comes_to (hr.mono (by omega)) (by rfl) (pa_cons (pe_ix (kIxT K) (pv 0) pe_int (fun _ _ => rfl)) (pa_cons (kFld K (pv 1) rfl) pa_nil))))
      (pss_one (ps_if (pt_cmpR op_ge (pv 6) (pe_callB (kLen K) (by rfl) T.n_len (by decide +kernel) (pa_cons (pv 5) pa_nil)) (nomark _)) (pss_one (kSFld K (pv 4) pe_str rfl)) (pss_cons (ps_asg (pe_callC C_comes_to (hr.mono (by omega)) (by rfl) (pa_cons (pe_ix (kIxT K) (pv 0) pe_int (fun _ _ => rfl)) (pa_cons (kFld K (pv 1) rfl) pa_nil))) (pg_sub (pv 5) (pv 6) set_list))
      (pss_one (ps_expr (pe_methC (pv 4) MT_Change_fill (hr.mono (by omega)) (pa_cons (pe_ix (kIxT K) (pv 0) pe_int (fun _ _ => rfl)) (pa_cons (pv 5) pa_nil)))))))))), ?_⟩
  obtain ⟨fa, hfa, hfx⟩ := at_file hF ok.1 (file_len (fl := 0) G ok.1 ok.2.1)
  walk_at "lw_goc"
  refine go_listL hfx (fun L hL => ?_)
  have S1 := same_new hL (.lst ((s.files.getD g.toNat []).map V.int))
  have eL : upd H L (.lst ((s.files.getD g.toNat []).map V.int)) L = some (.lst ((s.files.getD g.toNat []).map V.int)) := upd_same
  have nL : L ≠ ch := (ne_of_none hc hL).symm
  have hb := Part.val_num G.nn ok.2.2.1
  generalize upd H L (.lst ((s.files.getD g.toNat []).map V.int)) = H1 at *
  have hv1 := hv.mono S1.tk
  have hn1 := S1 _ _ hn
  have nLn : nl ≠ L := ne_of_none hn hL
  walk_at "lw_goc"
  refine comes_go hv1 ok.2.2.1 hn1 hnl ?_
  walk_at "lw_goc"
  refine go_iteD (fun c => ?_) (fun c => ?_)
  · have c' : ((s.file g).length : Int) ≤ q.val s.names := by rw [List.length_map] at c; exact c
    walk_at "lw_goc"
    rw [show chgM hs s (.put g q r2) = { chg0 s with fault := some "place" } from if_pos c'] at k
    exact k nu _ ⟨⟨dy, upd_same⟩, by walk_at "lw_hp"⟩ (S1.off.trans (off_upd _ _ _)) (.inl rfl)
  · have c' : ¬ ((s.file g).length : Int) ≤ q.val s.names := by rw [List.length_map] at c; exact c
    walk_at "lw_goc"
    refine comes_go (hv2.mono S1.tk) ok.2.2.2 hn1 hnl ?_
    have hix : ixN ((s.files.getD g.toNat []).map V.int).length (q.val s.names) = some (q.val s.names).toNat := ixN_of hb.1 (by rw [List.length_map]; show q.val s.names < ((s.file g).length : Int); omega)
    have hset : ((s.files.getD g.toNat []).map V.int).set (q.val s.names).toNat (.int (r2.val s.names)) = ((s.file g).set (q.val s.names).toNat (r2.val s.names)).map V.int := by rw [List.map_set]; rfl
    walk_at "lw_goc"
    rw [hset]
    have S2 : Same H (upd H1 L (.lst (((s.file g).set (q.val s.names).toNat (r2.val s.names)).map V.int))) := same_upd hL S1
    have e2 : upd H1 L (.lst (((s.file g).set (q.val s.names).toNat (r2.val s.names)).map V.int)) L = some (.lst (((s.file g).set (q.val s.names).toNat (r2.val s.names)).map V.int)) := upd_same
    generalize upd H1 L (.lst (((s.file g).set (q.val s.names).toNat (r2.val s.names)).map V.int)) = H2 at *
    clear eL
    walk_at "lw_goc"
    refine ⟨ch, nu, L, g, _, chg0 s, rfl, hC'.same S2, e2, fun H3 c3 o3 => ?_⟩
    walk_at "lw_goc"
    rw [show chgM hs s (.put g q r2) = { chg0 s with file := some g, numbers := (s.file g).set (q.val s.names).toNat (r2.val s.names) } from if_neg c'] at k
    exact k _ _ c3 (S2.off.trans o3) (.inr hL)
theorem scs_plan_cut : FnScope ["row", "inside", "files", "handed", "change"] ["row", "inside", "files", "handed", "change"] (defScope s_plan_cut) := ⟨rfl, rfl, rfl, by decide +kernel, rfl, by decide +kernel, by decide +kernel⟩
theorem ok_pcut (F : Fun K "plan_cut" "plan_cut" s_plan_cut f fd) (T : Txt mg) (O : Own K mg cI cC dP dL) (C_comes_to : FnC P w K mg base 4 "comes_to" ["part", "names"] (spComes 3)) (MT_Change_fill : MtC P w K mg base 1 cC "fill" ["self", "file", "numbers"] (spFill cC)) : FnOk P w K mg base CX0 5 f fd ["row", "inside", "files", "handed", "change"] (spPlan cI cC 6) := by
  refine F.ok scs_plan_cut (fun vs H Q E h => ?_) (fun cdv A outer s0 H vs Q E hr h => ?_)
  · obtain ⟨rv, ip, fl, hl, nl, ch, nu, p, hs, s, r, rfl, _⟩ := h
    rfl
  obtain ⟨rv, ip, fl, hl, nl, ch, nu, p, hs, s, r, rfl, hix, ⟨hR, ok, ⟨lt, ⟨dx, hi⟩, hn⟩, ⟨fv, hfl, hF⟩, hh, G⟩, hC, hne, k⟩ := h
  obtain ⟨g, q, rfl⟩ : ∃ g q, r = .cut g q := by cases r <;> first | exact ⟨_, _, rfl⟩ | (cases hix)
  obtain ⟨a, xs, rfl, ha, v, rfl, hv⟩ := hR
  have nd := scs_plan_cut.nd
  have hu := hu_of hr
  have Oi := O.i
  have Oc := O.c
  have hnl := G.nl
  have hC' := hC
  obtain ⟨⟨dy, hc⟩, hnu⟩ := hC
  have n1 : ch ≠ ip := ne_of hc hi (by intro z; injection z with z; exact hne z.symm)
  have n2 := n1.symm
  have n3 : nu ≠ ch := ne_of hnu hc (by intro z; cases z)
  refine ⟨_, (pss_one (ps_expr (pe_methC (pv 4) MT_Change_fill (hr.mono (by omega)) (pa_cons (pe_ix (kIxT K) (pv 0) pe_int (fun _ _ => rfl)) (pa_cons (pe_slice (kSlL K) (pe_ix (kIxL K) (pv 2) (pe_ix (kIxT K) (pv 0) pe_int (fun _ _ => rfl)) (fun _ _ => rfl)) po_none (po_some (pe_callC C_comes_to (hr.mono (by omega)) (by rfl) (pa_cons (pe_ix (kIxT K) (pv 0) pe_int (fun _ _ => rfl)) (pa_cons (kFld K (pv 1) rfl) pa_nil))))) pa_nil))))), ?_⟩
  obtain ⟨fa, hfa, hfx⟩ := at_file hF ok.1 (file_len (fl := 0) G ok.1 ok.2.1)
  have hb := Part.val_num G.nn ok.2.2
  walk_at "lw_goc"
  refine comes_go hv ok.2.2 hn hnl ?_
  walk_at "lw_goc"
  refine go_slL hfx (fun L hL => ?_)
  rw [cut_to hb.1, ← List.map_take]
  have S1 := same_new hL (.lst (((s.files.getD g.toNat []).take (q.val s.names).toNat).map V.int))
  have eL : upd H L (.lst (((s.files.getD g.toNat []).take (q.val s.names).toNat).map V.int)) L = some (.lst (((s.file g).take (q.val s.names).toNat).map V.int)) := upd_same
  generalize upd H L (.lst (((s.files.getD g.toNat []).take (q.val s.names).toNat).map V.int)) = H1 at *
  walk_at "lw_goc"
  refine ⟨ch, nu, L, g, _, chg0 s, rfl, hC'.same S1, eL, fun H2 c2 o2 => ?_⟩
  walk_at "lw_goc"
  exact k _ _ c2 (S1.off.trans o2) (.inr hL)
theorem scs_plan_send : FnScope ["row", "inside", "files", "handed", "change"] ["row", "inside", "files", "handed", "change"] (defScope s_plan_send) := ⟨rfl, rfl, rfl, by decide +kernel, rfl, by decide +kernel, by decide +kernel⟩
theorem ok_psend (F : Fun K "plan_send" "plan_send" s_plan_send f fd) (T : Txt mg) (O : Own K mg cI cC dP dL) (C_comes_to : FnC P w K mg base 4 "comes_to" ["part", "names"] (spComes 3)) : FnOk P w K mg base CX0 5 f fd ["row", "inside", "files", "handed", "change"] (spPlan cI cC 7) := by
  refine F.ok scs_plan_send (fun vs H Q E h => ?_) (fun cdv A outer s0 H vs Q E hr h => ?_)
  · obtain ⟨rv, ip, fl, hl, nl, ch, nu, p, hs, s, r, rfl, _⟩ := h
    rfl
  obtain ⟨rv, ip, fl, hl, nl, ch, nu, p, hs, s, r, rfl, hix, ⟨hR, ok, ⟨lt, ⟨dx, hi⟩, hn⟩, ⟨fv, hfl, hF⟩, hh, G⟩, hC, hne, k⟩ := h
  obtain ⟨q, rfl⟩ : ∃ q, r = .send q := by cases r <;> first | exact ⟨_, rfl⟩ | (cases hix)
  obtain ⟨a, xs, rfl, ha, v, rfl, hv⟩ := hR
  have nd := scs_plan_send.nd
  have hu := hu_of hr
  have Oi := O.i
  have Oc := O.c
  have hnl := G.nl
  have hC' := hC
  obtain ⟨⟨dy, hc⟩, hnu⟩ := hC
  have n1 : ch ≠ ip := ne_of hc hi (by intro z; injection z with z; exact hne z.symm)
  have n2 := n1.symm
  have n3 : nu ≠ ch := ne_of hnu hc (by intro z; cases z)
  refine ⟨_, (pss_one (kSFld K (pv 4) (pe_callC C_comes_to (hr.mono (by omega)) (by rfl) (pa_cons (pe_ix (kIxT K) (pv 0) pe_int (fun _ _ => rfl)) (pa_cons (kFld K (pv 1) rfl) pa_nil))) rfl)), ?_⟩
  walk_at "lw_goc"
  refine comes_go hv ok hn hnl ?_
  walk_at "lw_goc"
  exact k nu _ ⟨⟨dy, upd_same⟩, by walk_at "lw_hp"⟩ (off_upd _ _ _) (.inl rfl)
theorem scs_plan_go : FnScope ["row", "inside", "files", "handed", "change"] ["row", "inside", "files", "handed", "change"] (defScope s_plan_go) := ⟨rfl, rfl, rfl, by decide +kernel, rfl, by decide +kernel, by decide +kernel⟩
theorem ok_pgo (F : Fun K "plan_go" "plan_go" s_plan_go f fd) (T : Txt mg) (O : Own K mg cI cC dP dL)  : FnOk P w K mg base CX0 5 f fd ["row", "inside", "files", "handed", "change"] (spPlan cI cC 8) := by
  refine F.ok scs_plan_go (fun vs H Q E h => ?_) (fun cdv A outer s0 H vs Q E hr h => ?_)
  · obtain ⟨rv, ip, fl, hl, nl, ch, nu, p, hs, s, r, rfl, _⟩ := h
    rfl
  obtain ⟨rv, ip, fl, hl, nl, ch, nu, p, hs, s, r, rfl, hix, ⟨hR, ok, ⟨lt, ⟨dx, hi⟩, hn⟩, ⟨fv, hfl, hF⟩, hh, G⟩, hC, hne, k⟩ := h
  obtain ⟨t, rfl⟩ : ∃ t, r = .go t := by cases r <;> first | exact ⟨_, rfl⟩ | (cases hix)
  obtain ⟨a, xs, rfl, ha, rfl⟩ := hR
  have nd := scs_plan_go.nd
  have hu := hu_of hr
  have Oi := O.i
  have Oc := O.c
  have hnl := G.nl
  have hC' := hC
  obtain ⟨⟨dy, hc⟩, hnu⟩ := hC
  have n1 : ch ≠ ip := ne_of hc hi (by intro z; injection z with z; exact hne z.symm)
  have n2 := n1.symm
  have n3 : nu ≠ ch := ne_of hnu hc (by intro z; cases z)
  refine ⟨_, (pss_one (kSFld K (pv 4) (pe_ix (kIxT K) (pv 0) pe_int (fun _ _ => rfl)) rfl)), ?_⟩
  walk_at "lw_goc"
  exact k nu _ ⟨⟨dy, upd_same⟩, by walk_at "lw_hp"⟩ (off_upd _ _ _) (.inl rfl)
theorem scs_plan_unless : FnScope ["row", "inside", "files", "handed", "change"] ["row", "inside", "files", "handed", "change"] (defScope s_plan_unless) := ⟨rfl, rfl, rfl, by decide +kernel, rfl, by decide +kernel, by decide +kernel⟩
theorem ok_punless (F : Fun K "plan_unless" "plan_unless" s_plan_unless f fd) (T : Txt mg) (O : Own K mg cI cC dP dL)  : FnOk P w K mg base CX0 5 f fd ["row", "inside", "files", "handed", "change"] (spPlan cI cC 9) := by
  refine F.ok scs_plan_unless (fun vs H Q E h => ?_) (fun cdv A outer s0 H vs Q E hr h => ?_)
  · obtain ⟨rv, ip, fl, hl, nl, ch, nu, p, hs, s, r, rfl, _⟩ := h
    rfl
  obtain ⟨rv, ip, fl, hl, nl, ch, nu, p, hs, s, r, rfl, hix, ⟨hR, ok, ⟨lt, ⟨dx, hi⟩, hn⟩, ⟨fv, hfl, hF⟩, hh, G⟩, hC, hne, k⟩ := h
  obtain ⟨n, t, rfl⟩ : ∃ n t, r = .unl n t := by cases r <;> first | exact ⟨_, _, rfl⟩ | (cases hix)
  obtain ⟨a, xs, rfl, ha, rfl⟩ := hR
  have nd := scs_plan_unless.nd
  have hu := hu_of hr
  have Oi := O.i
  have Oc := O.c
  have hnl := G.nl
  have hC' := hC
  obtain ⟨⟨dy, hc⟩, hnu⟩ := hC
  have n1 : ch ≠ ip := ne_of hc hi (by intro z; injection z with z; exact hne z.symm)
  have n2 := n1.symm
  have n3 : nu ≠ ch := ne_of hnu hc (by intro z; cases z)
  refine ⟨_, (pss_one (ps_if (pt_cmpR op_eq (pe_ix (kIxL K) (kFld K (pv 1) rfl) (pe_ix (kIxT K) (pv 0) pe_int (fun _ _ => rfl)) (fun _ _ => rfl)) pe_int (nomark _)) (pss_one (kSFld K (pv 4) (pe_ix (kIxT K) (pv 0) pe_int (fun _ _ => rfl)) rfl)) pss_nil)), ?_⟩
  have hat : atI (s.names.map V.int) n = some (.int (s.names.getD n.toNat 0)) := at_num ok.1 (by have := ok.2.1; omega)
  walk_at "lw_goc"
  refine go_iteD (fun c => ?_) (fun c => ?_)
  · walk_at "lw_goc"
    rw [show chgM hs s (.unl n t) = { chg0 s with follows := t } from if_pos c] at k
    exact k nu _ ⟨⟨dy, upd_same⟩, by walk_at "lw_hp"⟩ (off_upd _ _ _) (.inl rfl)
  · walk_at "lw_goc"
    rw [show chgM hs s (.unl n t) = chg0 s from if_neg c] at k
    exact k nu _ hC' (Off.refl _ _) (.inl rfl)
theorem scs_plan_mark : FnScope ["row", "inside", "files", "handed", "change"] ["row", "inside", "files", "handed", "change"] (defScope s_plan_mark) := ⟨rfl, rfl, rfl, by decide +kernel, rfl, by decide +kernel, by decide +kernel⟩
theorem ok_pmark (F : Fun K "plan_mark" "plan_mark" s_plan_mark f fd) (T : Txt mg) (O : Own K mg cI cC dP dL)  : FnOk P w K mg base CX0 5 f fd ["row", "inside", "files", "handed", "change"] (spPlan cI cC 10) := by
  refine F.ok scs_plan_mark (fun vs H Q E h => ?_) (fun cdv A outer s0 H vs Q E hr h => ?_)
  · obtain ⟨rv, ip, fl, hl, nl, ch, nu, p, hs, s, r, rfl, _⟩ := h
    rfl
  obtain ⟨rv, ip, fl, hl, nl, ch, nu, p, hs, s, r, rfl, hix, ⟨hR, ok, ⟨lt, ⟨dx, hi⟩, hn⟩, ⟨fv, hfl, hF⟩, hh, G⟩, hC, hne, k⟩ := h
  obtain ⟨_, rfl⟩ : ∃ _ : Unit, r = .mark := by cases r <;> first | exact ⟨(), rfl⟩ | (cases hix)
  obtain ⟨a, xs, rfl, ha, rfl⟩ := hR
  have nd := scs_plan_mark.nd
  have hu := hu_of hr
  have Oi := O.i
  have Oc := O.c
  have hnl := G.nl
  have hC' := hC
  obtain ⟨⟨dy, hc⟩, hnu⟩ := hC
  have n1 : ch ≠ ip := ne_of hc hi (by intro z; injection z with z; exact hne z.symm)
  have n2 := n1.symm
  have n3 : nu ≠ ch := ne_of hnu hc (by intro z; cases z)
  refine ⟨_, (pss_one ps_pass), ?_⟩
  walk_at "lw_goc"
  exact k nu _ hC' (Off.refl _ _) (.inl rfl)
end
end Lw
set_option Elab.async false
set_option linter.all false
set_option maxRecDepth 100000
set_option maxHeartbeats 4000000
namespace Lw
open PySem L2
local macro_rules | `(tactic| walk_at "lw_hp") => `(tactic| (repeat (first | assumption | exact upd_same | (refine' upd_new (by assumption) ?_) | (refine' tup_off (by assumption) (by assumption) ?_) | (refine' lst_off (by assumption) (by assumption) (by assumption) ?_) | (refine' Same.get (by assumption) ?_) | (refine' Off.get (by assumption) (by assumption) ?_) | (refine' upd_oth (by assumption) ?_))))
local macro_rules | `(tactic| walk_at "lw_goc") => `(tactic| (repeat (first | (with_reducible (first | refine go_var rfl ?_ | refine go_c ?_ | refine go_cons ?_ | refine go_op ?_ | refine go_nil ?_ | refine go_seq ?_ | refine go_qb ?_ | refine go_test ?_ | refine go_ifS ?_ | refine go_gname ?_ | refine go_cb ?_)) | ((with_reducible refine' go_ixT ?hp ?ha ?_); (case hp => walk_at "lw_hp"); (case ha => first | rfl | assumption)) | (with_reducible (first | refine go_asg ?_ | refine go_callC ?_ | refine go_next ?_ | refine go_tup ?_ | refine go_i0 ?_ | refine go_ret ?_ | refine go_dget ?_)) | ((with_reducible show qFld _ _ _ _ _); (first | ((with_reducible refine' ig_row (by assumption) ?hp ?_); (case hp => walk_at "lw_hp")) | ((with_reducible refine' ig_names (by assumption) ?hp ?_); (case hp => walk_at "lw_hp")) | ((with_reducible refine' ig_taken (by assumption) ?hp ?_); (case hp => walk_at "lw_hp")) | ((with_reducible refine' ig_done (by assumption) ?hp ?_); (case hp => walk_at "lw_hp")) | ((with_reducible refine' ig_letters (by assumption) ?hp ?_); (case hp => walk_at "lw_hp")) | ((with_reducible refine' cg_follows (by assumption) ?hp ?_); (case hp => walk_at "lw_hp")) | ((with_reducible refine' cg_fault (by assumption) ?hp ?_); (case hp => walk_at "lw_hp")) | ((with_reducible refine' cg_name (by assumption) ?hp ?_); (case hp => walk_at "lw_hp")) | ((with_reducible refine' cg_worth (by assumption) ?hp ?_); (case hp => walk_at "lw_hp")) | ((with_reducible refine' cg_takes (by assumption) ?hp ?_); (case hp => walk_at "lw_hp")) | ((with_reducible refine' cg_file (by assumption) ?hp ?_); (case hp => walk_at "lw_hp")) | ((with_reducible refine' cg_numbers (by assumption) ?hp ?_); (case hp => walk_at "lw_hp")) | ((with_reducible refine' cg_letter (by assumption) ?hp ?_); (case hp => walk_at "lw_hp")))) | (with_reducible (first | refine go_fld ?_ | refine go_gcons ?_)) | ((with_reducible show qSFld _ _ _ _ _ _); (first | ((with_reducible refine' is_row (by assumption) ?hp ?_); (case hp => walk_at "lw_hp")) | ((with_reducible refine' is_names (by assumption) ?hp ?_); (case hp => walk_at "lw_hp")) | ((with_reducible refine' is_taken (by assumption) ?hp ?_); (case hp => walk_at "lw_hp")) | ((with_reducible refine' is_done (by assumption) ?hp ?_); (case hp => walk_at "lw_hp")) | ((with_reducible refine' is_letters (by assumption) ?hp ?_); (case hp => walk_at "lw_hp")) | ((with_reducible refine' cs_follows (by assumption) ?hp ?_); (case hp => walk_at "lw_hp")) | ((with_reducible refine' cs_fault (by assumption) ?hp ?_); (case hp => walk_at "lw_hp")) | ((with_reducible refine' cs_name (by assumption) ?hp ?_); (case hp => walk_at "lw_hp")) | ((with_reducible refine' cs_worth (by assumption) ?hp ?_); (case hp => walk_at "lw_hp")) | ((with_reducible refine' cs_takes (by assumption) ?hp ?_); (case hp => walk_at "lw_hp")) | ((with_reducible refine' cs_file (by assumption) ?hp ?_); (case hp => walk_at "lw_hp")) | ((with_reducible refine' cs_numbers (by assumption) ?hp ?_); (case hp => walk_at "lw_hp")) | ((with_reducible refine' cs_letter (by assumption) ?hp ?_); (case hp => walk_at "lw_hp")))) | (with_reducible (first | refine go_gsub ?_ | refine go_testB ?_ | refine go_sfld ?_)) | ((with_reducible refine' go_ixL ?hp ?ha ?_); (case hp => walk_at "lw_hp"); (case ha => first | rfl | assumption)) | (with_reducible (first | refine' go_ixLs (by assumption) (by assumption) ?_ | refine go_lst ?_)) | ((with_reducible refine' go_i ?cc ?_); (case cc => first | omega | (simp only [CDiv, CMul, CPow]; omega) | (simp only [CDiv, CMul, CPow]; decide))) | (with_reducible refine go_drop ?_) | ((with_reducible show qMeth _ _ _ _ _); (first | ((with_reducible refine' im_follow ?hp ?_); (case hp => walk_at "lw_hp")) | ((with_reducible refine' im_twin ?hp ?_); (case hp => walk_at "lw_hp")) | ((with_reducible refine' cm_hold ?hp ?_); (case hp => walk_at "lw_hp")) | ((with_reducible refine' cm_fill ?hp ?_); (case hp => walk_at "lw_hp")))) | (with_reducible (first | refine go_eqI ?_ | refine go_eqS ?_ | refine go_eqB ?_ | refine go_eq (by rfl) ?_ | refine go_gnil ?_ | refine go_iteT ?_ | refine go_iteF ?_ | refine go_iteNt ?_ | refine go_iteNf ?_ | refine go_iteNN ?_)) | (with_reducible refine go_iteDT (by first | assumption | rfl | omega | (simp only [List.length_cons, List.length_nil, List.length_map]; omega)) ?_) | (with_reducible refine go_iteDF (by first | assumption | omega | decide | decide +kernel | (simp only [List.length_cons, List.length_nil, List.length_map]; omega)) ?_) | (with_reducible refine go_iteNT (by first | assumption | rfl | omega | (simp only [List.length_cons, List.length_nil, List.length_map]; omega)) ?_) | (with_reducible refine go_iteNF (by first | assumption | omega | decide | decide +kernel | (simp only [List.length_cons, List.length_nil, List.length_map]; omega)) ?_) | (with_reducible refine go_iteBT (by first | assumption | decide +kernel) ?_) | (with_reducible refine go_iteBF (by first | assumption | decide +kernel) ?_) | (with_reducible (first | refine go_dput ?_ | refine go_setD ?_)) | ((with_reducible refine' go_gtup ?hp ?ha ?_); (case hp => walk_at "lw_hp"); (case ha => first | rfl | assumption)) | (with_reducible refine go_if ?_) | ((with_reducible refine' go_setL ?hp ?ha ?_); (case hp => walk_at "lw_hp"); (case ha => first | rfl | assumption)) | (with_reducible (first | refine go_not ?_ | refine go_or ?_ | refine go_andV ?_)) | ((with_reducible show qFA _ _ _ _ _ _ _ _); (first | ((with_reducible refine' ia_row (by assumption) ?hp ?_); (case hp => walk_at "lw_hp")) | ((with_reducible refine' ia_names (by assumption) ?hp ?_); (case hp => walk_at "lw_hp")) | ((with_reducible refine' ia_taken (by assumption) ?hp ?_); (case hp => walk_at "lw_hp")) | ((with_reducible refine' ia_done (by assumption) ?hp ?_); (case hp => walk_at "lw_hp")) | ((with_reducible refine' ia_letters (by assumption) ?hp ?_); (case hp => walk_at "lw_hp")) | ((with_reducible refine' ca_follows (by assumption) ?hp ?_); (case hp => walk_at "lw_hp")) | ((with_reducible refine' ca_fault (by assumption) ?hp ?_); (case hp => walk_at "lw_hp")) | ((with_reducible refine' ca_name (by assumption) ?hp ?_); (case hp => walk_at "lw_hp")) | ((with_reducible refine' ca_worth (by assumption) ?hp ?_); (case hp => walk_at "lw_hp")) | ((with_reducible refine' ca_takes (by assumption) ?hp ?_); (case hp => walk_at "lw_hp")) | ((with_reducible refine' ca_file (by assumption) ?hp ?_); (case hp => walk_at "lw_hp")) | ((with_reducible refine' ca_numbers (by assumption) ?hp ?_); (case hp => walk_at "lw_hp")) | ((with_reducible refine' ca_letter (by assumption) ?hp ?_); (case hp => walk_at "lw_hp")))) | ((with_reducible show qFB _ _ _ _ _ _); (first | ((with_reducible refine' ib_row ?hp ?_); (case hp => walk_at "lw_hp")) | ((with_reducible refine' ib_names ?hp ?_); (case hp => walk_at "lw_hp")) | ((with_reducible refine' ib_taken ?hp ?_); (case hp => walk_at "lw_hp")) | ((with_reducible refine' ib_done ?hp ?_); (case hp => walk_at "lw_hp")) | ((with_reducible refine' ib_letters ?hp ?_); (case hp => walk_at "lw_hp")) | ((with_reducible refine' cb_follows ?hp ?_); (case hp => walk_at "lw_hp")) | ((with_reducible refine' cb_fault ?hp ?_); (case hp => walk_at "lw_hp")) | ((with_reducible refine' cb_name ?hp ?_); (case hp => walk_at "lw_hp")) | ((with_reducible refine' cb_worth ?hp ?_); (case hp => walk_at "lw_hp")) | ((with_reducible refine' cb_takes ?hp ?_); (case hp => walk_at "lw_hp")) | ((with_reducible refine' cb_file ?hp ?_); (case hp => walk_at "lw_hp")) | ((with_reducible refine' cb_numbers ?hp ?_); (case hp => walk_at "lw_hp")) | ((with_reducible refine' cb_letter ?hp ?_); (case hp => walk_at "lw_hp")))) | (with_reducible (first | refine go_sl ?_ | refine go_nopart ?_ | refine go_part ?_ | refine go_qI ?_ | refine' go_lenLs (by assumption) ?_)) | ((with_reducible refine' go_lenL ?hp ?_); (case hp => walk_at "lw_hp")) | ((with_reducible refine' go_lenT ?hp ?_); (case hp => walk_at "lw_hp")) | ((with_reducible refine' go_inT ?hp ?ha ?hb ?_); (case hp => walk_at "lw_hp"); (case ha => rfl); (case hb => rfl)) | ((with_reducible refine' go_notInT ?hp ?ha ?hb ?_); (case hp => walk_at "lw_hp"); (case ha => rfl); (case hb => rfl)) | (with_reducible (first | refine go_sfa ?_ | refine go_radd ?_ | refine go_pnil ?_ | refine go_pcons ?_ | refine go_un ?_ | refine go_u ?_ | refine go_for ?_ | refine go_rng1 ?_ | refine go_qrng1 (by omega) (by omega) ?_ | refine go_methC ?_ | refine go_notN_non ?_ | refine go_notN_int ?_ | refine go_notN_str ?_ | refine go_notN_bl ?_ | refine go_notN_ref ?_ | refine go_min ?_ | refine go_bm ?_ | refine go_lc ?_)) | ((with_reducible refine' go_qbm ?hp ?_); (case hp => walk_at "lw_hp")) | (with_reducible (first | refine go_int ?_ | refine go_intB ?_ | refine go_yes ?_ | refine go_and ?_ | refine go_notV ?_ | refine go_iL ?_)) | ((with_reducible refine' go_glst ?hp ?ha ?_); (case hp => walk_at "lw_hp"); (case ha => first | rfl | assumption)) | ((with_reducible refine' go_qiL ?hp ?_); (case hp => walk_at "lw_hp")) | (with_reducible (first | refine go_dgetK ?_ | refine go_par ?_ | refine go_gpar ?_ | refine go_isN_non ?_ | refine go_isN_int ?_ | refine go_isN_str ?_ | refine go_isN_bl ?_ | refine go_isN_ref ?_ | refine go_neI ?_ | refine go_neS ?_ | refine go_neB ?_ | refine go_iT ?_ | refine go_ne (by rfl) ?_)) | ((with_reducible refine' go_ixAL ?hp ?ha ?_); (case hp => walk_at "lw_hp"); (case ha => first | rfl | assumption)) | ((with_reducible refine' go_ixAT ?hp ?ha ?_); (case hp => walk_at "lw_hp"); (case ha => first | rfl | assumption)) | ((with_reducible refine' go_qiT ?hp ?_); (case hp => walk_at "lw_hp")) | (with_reducible (first | refine go_makeC ?_ | refine go_is_non_int ?_ | refine go_is_non_bool ?_ | refine go_is_non_str ?_ | refine go_is_non_tuple ?_ | refine go_is_non_list ?_ | refine go_is_bl_int ?_ | refine go_is_bl_bool ?_ | refine go_is_bl_str ?_ | refine go_is_bl_tuple ?_ | refine go_is_bl_list ?_ | refine go_is_int_int ?_ | refine go_is_int_bool ?_ | refine go_is_int_str ?_ | refine go_is_int_tuple ?_ | refine go_is_int_list ?_ | refine go_is_str_int ?_ | refine go_is_str_bool ?_ | refine go_is_str_str ?_ | refine go_is_str_tuple ?_ | refine go_is_str_list ?_)) | ((with_reducible refine' go_is_lst_int ?hp ?_); (case hp => walk_at "lw_hp")) | ((with_reducible refine' go_is_lst_bool ?hp ?_); (case hp => walk_at "lw_hp")) | ((with_reducible refine' go_is_lst_str ?hp ?_); (case hp => walk_at "lw_hp")) | ((with_reducible refine' go_is_lst_tuple ?hp ?_); (case hp => walk_at "lw_hp")) | ((with_reducible refine' go_is_lst_list ?hp ?_); (case hp => walk_at "lw_hp")) | ((with_reducible refine' go_is_tup_int ?hp ?_); (case hp => walk_at "lw_hp")) | ((with_reducible refine' go_is_tup_bool ?hp ?_); (case hp => walk_at "lw_hp")) | ((with_reducible refine' go_is_tup_str ?hp ?_); (case hp => walk_at "lw_hp")) | ((with_reducible refine' go_is_tup_tuple ?hp ?_); (case hp => walk_at "lw_hp")) | ((with_reducible refine' go_is_tup_list ?hp ?_); (case hp => walk_at "lw_hp")) | (with_reducible (first | refine go_max ?_ | refine go_bm0 ?_ | refine go_chain ?_ | refine go_qch ?_)) | ((with_reducible refine' go_qbm0 ?hp ?_); (case hp => walk_at "lw_hp")) | (with_reducible (first | refine go_dinK ?_ | refine go_enumT ?_ | refine go_zipT ?_ | refine go_retN ?_ | refine go_orV ?_ | refine go_whQ ?_ | refine go_rng2 ?_ | refine go_qrng2 (by omega) (by omega) (by omega) (by omega) ?_ | refine go_rvr ?_ | refine go_qrvr (by omega) (by omega) ?_ | refine go_enum ?_ | refine go_aug rfl ?_ | refine go_ipI ?_)) | ((with_reducible refine' go_qenum ?hp ?_); (case hp => walk_at "lw_hp")) | ((with_reducible refine' go_sumL ?hp ?_); (case hp => walk_at "lw_hp")) | (with_reducible refine go_tru ?_))))
abbrev s_planned : Stmt := top 39
abbrev s_ended : Stmt := top 42
abbrev s_do_change : Stmt := top 43
def PlansOk (P : Program) (w : World) (K : PySem.W.Frag) (mg : Str → Option Value) (base : Heap) (cI cC dL : Addr) : Prop := ∀ r : Row, ∃ f fd, FnOk P w K mg base CX0 5 f fd ["row", "inside", "files", "handed", "change"] (spPlan cI cC r.ix) ∧ dictIn K dL r.kinds.1 = some (some (.ref f)) ∧ PySem.W.keepIn K (.ref f) = true ∧ Binds K fd ["row", "inside", "files", "handed", "change"] []
def spPlanned (cI cC : Addr) : Sp := fun vs H Q _ => ∃ (rv : V) (ip fl hl nl : Addr) (p : Prog) (hs : List Int) (s : S) (r : Row), vs = [rv, .ref ip, .ref fl, .ref hl] ∧ PlAt cI H rv ip fl hl nl p hs s r ∧ cI ≠ cC ∧
  ∀ (ch nu : Addr) (H' : Hp), ChgAt cC H' ch nu (chgM hs s r) → Same H H' → H ch = none → H nu = none → Q (.ref ch) H'
theorem made_same {H H1 : Hp} {x dx : Addr} {o o' : HO} (nx : H x = none) (ndx : H dx = none) (o1 : Off x (upd (upd H dx o) x o') H1) : Same H H1 := fun b u hb => by
  have b1 := ne_of_none hb nx
  have b2 := ne_of_none hb ndx
  exact o1 b u (by rw [upd_ne b1, upd_ne b2]; exact hb) b1
theorem made_free {H : Hp} {x dx a : Addr} {o o' : HO} (h : upd (upd H dx o) x o' a = none) : H a = none ∧ a ≠ x := by
  have b1 : a ≠ x := by intro z; subst z; rw [upd_same] at h; cases h
  have b2 : a ≠ dx := by intro z; subst z; rw [upd_ne b1, upd_same] at h; cases h
  rw [upd_ne b1, upd_ne b2] at h
  exact ⟨h, b1⟩
section
variable {P : Program} {w : World} {K : PySem.W.Frag} {mg : Str → Option Value} {base : Heap} {f : Addr} {fd : FuncData} {cI cC dP dL : Addr}
theorem scs_planned : FnScope ["row", "inside", "files", "handed", "change", "plan"] ["row", "inside", "files", "handed"] (defScope s_planned) := ⟨rfl, rfl, rfl, by decide +kernel, rfl, by decide +kernel, by decide +kernel⟩
theorem ok_planned (F : Fun K "planned" "planned" s_planned f fd) (T : Txt mg) (O : Own K mg cI cC dP dL) (M_Change : MkC P w K mg base 1 "Change" cC ["self", "follows"] (spCInit cC)) (D : PlansOk P w K mg base cI cC dL) : FnOk P w K mg base CX0 6 f fd ["row", "inside", "files", "handed"] (spPlanned cI cC) := by
  refine F.ok scs_planned (fun vs H Q E h => ?_) (fun cdv A outer s0 H vs Q E hr h => ?_)
  · obtain ⟨rv, ip, fl, hl, nl, p, hs, s, r, rfl, _⟩ := h
    rfl
  obtain ⟨rv, ip, fl, hl, nl, p, hs, s, r, rfl, hA, hne, k⟩ := h
  obtain ⟨g, gd, G, hd, hk, hb⟩ := D r
  obtain ⟨lt, ⟨dx0, hi⟩, hn⟩ := hA.i
  have hR := hA.rr
  obtain ⟨a, xs, rfl, ha, hx⟩ := hR
  obtain ⟨rest, rfl, _⟩ := row_word hx
  have hat : atI (.str r.kinds.1 :: rest) 0 = some (.str r.kinds.1) := by show atI (_ :: rest) ((0 : Nat) : Int) = _; exact atI_nat rfl
  have nd := scs_planned.nd
  have hu := hu_of hr
  have Oi := O.i
  have Oc := O.c
  refine ⟨_, (pss_cons (ps_set (i := 4) nd rfl (Or.inl rfl) (pe_makeC M_Change (hr.mono (by omega)) (by rfl) (pa_cons (pe_op op_add (kFld K (pv 1) rfl) pe_int) pa_nil)))
      (pss_cons (ps_set (i := 5) nd rfl (Or.inl rfl) (pe_dgetK K (pe_gref (by rfl) O.g_PLANS) (pe_ix (kIxT K) (pv 0) pe_int (fun _ _ => rfl)) (fun _ _ => rfl)))
      (pss_cons (ps_expr (pe_callL P w K mg base 5 (pv 5) (hr.mono (by omega)) (pa_cons (pv 0) (pa_cons (pv 1) (pa_cons (pv 2) (pa_cons (pv 3) (pa_cons (pv 4) pa_nil)))))))
      (pss_one (ps_ret (pv 4)))))), ?_⟩
  walk_at "lw_goc"
  intro x dx nx ndx nex
  refine ⟨x, dx, _, rfl, upd_same, fun nu H1 fnu c1 o1 => ⟨rfl, ?_⟩⟩
  have S1 := made_same nx ndx o1
  obtain ⟨fnu', nnu⟩ := made_free fnu
  have hA1 := hA.same S1
  have ha1 := S1 _ _ ha
  clear o1
  walk_at "lw_goc"
  refine go_qdgK (v := .ref g) hd rfl ?_
  walk_at "lw_goc"
  refine ⟨g, gd, _, _, rfl, G, hk, hb, ?_⟩
  walk_at "lw_goc"
  refine ⟨_, ip, fl, hl, nl, x, nu, p, hs, s, r, rfl, rfl, hA1, c1, hne, fun nu' H2 c2 o2 hnu' => ?_⟩
  walk_at "lw_goc"
  refine k x nu' H2 c2 (fun b u hb' => o2 b u (S1 b u hb') (ne_of_none hb' nx)) nx ?_
  rcases hnu' with rfl | z
  · exact fnu'
  · exact S1.free z
def spEnded (cI : Addr) : Sp := fun vs H Q _ => ∃ (pb ip nl : Addr) (rs : List V) (row : Int) (ns : List Int) (tk dn lt : Int), vs = [.ref pb, .ref ip] ∧ H pb = some (.tup rs) ∧ InAt cI H ip nl row ns tk dn lt ∧
  ∀ (v : V) (H' : Hp), Same H H' → EndO H' (endM row rs.length dn) v → Q v H'
theorem scs_ended : FnScope ["rows", "inside"] ["rows", "inside"] (defScope s_ended) := ⟨rfl, rfl, rfl, by decide +kernel, rfl, by decide +kernel, by decide +kernel⟩
theorem ok_ended (F : Fun K "ended" "ended" s_ended f fd) (T : Txt mg) (O : Own K mg cI cC dP dL) : FnOk P w K mg base CX0 1 f fd ["rows", "inside"] (spEnded cI) := by
  refine F.ok scs_ended (fun vs H Q E h => ?_) (fun cdv A outer s0 H vs Q E hr h => ?_)
  · obtain ⟨pb, ip, nl, rs, row, ns, tk, dn, lt, rfl, _⟩ := h
    rfl
  obtain ⟨pb, ip, nl, rs, row, ns, tk, dn, lt, rfl, hpb, ⟨⟨dx, hi⟩, hn⟩, k⟩ := h
  have nd := scs_ended.nd
  have hu := hu_of hr
  have Oi := O.i
  have Oc := O.c
  refine ⟨_, (pss_cons (ps_if (pt_cmpR op_eq (kFld K (pv 1) rfl) (pe_callB (kLen K) (by rfl) T.n_len (by decide +kernel) (pa_cons (pv 0) pa_nil)) (nomark _)) (pss_one (ps_ret (pe_tup (pa_cons pe_str pa_nil)))) pss_nil)
      (pss_cons (ps_if (pt_cmpR op_eq (kFld K (pv 1) rfl) (pe_gint (by rfl) T.g_MOST_DONE) (nomark _)) (pss_one (ps_ret (pe_tup (pa_cons pe_str pa_nil)))) pss_nil)
      (pss_one (ps_ret pe_non)))), ?_⟩
  walk_at "lw_goc"
  refine go_iteD (fun c => ?_) (fun c => ?_)
  · walk_at "lw_goc"
    refine go_qtup (Nat.le_of_ble_eq_true rfl) (fun t ht => ?_)
    refine k _ _ (same_new ht _) ?_
    rw [show endM row rs.length dn = some .done from if_pos c]
    exact ⟨t, rfl, upd_same⟩
  · walk_at "lw_goc"
    refine go_iteD (fun c2 => ?_) (fun c2 => ?_)
    · walk_at "lw_goc"
      refine go_qtup (Nat.le_of_ble_eq_true rfl) (fun t ht => ?_)
      refine k _ _ (same_new ht _) ?_
      rw [show endM row rs.length dn = some .long from by unfold endM; rw [if_neg c, if_pos c2]]
      exact ⟨t, rfl, upd_same⟩
    · walk_at "lw_goc"
      refine k _ _ (Same.refl _) ?_
      rw [show endM row rs.length dn = none from by unfold endM; rw [if_neg c, if_neg c2]]
      rfl
def Chg.vals (e : Chg) (nu : Addr) (fv : List V) : List V := match e.file with | none => fv | some g => fv.set g.toNat (.ref nu)
def spDoChange (cC : Addr) : Sp := fun vs H Q _ => ∃ (ch nu fl sn : Addr) (e : Chg) (fv : List V) (ms : List Int) (nm : Int), vs = [.ref ch, .ref fl, .ref sn] ∧ ChgAt cC H ch nu e ∧ H fl = some (.lst fv) ∧ H sn = some (.lst (ms.map V.int)) ∧ fl ≠ sn ∧ e.In nm fv.length ∧ ms.length ≤ 5000 ∧
  ∀ (H' : Hp), H' fl = some (.lst (e.vals nu fv)) → H' sn = some (.lst ((ms ++ e.letter.toList).map V.int)) → Off2 fl sn H H' → Q .non H'
theorem scs_do_change : FnScope ["change", "files", "sent"] ["change", "files", "sent"] (defScope s_do_change) := ⟨rfl, rfl, rfl, by decide +kernel, rfl, by decide +kernel, by decide +kernel⟩
theorem ok_dochange (F : Fun K "do_change" "do_change" s_do_change f fd) (T : Txt mg) (O : Own K mg cI cC dP dL) : FnOk P w K mg base CX0 1 f fd ["change", "files", "sent"] (spDoChange cC) := by
  refine F.ok scs_do_change (fun vs H Q E h => ?_) (fun cdv A outer s0 H vs Q E hr h => ?_)
  · obtain ⟨ch, nu, fl, sn, e, fv, ms, nm, rfl, _⟩ := h
    rfl
  obtain ⟨ch, nu, fl, sn, e, fv, ms, nm, rfl, ⟨⟨dy, hc⟩, hnu⟩, hfl, hsn, hne, hin, hlen, k⟩ := h
  have nd := scs_do_change.nd
  have hu := hu_of hr
  have Oi := O.i
  have Oc := O.c
  have n1 := hne.symm
  have n2 : fl ≠ ch := ne_of hfl hc (by intro z; cases z)
  have n3 := n2.symm
  have n4 : sn ≠ ch := ne_of hsn hc (by intro z; cases z)
  have n5 := n4.symm
  refine ⟨_, (pss_cons (ps_if (pt_cmpR o_notN (kFld K (pv 0) rfl) pe_non (nomark _)) (pss_one (ps_asg (kFld K (pv 0) rfl) (pg_sub (pv 1) (kFld K (pv 0) rfl) set_list))) pss_nil)
      (pss_one (ps_if (pt_cmpR o_notN (kFld K (pv 0) rfl) pe_non (nomark _)) (pss_one (ps_expr (pe_bm PySem.F.plainAttrs_list PySem.F.slot_list_append PySem.F.type_list_append mt_append (pv 2) (pa_cons (kFld K (pv 0) rfl) pa_nil)))) pss_nil))), ?_⟩
  obtain ⟨fo, fa, na, wo, ta, fi, nus, le⟩ := e
  rcases fi with _ | g
  · rcases le with _ | z
    · replace hc : H ch = some (.ins cC dy (cF (.int fo) (optS fa) (optI na) (.int wo) (.int ta) .non (.ref nu) .non)) := hc
      walk_at "lw_goc"
      refine k _ hfl ?_ (fun b u hb _ _ => hb)
      show H sn = some (.lst ((ms ++ []).map V.int))
      rw [List.append_nil]; exact hsn
    · replace hc : H ch = some (.ins cC dy (cF (.int fo) (optS fa) (optI na) (.int wo) (.int ta) .non (.ref nu) (.int z))) := hc
      walk_at "lw_goc"
      refine go_append hsn (small_line (by rw [List.length_map]; omega)) ?_
      walk_at "lw_goc"
      refine k _ (upd_oth hne hfl) ?_ (fun b u hb h1 h2 => upd_oth h2 hb)
      show _ = some (HO.lst ((ms ++ [z]).map V.int))
      rw [upd_same, List.map_append]; rfl
  · have hz := hin.f g rfl
    have hix : ixN fv.length g = some g.toNat := ixN_of hz.1 hz.2
    rcases le with _ | z
    · replace hc : H ch = some (.ins cC dy (cF (.int fo) (optS fa) (optI na) (.int wo) (.int ta) (.int g) (.ref nu) .non)) := hc
      walk_at "lw_goc"
      refine k _ upd_same ?_ (fun b u hb h1 h2 => upd_oth h1 hb)
      show _ = some (HO.lst ((ms ++ []).map V.int))
      rw [List.append_nil]; exact upd_oth n1 hsn
    · replace hc : H ch = some (.ins cC dy (cF (.int fo) (optS fa) (optI na) (.int wo) (.int ta) (.int g) (.ref nu) (.int z))) := hc
      walk_at "lw_goc"
      refine go_append (upd_oth n1 hsn) (small_line (by rw [List.length_map]; omega)) ?_
      walk_at "lw_goc"
      refine k _ (upd_oth hne upd_same) ?_ (fun b u hb h1 h2 => upd_oth h2 (upd_oth h1 hb))
      show _ = some (HO.lst ((ms ++ [z]).map V.int))
      rw [upd_same, List.map_append]; rfl
end
end Lw
set_option Elab.async false
set_option linter.all false
set_option maxRecDepth 100000
set_option maxHeartbeats 4000000
namespace Lw
open PySem L2
local macro_rules | `(tactic| walk_at "lw_hp") => `(tactic| (repeat (first | assumption | exact upd_same | (refine' upd_new (by assumption) ?_) | (refine' tup_off (by assumption) (by assumption) ?_) | (refine' lst_off (by assumption) (by assumption) (by assumption) ?_) | (refine' Same.get (by assumption) ?_) | (refine' Off.get (by assumption) (by assumption) ?_) | (refine' upd_oth (by assumption) ?_))))
local macro_rules | `(tactic| walk_at "lw_goc") => `(tactic| (repeat (first | (with_reducible (first | refine go_var rfl ?_ | refine go_c ?_ | refine go_cons ?_ | refine go_op ?_ | refine go_nil ?_ | refine go_seq ?_ | refine go_qb ?_ | refine go_test ?_ | refine go_ifS ?_ | refine go_gname ?_ | refine go_cb ?_)) | ((with_reducible refine' go_ixT ?hp ?ha ?_); (case hp => walk_at "lw_hp"); (case ha => first | rfl | assumption)) | (with_reducible (first | refine go_asg ?_ | refine go_callC ?_ | refine go_next ?_ | refine go_tup ?_ | refine go_i0 ?_ | refine go_ret ?_ | refine go_dget ?_)) | ((with_reducible show qFld _ _ _ _ _); (first | ((with_reducible refine' ig_row (by assumption) ?hp ?_); (case hp => walk_at "lw_hp")) | ((with_reducible refine' ig_names (by assumption) ?hp ?_); (case hp => walk_at "lw_hp")) | ((with_reducible refine' ig_taken (by assumption) ?hp ?_); (case hp => walk_at "lw_hp")) | ((with_reducible refine' ig_done (by assumption) ?hp ?_); (case hp => walk_at "lw_hp")) | ((with_reducible refine' ig_letters (by assumption) ?hp ?_); (case hp => walk_at "lw_hp")) | ((with_reducible refine' cg_follows (by assumption) ?hp ?_); (case hp => walk_at "lw_hp")) | ((with_reducible refine' cg_fault (by assumption) ?hp ?_); (case hp => walk_at "lw_hp")) | ((with_reducible refine' cg_name (by assumption) ?hp ?_); (case hp => walk_at "lw_hp")) | ((with_reducible refine' cg_worth (by assumption) ?hp ?_); (case hp => walk_at "lw_hp")) | ((with_reducible refine' cg_takes (by assumption) ?hp ?_); (case hp => walk_at "lw_hp")) | ((with_reducible refine' cg_file (by assumption) ?hp ?_); (case hp => walk_at "lw_hp")) | ((with_reducible refine' cg_numbers (by assumption) ?hp ?_); (case hp => walk_at "lw_hp")) | ((with_reducible refine' cg_letter (by assumption) ?hp ?_); (case hp => walk_at "lw_hp")))) | (with_reducible (first | refine go_fld ?_ | refine go_gcons ?_)) | ((with_reducible show qSFld _ _ _ _ _ _); (first | ((with_reducible refine' is_row (by assumption) ?hp ?_); (case hp => walk_at "lw_hp")) | ((with_reducible refine' is_names (by assumption) ?hp ?_); (case hp => walk_at "lw_hp")) | ((with_reducible refine' is_taken (by assumption) ?hp ?_); (case hp => walk_at "lw_hp")) | ((with_reducible refine' is_done (by assumption) ?hp ?_); (case hp => walk_at "lw_hp")) | ((with_reducible refine' is_letters (by assumption) ?hp ?_); (case hp => walk_at "lw_hp")) | ((with_reducible refine' cs_follows (by assumption) ?hp ?_); (case hp => walk_at "lw_hp")) | ((with_reducible refine' cs_fault (by assumption) ?hp ?_); (case hp => walk_at "lw_hp")) | ((with_reducible refine' cs_name (by assumption) ?hp ?_); (case hp => walk_at "lw_hp")) | ((with_reducible refine' cs_worth (by assumption) ?hp ?_); (case hp => walk_at "lw_hp")) | ((with_reducible refine' cs_takes (by assumption) ?hp ?_); (case hp => walk_at "lw_hp")) | ((with_reducible refine' cs_file (by assumption) ?hp ?_); (case hp => walk_at "lw_hp")) | ((with_reducible refine' cs_numbers (by assumption) ?hp ?_); (case hp => walk_at "lw_hp")) | ((with_reducible refine' cs_letter (by assumption) ?hp ?_); (case hp => walk_at "lw_hp")))) | (with_reducible (first | refine go_gsub ?_ | refine go_testB ?_ | refine go_sfld ?_)) | ((with_reducible refine' go_ixL ?hp ?ha ?_); (case hp => walk_at "lw_hp"); (case ha => first | rfl | assumption)) | (with_reducible (first | refine' go_ixLs (by assumption) (by assumption) ?_ | refine go_lst ?_)) | ((with_reducible refine' go_i ?cc ?_); (case cc => first | omega | (simp only [CDiv, CMul, CPow]; omega) | (simp only [CDiv, CMul, CPow]; decide))) | (with_reducible refine go_drop ?_) | ((with_reducible show qMeth _ _ _ _ _); (first | ((with_reducible refine' im_follow ?hp ?_); (case hp => walk_at "lw_hp")) | ((with_reducible refine' im_twin ?hp ?_); (case hp => walk_at "lw_hp")) | ((with_reducible refine' cm_hold ?hp ?_); (case hp => walk_at "lw_hp")) | ((with_reducible refine' cm_fill ?hp ?_); (case hp => walk_at "lw_hp")))) | (with_reducible (first | refine go_eqI ?_ | refine go_eqS ?_ | refine go_eqB ?_ | refine go_eq (by rfl) ?_ | refine go_gnil ?_ | refine go_iteT ?_ | refine go_iteF ?_ | refine go_iteNt ?_ | refine go_iteNf ?_ | refine go_iteNN ?_)) | (with_reducible refine go_iteDT (by first | assumption | rfl | omega | (simp only [List.length_cons, List.length_nil, List.length_map]; omega)) ?_) | (with_reducible refine go_iteDF (by first | assumption | omega | decide | decide +kernel | (simp only [List.length_cons, List.length_nil, List.length_map]; omega)) ?_) | (with_reducible refine go_iteNT (by first | assumption | rfl | omega | (simp only [List.length_cons, List.length_nil, List.length_map]; omega)) ?_) | (with_reducible refine go_iteNF (by first | assumption | omega | decide | decide +kernel | (simp only [List.length_cons, List.length_nil, List.length_map]; omega)) ?_) | (with_reducible refine go_iteBT (by first | assumption | decide +kernel) ?_) | (with_reducible refine go_iteBF (by first | assumption | decide +kernel) ?_) | (with_reducible (first | refine go_dput ?_ | refine go_setD ?_)) | ((with_reducible refine' go_gtup ?hp ?ha ?_); (case hp => walk_at "lw_hp"); (case ha => first | rfl | assumption)) | (with_reducible refine go_if ?_) | ((with_reducible refine' go_setL ?hp ?ha ?_); (case hp => walk_at "lw_hp"); (case ha => first | rfl | assumption)) | (with_reducible (first | refine go_not ?_ | refine go_or ?_ | refine go_andV ?_)) | ((with_reducible show qFA _ _ _ _ _ _ _ _); (first | ((with_reducible refine' ia_row (by assumption) ?hp ?_); (case hp => walk_at "lw_hp")) | ((with_reducible refine' ia_names (by assumption) ?hp ?_); (case hp => walk_at "lw_hp")) | ((with_reducible refine' ia_taken (by assumption) ?hp ?_); (case hp => walk_at "lw_hp")) | ((with_reducible refine' ia_done (by assumption) ?hp ?_); (case hp => walk_at "lw_hp")) | ((with_reducible refine' ia_letters (by assumption) ?hp ?_); (case hp => walk_at "lw_hp")) | ((with_reducible refine' ca_follows (by assumption) ?hp ?_); (case hp => walk_at "lw_hp")) | ((with_reducible refine' ca_fault (by assumption) ?hp ?_); (case hp => walk_at "lw_hp")) | ((with_reducible refine' ca_name (by assumption) ?hp ?_); (case hp => walk_at "lw_hp")) | ((with_reducible refine' ca_worth (by assumption) ?hp ?_); (case hp => walk_at "lw_hp")) | ((with_reducible refine' ca_takes (by assumption) ?hp ?_); (case hp => walk_at "lw_hp")) | ((with_reducible refine' ca_file (by assumption) ?hp ?_); (case hp => walk_at "lw_hp")) | ((with_reducible refine' ca_numbers (by assumption) ?hp ?_); (case hp => walk_at "lw_hp")) | ((with_reducible refine' ca_letter (by assumption) ?hp ?_); (case hp => walk_at "lw_hp")))) | ((with_reducible show qFB _ _ _ _ _ _); (first | ((with_reducible refine' ib_row ?hp ?_); (case hp => walk_at "lw_hp")) | ((with_reducible refine' ib_names ?hp ?_); (case hp => walk_at "lw_hp")) | ((with_reducible refine' ib_taken ?hp ?_); (case hp => walk_at "lw_hp")) | ((with_reducible refine' ib_done ?hp ?_); (case hp => walk_at "lw_hp")) | ((with_reducible refine' ib_letters ?hp ?_); (case hp => walk_at "lw_hp")) | ((with_reducible refine' cb_follows ?hp ?_); (case hp => walk_at "lw_hp")) | ((with_reducible refine' cb_fault ?hp ?_); (case hp => walk_at "lw_hp")) | ((with_reducible refine' cb_name ?hp ?_); (case hp => walk_at "lw_hp")) | ((with_reducible refine' cb_worth ?hp ?_); (case hp => walk_at "lw_hp")) | ((with_reducible refine' cb_takes ?hp ?_); (case hp => walk_at "lw_hp")) | ((with_reducible refine' cb_file ?hp ?_); (case hp => walk_at "lw_hp")) | ((with_reducible refine' cb_numbers ?hp ?_); (case hp => walk_at "lw_hp")) | ((with_reducible refine' cb_letter ?hp ?_); (case hp => walk_at "lw_hp")))) | (with_reducible (first | refine go_sl ?_ | refine go_nopart ?_ | refine go_part ?_ | refine go_qI ?_ | refine' go_lenLs (by assumption) ?_)) | ((with_reducible refine' go_lenL ?hp ?_); (case hp => walk_at "lw_hp")) | ((with_reducible refine' go_lenT ?hp ?_); (case hp => walk_at "lw_hp")) | ((with_reducible refine' go_inT ?hp ?ha ?hb ?_); (case hp => walk_at "lw_hp"); (case ha => rfl); (case hb => rfl)) | ((with_reducible refine' go_notInT ?hp ?ha ?hb ?_); (case hp => walk_at "lw_hp"); (case ha => rfl); (case hb => rfl)) | (with_reducible (first | refine go_sfa ?_ | refine go_radd ?_ | refine go_pnil ?_ | refine go_pcons ?_ | refine go_un ?_ | refine go_u ?_ | refine go_for ?_ | refine go_rng1 ?_ | refine go_qrng1 (by omega) (by omega) ?_ | refine go_methC ?_ | refine go_notN_non ?_ | refine go_notN_int ?_ | refine go_notN_str ?_ | refine go_notN_bl ?_ | refine go_notN_ref ?_ | refine go_min ?_ | refine go_bm ?_ | refine go_lc ?_)) | ((with_reducible refine' go_qbm ?hp ?_); (case hp => walk_at "lw_hp")) | (with_reducible (first | refine go_int ?_ | refine go_intB ?_ | refine go_yes ?_ | refine go_and ?_ | refine go_notV ?_ | refine go_iL ?_)) | ((with_reducible refine' go_glst ?hp ?ha ?_); (case hp => walk_at "lw_hp"); (case ha => first | rfl | assumption)) | ((with_reducible refine' go_qiL ?hp ?_); (case hp => walk_at "lw_hp")) | (with_reducible (first | refine go_dgetK ?_ | refine go_par ?_ | refine go_gpar ?_ | refine go_isN_non ?_ | refine go_isN_int ?_ | refine go_isN_str ?_ | refine go_isN_bl ?_ | refine go_isN_ref ?_ | refine go_neI ?_ | refine go_neS ?_ | refine go_neB ?_ | refine go_iT ?_ | refine go_ne (by rfl) ?_)) | ((with_reducible refine' go_ixAL ?hp ?ha ?_); (case hp => walk_at "lw_hp"); (case ha => first | rfl | assumption)) | ((with_reducible refine' go_ixAT ?hp ?ha ?_); (case hp => walk_at "lw_hp"); (case ha => first | rfl | assumption)) | ((with_reducible refine' go_qiT ?hp ?_); (case hp => walk_at "lw_hp")) | (with_reducible (first | refine go_makeC ?_ | refine go_is_non_int ?_ | refine go_is_non_bool ?_ | refine go_is_non_str ?_ | refine go_is_non_tuple ?_ | refine go_is_non_list ?_ | refine go_is_bl_int ?_ | refine go_is_bl_bool ?_ | refine go_is_bl_str ?_ | refine go_is_bl_tuple ?_ | refine go_is_bl_list ?_ | refine go_is_int_int ?_ | refine go_is_int_bool ?_ | refine go_is_int_str ?_ | refine go_is_int_tuple ?_ | refine go_is_int_list ?_ | refine go_is_str_int ?_ | refine go_is_str_bool ?_ | refine go_is_str_str ?_ | refine go_is_str_tuple ?_ | refine go_is_str_list ?_)) | ((with_reducible refine' go_is_lst_int ?hp ?_); (case hp => walk_at "lw_hp")) | ((with_reducible refine' go_is_lst_bool ?hp ?_); (case hp => walk_at "lw_hp")) | ((with_reducible refine' go_is_lst_str ?hp ?_); (case hp => walk_at "lw_hp")) | ((with_reducible refine' go_is_lst_tuple ?hp ?_); (case hp => walk_at "lw_hp")) | ((with_reducible refine' go_is_lst_list ?hp ?_); (case hp => walk_at "lw_hp")) | ((with_reducible refine' go_is_tup_int ?hp ?_); (case hp => walk_at "lw_hp")) | ((with_reducible refine' go_is_tup_bool ?hp ?_); (case hp => walk_at "lw_hp")) | ((with_reducible refine' go_is_tup_str ?hp ?_); (case hp => walk_at "lw_hp")) | ((with_reducible refine' go_is_tup_tuple ?hp ?_); (case hp => walk_at "lw_hp")) | ((with_reducible refine' go_is_tup_list ?hp ?_); (case hp => walk_at "lw_hp")) | (with_reducible (first | refine go_max ?_ | refine go_bm0 ?_ | refine go_chain ?_ | refine go_qch ?_)) | ((with_reducible refine' go_qbm0 ?hp ?_); (case hp => walk_at "lw_hp")) | (with_reducible (first | refine go_dinK ?_ | refine go_enumT ?_ | refine go_zipT ?_ | refine go_retN ?_ | refine go_orV ?_ | refine go_whQ ?_ | refine go_rng2 ?_ | refine go_qrng2 (by omega) (by omega) (by omega) (by omega) ?_ | refine go_rvr ?_ | refine go_qrvr (by omega) (by omega) ?_ | refine go_enum ?_ | refine go_aug rfl ?_ | refine go_ipI ?_)) | ((with_reducible refine' go_qenum ?hp ?_); (case hp => walk_at "lw_hp")) | ((with_reducible refine' go_sumL ?hp ?_); (case hp => walk_at "lw_hp")) | (with_reducible refine go_tru ?_))))
abbrev s_run : Stmt := top 44
structure RunP (cI : Addr) (H H' : Hp) (ip nl fl sn : Addr) (s : S) : Prop where
  i : InAt cI H' ip nl s.row s.names s.taken s.done s.sent.length
  f : ∃ fv, H' fl = some (.lst fv) ∧ FilesAt H' fv s.files ∧ ∀ a, V.ref a ∈ fv → H a = none ∧ a ≠ nl ∧ a ≠ fl ∧ a ≠ sn
  t : H' sn = some (.lst (s.sent.map V.int))
  sm : Same H H'
  n1 : nl ≠ fl
  n2 : nl ≠ sn
  n3 : fl ≠ sn
  f1 : H ip = none
  f2 : H nl = none
  f3 : H fl = none
  f4 : H sn = none
theorem RunP.same {cI : Addr} {H H1 H2 : Hp} {ip nl fl sn : Addr} {s : S} (r : RunP cI H H1 ip nl fl sn s) (z : Same H1 H2) : RunP cI H H2 ip nl fl sn s := by
  obtain ⟨fv, h1, h2, h3⟩ := r.f
  exact ⟨r.i.same z, ⟨fv, z _ _ h1, h2.same z, h3⟩, z _ _ r.t, r.sm.trans z, r.n1, r.n2, r.n3, r.f1, r.f2, r.f3, r.f4⟩
def OutF (H0 H : Hp) (o : S × End) (v : V) : Prop := ∃ a fl sn nl ev fv, v = .ref a ∧ H a = some (.tup [.ref fl, .ref sn, ev, .ref nl, .int o.1.done]) ∧ H fl = some (.lst fv) ∧ FilesAt H fv o.1.files ∧ H sn = some (.lst (o.1.sent.map V.int)) ∧ EndAt H o.2 ev ∧ H nl = some (.lst (o.1.names.map V.int)) ∧
  H0 fl = none ∧ H0 sn = none ∧ H0 nl = none ∧ (∀ b, V.ref b ∈ fv → H0 b = none ∧ b ≠ nl ∧ b ≠ fl ∧ b ≠ sn) ∧ nl ≠ fl ∧ nl ≠ sn ∧ fl ≠ sn
def spRun : Sp := fun vs H Q _ => ∃ (pw : V) (hl : Addr) (p : Prog) (hs : List Int), vs = [pw, .ref hl] ∧ p.Ok ∧ ProgAt H p pw ∧ H hl = some (.lst (hs.map V.int)) ∧ hs.length ≤ 40 ∧ Num hs ∧
  ∀ (v : V) (H' : Hp), OutF H H' (Lw.fin p hs (s0 p)) v → Same H H' → Q v H'
def WRunP (cI : Addr) (H : Hp) (p : Prog) (hs : List Int) (pa hl pb ip nl fl sn : Addr) (m : Nat) (σ : St) (H' : Hp) : Prop :=
  (∃ s x y, RunP cI H H' ip nl fl sn s ∧ Good p hs s ∧ Lw.fin p hs s = Lw.fin p hs (s0 p) ∧ endM s.row p.rows.length s.done = none ∧ σ = [some (.ref pa), some (.ref hl), some (.ref fl), some (.ref sn), some (.ref ip), some .non, some (.int p.nm), some (.int p.fl), some (.ref pb), x, y] ∧ m = 1001 - s.done) ∨
  (∃ s ev x y, RunP cI H H' ip nl fl sn s ∧ s = (Lw.fin p hs (s0 p)).1 ∧ EndAt H' (Lw.fin p hs (s0 p)).2 ev ∧ σ = [some (.ref pa), some (.ref hl), some (.ref fl), some (.ref sn), some (.ref ip), some ev, some (.int p.nm), some (.int p.fl), some (.ref pb), x, y] ∧ m = 0)
theorem endM_none {row : Int} {len : Nat} {done : Int} (h : endM row len done = none) : row ≠ len ∧ done ≠ 1000 := by
  unfold endM at h
  split at h
  · cases h
  · rename_i c
    split at h
    · cases h
    · rename_i c2
      exact ⟨c, c2⟩
theorem endM_fin {p : Prog} {hs : List Int} {s : S} {e : End} (h : endM s.row p.rows.length s.done = some e) : Lw.fin p hs s = (s, e) := by
  unfold endM at h
  split at h
  · rename_i c
    cases h
    exact fin_end c
  · rename_i c
    split at h
    · rename_i c2
      cases h
      exact fin_long c (by omega)
    · cases h
theorem WRunP.of {cI : Addr} {H H' : Hp} {p : Prog} {hs : List Int} {pa hl pb ip nl fl sn : Addr} {s : S} {ev : V} {x y : Option V} {m : Nat} (R : RunP cI H H' ip nl fl sn s) (G : Good p hs s) (hf : Lw.fin p hs s = Lw.fin p hs (s0 p)) (he : EndO H' (endM s.row p.rows.length s.done) ev) (hm : 1001 - s.done < m) :
    ∃ m', m' < m ∧ WRunP cI H p hs pa hl pb ip nl fl sn m' [some (.ref pa), some (.ref hl), some (.ref fl), some (.ref sn), some (.ref ip), some ev, some (.int p.nm), some (.int p.fl), some (.ref pb), x, y] H' := by
  cases e : endM s.row p.rows.length s.done with
  | none =>
    rw [e] at he
    cases he
    exact ⟨_, hm, .inl ⟨s, x, y, R, G, hf, e, rfl, rfl⟩⟩
  | some z =>
    rw [e] at he
    have q := endM_fin (hs := hs) e
    rw [hf] at q
    exact ⟨0, by omega, .inr ⟨s, ev, x, y, R, by rw [q], by rw [q]; exact he, rfl, rfl⟩⟩
section
variable {P : Program} {w : World} {K : PySem.W.Frag} {mg : Str → Option Value} {base : Heap} {f : Addr} {fd : FuncData} {cI cC dP dL : Addr}
theorem scs_run : FnScope ["program", "handed", "files", "sent", "inside", "end", "names", "many", "rows", "change", "number"] ["program", "handed"] (defScope s_run) := ⟨rfl, rfl, rfl, by decide +kernel, rfl, by decide +kernel, by decide +kernel⟩
theorem ok_run (F : Fun K "run" "run" s_run f fd) (T : Txt mg) (O : Own K mg cI cC dP dL) (hne : cI ≠ cC) (C_check_program : FnC P w K mg base 8 "check_program" ["program"] spCkProg) (C_check_handed : FnC P w K mg base 2 "check_handed" ["handed"] spCkHand)
    (M_Inside : MkC P w K mg base 1 "Inside" cI ["self", "names"] (spIInit cI)) (C_ended : FnC P w K mg base 1 "ended" ["rows", "inside"] (spEnded cI)) (C_planned : FnC P w K mg base 6 "planned" ["row", "inside", "files", "handed"] (spPlanned cI cC))
    (C_do_change : FnC P w K mg base 1 "do_change" ["change", "files", "sent"] (spDoChange cC)) (MT_Inside_follow : MtC P w K mg base 1 cI "follow" ["self", "change"] (spFollow cI cC)) : FnOk P w K mg base CX0 9 f fd ["program", "handed"] spRun := by
  refine F.ok scs_run (fun vs H Q E h => ?_) (fun cdv A outer s1 H vs Q E hr h => ?_)
  · obtain ⟨pw, hl, p, hs, rfl, _⟩ := h
    rfl
  obtain ⟨pw, hl, p, hs, rfl, hok, hP, hh, hh4, hN, k⟩ := h
  have nd := scs_run.nd
  have hu := hu_of hr
  have Oi := O.i
  have Oc := O.c
  refine ⟨_, (pss_cons (ps_expr (pe_callC C_check_program (hr.mono (by omega)) (by rfl) (pa_cons (pv 0) pa_nil)))
      (pss_cons (ps_expr (pe_callC C_check_handed (hr.mono (by omega)) (by rfl) (pa_cons (pv 1) pa_nil)))
      (pss_cons (ps_asg (pv 0) (kPgT K (by rfl) (pgs_cons (pg_name (i := 6) nd rfl (Or.inl rfl)) (pgs_cons (pg_name (i := 7) nd rfl (Or.inl rfl)) (pgs_cons (pg_name (i := 8) nd rfl (Or.inl rfl)) pgs_nil)))))
      (pss_cons (ps_setLc (i := 2) rfl nd rfl rfl (sw_true rfl rfl rfl rfl) (pi_range1 (by rfl) T.n_range (pa_cons (pv 7) pa_nil)) (blkOk_by (own := [("number", 10)]) (by show blkC ["program", "handed", "files", "sent", "inside", "end", "names", "many", "rows", "change", "number"] (defScope s_run) _ _ = true; decide +kernel)) (fun _ _ _ _ _ => (pg_name (i := 10) nd rfl (Or.inl rfl))) (fun _ _ _ _ _ => pts_nil) (fun _ _ _ _ _ => (pe_lst pa_nil)))
      (pss_cons (ps_set (i := 3) nd rfl (Or.inl rfl) (pe_lst pa_nil))
      (pss_cons (ps_set (i := 4) nd rfl (Or.inl rfl) (pe_makeC M_Inside (hr.mono (by omega)) (by rfl) (pa_cons (pv 6) pa_nil)))
      (pss_cons (ps_set (i := 5) nd rfl (Or.inl rfl) (pe_callC C_ended (hr.mono (by omega)) (by rfl) (pa_cons (pv 8) (pa_cons (pv 4) pa_nil))))
      (pss_cons (ps_while PassesOwn.never (pt_cmpR o_isN (pv 5) pe_non (nomark _)) (pss_cons (ps_set (i := 9) nd rfl (Or.inl rfl) (pe_callC C_planned (hr.mono (by omega)) (by rfl) (pa_cons (pe_ix (kIxT K) (pv 8) (kFld K (pv 4) rfl) (fun _ _ => rfl)) (pa_cons (pv 4) (pa_cons (pv 2) (pa_cons (pv 1) pa_nil))))))
      (pss_one (ps_if (pt_cmpR o_isN (kFld K (pv 9) rfl) pe_non (nomark _)) (pss_cons (ps_expr (pe_callC C_do_change (hr.mono (by omega)) (by rfl) (pa_cons (pv 9) (pa_cons (pv 2) (pa_cons (pv 3) pa_nil)))))
      (pss_cons (ps_expr (pe_methC (pv 4) MT_Inside_follow (hr.mono (by omega)) (pa_cons (pv 9) pa_nil)))
      (pss_one (ps_set (i := 5) nd rfl (Or.inl rfl) (pe_callC C_ended (hr.mono (by omega)) (by rfl) (pa_cons (pv 8) (pa_cons (pv 4) pa_nil))))))) (pss_one (ps_set (i := 5) nd rfl (Or.inl rfl) (pe_tup (pa_cons pe_str (pa_cons (kFld K (pv 9) rfl) pa_nil)))))))))
      (pss_one (ps_ret (pe_tup (pa_cons (pv 2) (pa_cons (pv 3) (pa_cons (pv 5) (pa_cons (kFld K (pv 4) rfl) (pa_cons (kFld K (pv 4) rfl) pa_nil)))))))))))))))), ?_⟩
  obtain ⟨pa, pb, rs, rfl, hpa, hpb, hR⟩ := id hP
  have hf1 := hok.f1
  have hf2 := hok.f2
  have hn1 := hok.n1
  have hn2 := hok.n2
  have hlen : rs.length = p.rows.length := hR.length.symm
  walk_at "lw_goc"
  refine ⟨_, p, rfl, hok, hP, fun H1 S1 => ?_⟩
  have hpa1 := S1 _ _ hpa
  have hh1 := S1 _ _ hh
  walk_at "lw_goc"
  refine ⟨hl, hs, rfl, hh1, hh4, hN, ?_⟩
  walk_at "lw_goc"
  refine lq_range (fun fl hfl => ?_)
  refine ⟨fun i H' => ∃ fv, H' fl = some (.lst fv) ∧ FilesAt H' fv (List.replicate i []) ∧ Same H1 H' ∧ (∀ a, .ref a ∈ fv → H1 a = none ∧ a ≠ fl), ?_, ?_, ?_⟩
  · exact ⟨[], upd_same, .nil, same_new hfl _, (fun a h => by cases h)⟩
  · rintro i H' hi ⟨fv, e, hF, s', hfr⟩
    refine go_gname ⟨rfl, ?_⟩
    walk_at "lw_goc"
    refine go_qlst (Nat.le_of_ble_eq_true rfl) (fun q hq => ?_)
    refine go_lcA (upd_new hq e) (small_line (by rw [hF.length, List.length_replicate]; omega)) ?_
    have nq : q ≠ fl := (ne_of_none e hq).symm
    refine ⟨fv ++ [.ref q], upd_same, ?_, same_upd hfl (s'.trans (same_new hq _)), ?_⟩
    · rw [List.replicate_succ']
      refine FilesAt.snoc (hF.keep fun a xs hm ha => ?_) (upd_oth nq upd_same)
      exact upd_oth (hfr a hm).2 (upd_new hq ha)
    · intro a ha
      rcases List.mem_append.mp ha with z | z
      · exact hfr a z
      · cases List.mem_singleton.mp z
        exact ⟨s'.free hq, nq⟩
  · rintro H2 ⟨fv, e, hF, S2, hfr⟩
    have S12 := S1.trans S2
    walk_at "lw_goc"
    refine go_qlst (Nat.le_of_ble_eq_true rfl) (fun sn hsn => ?_)
    walk_at "lw_goc"
    have S3 := same_new hsn (.lst [])
    have e3 : upd H2 sn (.lst []) sn = some (.lst []) := upd_same
    have nfs : fl ≠ sn := ne_of_none e hsn
    have fsn : H sn = none := S12.free hsn
    have ffl : H fl = none := S1.free hfl
    have nas : ∀ a, V.ref a ∈ fv → a ≠ sn := fun a ha => by
      obtain ⟨i, hi⟩ := List.getElem?_of_mem ha
      have hi' : i < fv.length := (List.getElem?_eq_some_iff.mp hi).1
      obtain ⟨a', e1, e2⟩ := hF.get (i := i) (by rw [← hF.length]; exact hi')
      rw [hi] at e1
      cases e1
      exact ne_of_none e2 hsn
    generalize upd H2 sn (.lst []) = H3 at *
    have S123 := S12.trans S3
    have efl := S3 _ _ e
    walk_at "lw_goc"
    intro ip dx nip ndx nex
    refine ⟨ip, dx, p.nm, rfl, upd_same, by omega, by omega, fun nl H4 fnl i4 o4 => ⟨rfl, ?_⟩⟩
    have S4 := made_same nip ndx o4
    obtain ⟨fnl3, nnl⟩ := made_free fnl
    have S1234 := S123.trans S4
    have R0 : RunP cI H H4 ip nl fl sn (s0 p) := ⟨i4, ⟨fv, S4 _ _ efl, (hF.same S3).same S4, fun a ha => ⟨S1.free (hfr a ha).1, ?_, (hfr a ha).2, nas a ha⟩⟩, S4 _ _ e3, S1234, (ne_of_none efl fnl3).symm, (ne_of_none e3 fnl3).symm, nfs, S123.free nip, S123.free fnl3, ffl, fsn⟩
    rotate_left
    · obtain ⟨i, hi⟩ := List.getElem?_of_mem ha
      have hi' : i < fv.length := (List.getElem?_eq_some_iff.mp hi).1
      obtain ⟨a', e1, e2⟩ := (hF.same S3).get (i := i) (by rw [← hF.length]; exact hi')
      rw [hi] at e1
      cases e1
      exact ne_of_none e2 fnl3
    clear o4 fnl
    have hpb4 := S1234 _ _ hpb
    walk_at "lw_goc"
    refine ⟨pb, ip, nl, rs, _, _, _, _, _, rfl, hpb4, i4, fun ev H5 S5 he => ?_⟩
    rw [hlen] at he
    obtain ⟨m0, hm0, hW⟩ := WRunP.of (pa := pa) (hl := hl) (pb := pb) (x := none) (y := none) (m := 2000) (R0.same S5) (good0 p hs) rfl he (by show 1001 - 0 < 2000; omega)
    walk_at "lw_goc"
    refine go_whileM (WRunP cI H p hs pa hl pb ip nl fl sn) m0 hW ?_
    rintro m σ H' (⟨s, x, y, R, G, hfin, hend, rfl, rfl⟩ | ⟨s, ev', x, y, R, hs1, hev, rfl, rfl⟩)
    · obtain ⟨⟨dx', hi⟩, hn⟩ := R.i
      obtain ⟨fv', hf, hF', hfr'⟩ := R.f
      obtain ⟨ne1, ne2⟩ := endM_none hend
      have hpb' := R.sm _ _ hpb
      have Gd := G.dn
      have g0 := G.r0
      have g1 := G.r1
      obtain ⟨r, hr1⟩ : ∃ r, p.rows[s.row.toNat]? = some r := ⟨_, List.getElem?_eq_getElem (by omega)⟩
      have rok := hok.rw r (List.mem_of_getElem? hr1)
      obtain ⟨rv, hrv, hRv⟩ := hR.get hr1
      have hat : atI rs s.row = some rv := by
        have := atI_nat hrv
        rwa [show ((s.row.toNat : Nat) : Int) = s.row by omega] at this
      walk_at "lw_goc"
      refine go_whM ?_
      walk_at "lw_goc"
      refine ⟨rv, ip, fl, hl, nl, p, hs, s, r, rfl, ⟨hRv.mono R.sm.tk, rok, ⟨_, R.i⟩, ⟨fv', hf, hF'⟩, R.sm _ _ hh, G⟩, hne, fun ch nu H6 c6 S6 fch fnu => ?_⟩
      have R6 := R.same S6
      have hin := chg_in (hs := hs) (s := s) rok
      cases hfe : (chgM hs s r).fault with
      | some wf =>
        obtain ⟨⟨dy, hc⟩, hnu⟩ := c6
        rw [hfe] at hc
        have hc' : H6 ch = some (.ins cC dy (cF (.int (chgM hs s r).follows) (.str wf) (optI (chgM hs s r).name) (.int (chgM hs s r).worth) (.int (chgM hs s r).takes) (optI (chgM hs s r).file) (.ref nu) (optI (chgM hs s r).letter))) := hc
        clear hc
        walk_at "lw_goc"
        refine go_qtup (Nat.le_of_ble_eq_true rfl) (fun ea hea => ?_)
        walk_at "lw_goc"
        have es := fin_fault (p := p) ne1 (by omega) hr1 (chg_fault hfe)
        rw [hfin] at es
        exact ⟨0, by omega, .inr ⟨s, _, _, _, R6.same (same_new hea _), by rw [es], by rw [es]; exact ⟨ea, rfl, upd_same⟩, rfl, rfl⟩⟩
      | none =>
        have es := fin_next (p := p) ne1 (by omega) hr1 (chg_next hfe)
        rw [hfin] at es
        have c6' := c6
        obtain ⟨⟨dy, hc⟩, hnu⟩ := c6
        rw [hfe] at hc
        have hc' : H6 ch = some (.ins cC dy (cF (.int (chgM hs s r).follows) .non (optI (chgM hs s r).name) (.int (chgM hs s r).worth) (.int (chgM hs s r).takes) (optI (chgM hs s r).file) (.ref nu) (optI (chgM hs s r).letter))) := hc
        clear hc
        have hf6 := S6 _ _ hf
        have gst := G.st
        have gfl := G.fl
        have gnl := G.nl
        have hvl : fv'.length = s.files.length := hF'.length
        walk_at "lw_goc"
        refine ⟨ch, nu, fl, sn, chgM hs s r, fv', s.sent, p.nm, rfl, c6', hf6, R6.t, R.n3, ?_, by omega, fun H7 hfl7 hsn7 o7 => ?_⟩
        · rw [hvl, gfl, show ((p.fl.toNat : Nat) : Int) = p.fl by omega]
          exact hin
        have nchfl : ch ≠ fl := fun z => by subst z; rw [hf] at fch; cases fch
        have nchsn : ch ≠ sn := fun z => by subst z; rw [R.t] at fch; cases fch
        have nufl : nu ≠ fl := fun z => by subst z; rw [hf] at fnu; cases fnu
        have nusn : nu ≠ sn := fun z => by subst z; rw [R.t] at fnu; cases fnu
        have nunl : nu ≠ nl := fun z => by subst z; rw [hn] at fnu; cases fnu
        have nip' : ip ≠ fl := ne_of hi hf (by intro z; cases z)
        have nip'' : ip ≠ sn := ne_of hi R.t (by intro z; cases z)
        have hi7 := o7 _ _ (S6 _ _ hi) nip' nip''
        have hn7 := o7 _ _ (S6 _ _ hn) R.n1 R.n2
        have c7 : ChgAt cC H7 ch nu (chgM hs s r) := by
          obtain ⟨⟨dy, z⟩, z'⟩ := c6'
          exact ⟨⟨dy, o7 _ _ z nchfl nchsn⟩, o7 _ _ z' nufl nusn⟩
        walk_at "lw_goc"
        refine ⟨ip, nl, ch, nu, s.row, s.taken, s.done, s.sent.length, s.names, chgM hs s r, p.fl, rfl, ⟨⟨dx', hi7⟩, hn7⟩, c7, hne, ?_, fun H8 i8 o8 => ?_⟩
        · rw [gnl, show ((p.nm.toNat : Nat) : Int) = p.nm by omega]
          exact hin
        have S8 : Same H H8 := fun b u hb => o8 b u (o7 b u (S6 b u (R.sm b u hb)) (ne_of_none hb R.f3) (ne_of_none hb R.f4)) (ne_of_none hb R.f1) (ne_of_none hb R.f2)
        have hfl8 := o8 _ _ hfl7 nip'.symm R.n1.symm
        have hsn8 := o8 _ _ hsn7 nip''.symm R.n2.symm
        have keep8 : ∀ a xs, H6 a = some (.lst xs) → a ≠ fl → a ≠ sn → a ≠ nl → H8 a = some (.lst xs) := fun a xs h1 h2 h3 h4 => by
          have q7 := o7 _ _ h1 h2 h3
          exact o8 _ _ q7 (ne_of q7 hi7 (by intro z; cases z)) h4
        have hF8 : FilesAt H8 ((chgM hs s r).vals nu fv') ((chgM hs s r).files s.files) := by
          have hb8 : FilesAt H8 fv' s.files := (hF'.same S6).keep fun a xs hm ha => keep8 a xs ha (hfr' a hm).2.2.1 (hfr' a hm).2.2.2 (hfr' a hm).2.1
          unfold Chg.vals Chg.files
          cases (chgM hs s r).file with
          | none => exact hb8
          | some g => exact hb8.set (keep8 _ _ c6'.l nufl nusn nunl)
        have hfr8 : ∀ a, V.ref a ∈ (chgM hs s r).vals nu fv' → H a = none ∧ a ≠ nl ∧ a ≠ fl ∧ a ≠ sn := fun a ha => by
          unfold Chg.vals at ha
          cases e : (chgM hs s r).file with
          | none => rw [e] at ha; exact hfr' a ha
          | some g =>
            rw [e] at ha
            rcases List.mem_or_eq_of_mem_set ha with z | z
            · exact hfr' a z
            · cases z
              exact ⟨R.sm.free fnu, nunl, nufl, nusn⟩
        have G8 := G.step hN (by omega) (by omega) rok (chg_next hfe)
        have R8 : RunP cI H H8 ip nl fl sn (s.appC (chgM hs s r)) := ⟨?_, ⟨_, hfl8, hF8, hfr8⟩, hsn8, S8, R.n1, R.n2, R.n3, R.f1, R.f2, R.f3, R.f4⟩
        rotate_left
        · obtain ⟨⟨d8, z⟩, z'⟩ := i8
          refine ⟨⟨d8, ?_⟩, z'⟩
          show H8 ip = some (.ins cI d8 (iF (.int (chgM hs s r).follows) (.ref nl) (.int ((s.taken + (chgM hs s r).takes.toNat : Nat) : Int)) (.int ((s.done + 1 : Nat) : Int)) (.int ((s.sent ++ (chgM hs s r).letter.toList).length : Nat))))
          rw [z]
          have ht := hin.t
          have e1 : (s.taken : Int) + (chgM hs s r).takes = ((s.taken + (chgM hs s r).takes.toNat : Nat) : Int) := by omega
          have e2 : (s.done : Int) + 1 = ((s.done + 1 : Nat) : Int) := by omega
          have e3 : (s.sent.length : Int) + (if (chgM hs s r).letter.isSome = true then 1 else 0) = ((s.sent ++ (chgM hs s r).letter.toList).length : Nat) := by
            rw [List.length_append]
            cases (chgM hs s r).letter with
            | none => simp
            | some z => simp
          rw [e1, e2, e3]
        have hpb8 := S8 _ _ hpb
        walk_at "lw_goc"
        refine ⟨pb, ip, nl, rs, _, _, _, _, _, rfl, hpb8, R8.i, fun ev9 H9 S9 he9 => ?_⟩
        rw [hlen] at he9
        walk_at "lw_goc"
        exact WRunP.of (R8.same S9) G8 es.symm he9 (by show 1001 - (s.done + 1) < 1001 - s.done; omega)
    · obtain ⟨⟨dx', hi⟩, hn⟩ := R.i
      obtain ⟨fv', hf, hF', hfr'⟩ := R.f
      obtain ⟨ea, rfl⟩ := hev.ref
      walk_at "lw_goc"
      refine go_whM ?_
      walk_at "lw_goc"
      refine go_qtup (Nat.le_of_ble_eq_true rfl) (fun oa hoa => ?_)
      have So := same_new hoa (.tup [.ref fl, .ref sn, .ref ea, .ref nl, .int s.done])
      exact k _ _ ⟨oa, fl, sn, nl, .ref ea, fv', rfl, by rw [← hs1]; exact upd_same, So _ _ hf, by rw [← hs1]; exact hF'.same So, by rw [← hs1]; exact So _ _ R.t, hev.mono So.tk, by rw [← hs1]; exact So _ _ hn, R.f3, R.f4, R.f2, hfr', R.n1, R.n2, R.n3⟩ (R.sm.trans So)
end
end Lw
set_option Elab.async false
set_option linter.all false
set_option maxRecDepth 100000
set_option maxHeartbeats 4000000
namespace Lw
open PySem L2
local macro_rules | `(tactic| walk_at "lw_hp") => `(tactic| (repeat (first | assumption | exact upd_same | (refine' upd_new (by assumption) ?_) | (refine' tup_off (by assumption) (by assumption) ?_) | (refine' lst_off (by assumption) (by assumption) (by assumption) ?_) | (refine' Same.get (by assumption) ?_) | (refine' Off.get (by assumption) (by assumption) ?_) | (refine' upd_oth (by assumption) ?_))))
local macro_rules | `(tactic| walk_at "lw_go") => `(tactic| (repeat (first | (with_reducible (first | refine go_var rfl ?_ | refine go_c ?_ | refine go_cons ?_ | refine go_op ?_ | refine go_nil ?_ | refine go_seq ?_ | refine go_qb ?_ | refine go_test ?_ | refine go_ifS ?_ | refine go_gname ?_ | refine go_cb ?_)) | ((with_reducible refine' go_ixT ?hp ?ha ?_); (case hp => walk_at "lw_hp"); (case ha => first | rfl | assumption)) | (with_reducible (first | refine go_asg ?_ | refine go_callC ?_ | refine go_next ?_ | refine go_tup ?_ | refine go_i0 ?_ | refine go_ret ?_ | refine go_dget ?_ | refine go_gcons ?_ | refine go_gsub ?_ | refine go_testB ?_)) | ((with_reducible refine' go_ixL ?hp ?ha ?_); (case hp => walk_at "lw_hp"); (case ha => first | rfl | assumption)) | (with_reducible (first | refine' go_ixLs (by assumption) (by assumption) ?_ | refine go_lst ?_)) | ((with_reducible refine' go_i ?cc ?_); (case cc => first | omega | (simp only [CDiv, CMul, CPow]; omega) | (simp only [CDiv, CMul, CPow]; decide))) | (with_reducible (first | refine go_drop ?_ | refine go_eqI ?_ | refine go_eqS ?_ | refine go_eqB ?_ | refine go_eq (by rfl) ?_ | refine go_gnil ?_ | refine go_iteT ?_ | refine go_iteF ?_ | refine go_iteNt ?_ | refine go_iteNf ?_ | refine go_iteNN ?_)) | (with_reducible refine go_iteDT (by first | assumption | rfl | omega | (simp only [List.length_cons, List.length_nil, List.length_map]; omega)) ?_) | (with_reducible refine go_iteDF (by first | assumption | omega | decide | decide +kernel | (simp only [List.length_cons, List.length_nil, List.length_map]; omega)) ?_) | (with_reducible refine go_iteNT (by first | assumption | rfl | omega | (simp only [List.length_cons, List.length_nil, List.length_map]; omega)) ?_) | (with_reducible refine go_iteNF (by first | assumption | omega | decide | decide +kernel | (simp only [List.length_cons, List.length_nil, List.length_map]; omega)) ?_) | (with_reducible refine go_iteBT (by first | assumption | decide +kernel) ?_) | (with_reducible refine go_iteBF (by first | assumption | decide +kernel) ?_) | (with_reducible (first | refine go_dput ?_ | refine go_setD ?_)) | ((with_reducible refine' go_gtup ?hp ?ha ?_); (case hp => walk_at "lw_hp"); (case ha => first | rfl | assumption)) | (with_reducible refine go_if ?_) | ((with_reducible refine' go_setL ?hp ?ha ?_); (case hp => walk_at "lw_hp"); (case ha => first | rfl | assumption)) | (with_reducible (first | refine go_not ?_ | refine go_or ?_ | refine go_andV ?_ | refine go_sl ?_ | refine go_nopart ?_ | refine go_part ?_ | refine go_qI ?_ | refine' go_lenLs (by assumption) ?_)) | ((with_reducible refine' go_lenL ?hp ?_); (case hp => walk_at "lw_hp")) | ((with_reducible refine' go_lenT ?hp ?_); (case hp => walk_at "lw_hp")) | ((with_reducible refine' go_inT ?hp ?ha ?hb ?_); (case hp => walk_at "lw_hp"); (case ha => rfl); (case hb => rfl)) | ((with_reducible refine' go_notInT ?hp ?ha ?hb ?_); (case hp => walk_at "lw_hp"); (case ha => rfl); (case hb => rfl)) | (with_reducible (first | refine go_pnil ?_ | refine go_pcons ?_ | refine go_un ?_ | refine go_u ?_ | refine go_for ?_ | refine go_rng1 ?_ | refine go_qrng1 (by omega) (by omega) ?_ | refine go_notN_non ?_ | refine go_notN_int ?_ | refine go_notN_str ?_ | refine go_notN_bl ?_ | refine go_notN_ref ?_ | refine go_min ?_ | refine go_bm ?_ | refine go_lc ?_)) | ((with_reducible refine' go_qbm ?hp ?_); (case hp => walk_at "lw_hp")) | (with_reducible (first | refine go_int ?_ | refine go_intB ?_ | refine go_yes ?_ | refine go_and ?_ | refine go_notV ?_ | refine go_iL ?_)) | ((with_reducible refine' go_glst ?hp ?ha ?_); (case hp => walk_at "lw_hp"); (case ha => first | rfl | assumption)) | ((with_reducible refine' go_qiL ?hp ?_); (case hp => walk_at "lw_hp")) | (with_reducible (first | refine go_par ?_ | refine go_gpar ?_ | refine go_isN_non ?_ | refine go_isN_int ?_ | refine go_isN_str ?_ | refine go_isN_bl ?_ | refine go_isN_ref ?_ | refine go_neI ?_ | refine go_neS ?_ | refine go_neB ?_ | refine go_iT ?_ | refine go_ne (by rfl) ?_)) | ((with_reducible refine' go_ixAL ?hp ?ha ?_); (case hp => walk_at "lw_hp"); (case ha => first | rfl | assumption)) | ((with_reducible refine' go_ixAT ?hp ?ha ?_); (case hp => walk_at "lw_hp"); (case ha => first | rfl | assumption)) | ((with_reducible refine' go_qiT ?hp ?_); (case hp => walk_at "lw_hp")) | (with_reducible (first | refine go_is_non_int ?_ | refine go_is_non_bool ?_ | refine go_is_non_str ?_ | refine go_is_non_tuple ?_ | refine go_is_non_list ?_ | refine go_is_bl_int ?_ | refine go_is_bl_bool ?_ | refine go_is_bl_str ?_ | refine go_is_bl_tuple ?_ | refine go_is_bl_list ?_ | refine go_is_int_int ?_ | refine go_is_int_bool ?_ | refine go_is_int_str ?_ | refine go_is_int_tuple ?_ | refine go_is_int_list ?_ | refine go_is_str_int ?_ | refine go_is_str_bool ?_ | refine go_is_str_str ?_ | refine go_is_str_tuple ?_ | refine go_is_str_list ?_)) | ((with_reducible refine' go_is_lst_int ?hp ?_); (case hp => walk_at "lw_hp")) | ((with_reducible refine' go_is_lst_bool ?hp ?_); (case hp => walk_at "lw_hp")) | ((with_reducible refine' go_is_lst_str ?hp ?_); (case hp => walk_at "lw_hp")) | ((with_reducible refine' go_is_lst_tuple ?hp ?_); (case hp => walk_at "lw_hp")) | ((with_reducible refine' go_is_lst_list ?hp ?_); (case hp => walk_at "lw_hp")) | ((with_reducible refine' go_is_tup_int ?hp ?_); (case hp => walk_at "lw_hp")) | ((with_reducible refine' go_is_tup_bool ?hp ?_); (case hp => walk_at "lw_hp")) | ((with_reducible refine' go_is_tup_str ?hp ?_); (case hp => walk_at "lw_hp")) | ((with_reducible refine' go_is_tup_tuple ?hp ?_); (case hp => walk_at "lw_hp")) | ((with_reducible refine' go_is_tup_list ?hp ?_); (case hp => walk_at "lw_hp")) | (with_reducible (first | refine go_max ?_ | refine go_bm0 ?_ | refine go_chain ?_ | refine go_qch ?_)) | ((with_reducible refine' go_qbm0 ?hp ?_); (case hp => walk_at "lw_hp")) | (with_reducible (first | refine go_retN ?_ | refine go_orV ?_ | refine go_whQ ?_ | refine go_rng2 ?_ | refine go_qrng2 (by omega) (by omega) (by omega) (by omega) ?_ | refine go_rvr ?_ | refine go_qrvr (by omega) (by omega) ?_ | refine go_enum ?_ | refine go_aug rfl ?_ | refine go_ipI ?_)) | ((with_reducible refine' go_qenum ?hp ?_); (case hp => walk_at "lw_hp")) | ((with_reducible refine' go_sumL ?hp ?_); (case hp => walk_at "lw_hp")))))
abbrev s_law : Stmt := top 58
def spLaw (K : PySem.W.Frag) : Sp := fun vs H Q _ => ∃ (a : Addr) (ns : List Int), vs = [.ref a] ∧ Scr K H a ns ∧ ns.length ≤ 63 ∧ ∀ H', Q (.bl true) H'
theorem like_ints {n : Nat} {H : Hp} {a b : Addr} {ns : List Int} (h1 : H a = some (.lst (ns.map V.int))) (h2 : H b = some (.lst (ns.map V.int))) (hl : ns.length ≤ 5000) : Like (n + 2) H (.ref a) (.ref b) := by
  refine .inr ⟨a, b, _, _, rfl, rfl, .inr ⟨h1, h2⟩, rfl, by simpa using hl, fun i x y hx hy => ?_⟩
  rw [hx] at hy
  cases hy
  obtain ⟨n, rfl, _⟩ := int_of hx
  exact .inl ⟨rfl, .inl ⟨n, rfl⟩⟩
theorem like_files {n : Nat} {H : Hp} {a b : Addr} {fv gv : List V} {fs : List (List Int)} (h1 : H a = some (.lst fv)) (h2 : H b = some (.lst gv)) (f1 : FilesAt H fv fs) (f2 : FilesAt H gv fs) (hl : fs.length ≤ 5000) (hm : ∀ f ∈ fs, f.length ≤ 5000) : Like (n + 3) H (.ref a) (.ref b) := by
  refine .inr ⟨a, b, _, _, rfl, rfl, .inr ⟨h1, h2⟩, by rw [f1.length, f2.length], by rw [f2.length]; exact hl, fun i x y hx hy => ?_⟩
  have hi : i < fs.length := by rw [← f1.length]; exact (List.getElem?_eq_some_iff.mp hx).1
  obtain ⟨p, e1, q1⟩ := f1.get hi
  obtain ⟨q, e2, q2⟩ := f2.get hi
  rw [hx] at e1
  rw [hy] at e2
  cases e1
  cases e2
  refine like_ints q1 q2 ?_
  rw [List.getD_eq_getElem?_getD, List.getElem?_eq_getElem hi]
  exact hm _ (List.getElem_mem hi)
theorem like_strs {n : Nat} {H : Hp} {a b : Addr} {ss : List Str} (h1 : H a = some (.tup (ss.map V.str))) (h2 : H b = some (.tup (ss.map V.str))) (hl : ss.length ≤ 5000) : Like (n + 2) H (.ref a) (.ref b) := by
  refine .inr ⟨a, b, _, _, rfl, rfl, .inl ⟨h1, h2⟩, rfl, by simpa using hl, fun i x y hx hy => ?_⟩
  rw [hx] at hy
  cases hy
  rw [List.getElem?_map] at hx
  cases e : ss[i]? with
  | none => rw [e] at hx; cases hx
  | some z => rw [e] at hx; exact .inl ⟨rfl, .inr (.inl ⟨z, (Option.some.inj hx).symm⟩)⟩
theorem like_end {n : Nat} {H : Hp} {e : End} {u v : V} (h1 : EndAt H e u) (h2 : EndAt H e v) : Like (n + 2) H u v := by
  cases e with
  | done => obtain ⟨a, rfl, h⟩ := h1; obtain ⟨b, rfl, h'⟩ := h2; exact like_strs (ss := ["end"]) h h' (by decide)
  | long => obtain ⟨a, rfl, h⟩ := h1; obtain ⟨b, rfl, h'⟩ := h2; exact like_strs (ss := ["long"]) h h' (by decide)
  | fault w => obtain ⟨a, rfl, h⟩ := h1; obtain ⟨b, rfl, h'⟩ := h2; exact like_strs (ss := ["fault", w]) h h' (by simp)
theorem like_out {p : Prog} {hs : List Int} {H0 H : Hp} {o : S × End} {u v : V} (hok : p.Ok) (g : Good p hs o.1) (h1 : OutF H0 H o u) (h2 : OutAt H o v) : Like 4 H u v := by
  obtain ⟨a, fl, sn, nl, ev, fv, rfl, k1, k2, k3, k4, k5, k6, _⟩ := h1
  obtain ⟨b, fl', sn', nl', ev', fv', rfl, m1, m2, m3, m4, m5, m6⟩ := h2
  have g1 := g.fl
  have g2 := g.nl
  have g3 := g.st
  have g4 := g.dn
  have g5 := hok.f2
  have g6 := hok.n2
  refine .inr ⟨a, b, _, _, rfl, rfl, .inl ⟨k1, m1⟩, rfl, by simp, fun i x y hx hy => ?_⟩
  match i with
  | 0 => cases hx; cases hy; exact like_files k2 m2 k3 m3 (by omega) fun f hf => by have := (g.ff f hf).1; omega
  | 1 => cases hx; cases hy; exact like_ints k4 m4 (by omega)
  | 2 => cases hx; cases hy; exact like_end k5 m5
  | 3 => cases hx; cases hy; exact like_ints k6 m6 (by omega)
  | 4 => cases hx; cases hy; exact .inl ⟨rfl, .inl ⟨_, rfl⟩⟩
  | i + 5 => cases hx
theorem OutAt.same {H H' : Hp} {o : S × End} {v : V} (h : OutAt H o v) (s : Same H H') : OutAt H' o v := by
  obtain ⟨b, fl', sn', nl', ev', fv', e, m1, m2, m3, m4, m5, m6⟩ := h
  exact ⟨b, fl', sn', nl', ev', fv', e, s _ _ m1, s _ _ m2, m3.same s, s _ _ m4, m5.mono s.tk, s _ _ m6⟩
section
variable {P : Program} {w : World} {K : PySem.W.Frag} {mg : Str → Option Value} {base : Heap} {f : Addr} {fd : FuncData}
theorem scs_law : FnScope ["_law_script", "_law_d", "_law_turn", "_law_due", "_law_first", "_law_again", "_law_program", "_law_handed", "_law_found"] ["_law_script"] (defScope s_law) := ⟨rfl, rfl, rfl, by decide +kernel, rfl, by decide +kernel, by decide +kernel⟩
theorem ok_law (F : Fun K "law" "law" s_law f fd) (T : Txt mg) (C_law_dice : FnC P w K mg base 1 "_law_dice" ["_law_script"] (spDice K)) (C_law_next : FnC P w K mg base 1 "_law_next" ["_law_dice_here", "_law_many"] (spNext K)) (C_law_any_program : FnC P w K mg base 6 "_law_any_program" ["_law_d", "_law_most"] (spProg K)) (C_law_any_handed : FnC P w K mg base 2 "_law_any_handed" ["_law_d"] (spHanded K))
    (C_law_run : FnC P w K mg base 6 "_law_run" ["_law_p", "_law_handed"] spRunL) (C_run : FnC P w K mg base 9 "run" ["program", "handed"] spRun) (C_law_like : FnC P w K mg base 4 "_law_like" ["_law_found", "_law_due"] (spLike 4)) : FnOk P w K mg base CX0 10 f fd ["_law_script"] (spLaw K) := by
  refine F.ok scs_law (fun vs H Q E h => ?_) (fun cdv A outer s H vs Q E hr h => ?_)
  · obtain ⟨a, ns, rfl, _⟩ := h
    rfl
  obtain ⟨a, ns, rfl, hS, hl, k⟩ := h
  have nd := scs_law.nd
  have hu := hu_of hr
  refine ⟨_, (pss_cons (ps_set (i := 1) nd rfl (Or.inl rfl) (pe_callC C_law_dice (hr.mono (by omega)) (by rfl) (pa_cons (pv 0) pa_nil)))
      (pss_cons (ps_for PassesOwn.never rfl (pi_range1 (by rfl) T.n_range (pa_cons pe_int pa_nil)) (pg_name (i := 2) nd rfl (Or.inl rfl)) (pss_cons (ps_par (i := 6) (j := 7) (by rfl) nd rfl rfl (by decide) rfl rfl (pa_cons (pe_callC C_law_any_program (hr.mono (by omega)) (by rfl) (pa_cons (pv 1) (pa_cons (pe_ix (kIxL K) (pe_lst (pa_cons pe_int (pa_cons pe_int pa_nil))) (pe_callC C_law_next (hr.mono (by omega)) (by rfl) (pa_cons (pv 1) (pa_cons pe_int pa_nil))) (fun _ _ => rfl)) pa_nil))) (pa_cons (pe_callC C_law_any_handed (hr.mono (by omega)) (by rfl) (pa_cons (pv 1) pa_nil)) pa_nil)) (by rfl))
      (pss_cons (ps_set (i := 3) nd rfl (Or.inl rfl) (pe_callC C_law_run (hr.mono (by omega)) (by rfl) (pa_cons (pv 6) (pa_cons (pv 7) pa_nil))))
      (pss_cons (ps_set (i := 4) nd rfl (Or.inl rfl) (pe_callTy (kList K) (by rfl) T.n_list (by decide +kernel) (pa_cons (pv 7) pa_nil)))
      (pss_one (ps_for PassesOwn.never rfl (pi_range1 (by rfl) T.n_range (pa_cons pe_int pa_nil)) (pg_name (i := 5) nd rfl (Or.inl rfl)) (pss_cons (ps_set (i := 8) nd rfl (Or.inl rfl) (pe_callC C_run (hr.mono (by omega)) (by rfl) (pa_cons (pv 6) (pa_cons (pv 4) pa_nil))))
      (pss_cons (ps_if (PW.pt (pw_or (pt_not (pt_val (pe_callC C_law_like (hr.mono (by omega)) (by rfl) (pa_cons (pv 8) (pa_cons (pv 3) pa_nil))))) (pw_or1 (pt_cmpR (kNeD K hr.units) (pv 4) (pv 7) (nomark _))))) (pss_one (ps_ret pe_bl)) pss_nil)
      (pss_cons (ps_expr (pe_bm PySem.F.plainAttrs_list PySem.F.slot_list_append PySem.F.type_list_append mt_append (pe_ix (kIxT K) (pv 8) pe_int (fun _ _ => rfl)) (pa_cons pe_int pa_nil)))
      (pss_cons (ps_expr (pe_bm PySem.F.plainAttrs_list PySem.F.slot_list_append PySem.F.type_list_append mt_append (pe_ix (kIxL K) (pe_ix (kIxT K) (pv 8) pe_int (fun _ _ => rfl)) pe_int (fun _ _ => rfl)) (pa_cons pe_int pa_nil)))
      (pss_cons (ps_expr (pe_bm PySem.F.plainAttrs_list PySem.F.slot_list_append PySem.F.type_list_append mt_append (pe_ix (kIxT K) (pv 8) pe_int (fun _ _ => rfl)) (pa_cons pe_int pa_nil)))
      (pss_one (ps_expr (pe_bm0 PySem.F.plainAttrs_list PySem.F.slot_list_clear PySem.F.type_list_clear mt_clear (pe_ix (kIxT K) (pv 8) pe_int (fun _ _ => rfl))))))))))))))))
      (pss_one (ps_ret pe_bl)))), ?_⟩
  walk_at "lw_go"
  refine ⟨a, ns, rfl, hS, hl, fun d H1 s1 D1 => ?_⟩
  walk_at "lw_go"
  refine fq_range (fun i σ H' => ∃ v2 v3 v4 v5 v6 v7 v8, σ = [some (.ref a), some (.ref d), v2, v3, v4, v5, v6, v7, v8] ∧ Dice K H' d) ⟨none, none, none, none, none, none, none, rfl, D1⟩ ?_ ?_
  · rintro i σ H' hi ⟨v2, v3, v4, v5, v6, v7, v8, rfl, D⟩
    walk_at "lw_go"
    refine go_qlst (Nat.le_of_ble_eq_true rfl) (fun p1 hp1 => ?_)
    walk_at "lw_go"
    refine nx_go (D.same (same_new hp1 _)) (by omega) (by omega) (fun r1 H2 a1 b1 D2 o1 => ?_)
    have e1 : H2 p1 = some (.lst [.int 10, .int 58]) := o1 _ _ upd_same (D.nef hp1)
    obtain ⟨mo, hmo, mo0, mo1⟩ : ∃ z, atI [V.int 10, V.int 58] r1 = some (.int z) ∧ 0 ≤ z ∧ z ≤ 58 := by
      obtain ⟨z, hz, hz'⟩ := at_two (x := V.int 10) (y := V.int 58) a1 b1
      rcases hz' with rfl | rfl
      · exact ⟨_, hz, by decide, by decide⟩
      · exact ⟨_, hz, by decide, by decide⟩
    clear o1
    walk_at "lw_go"
    refine ⟨d, mo, rfl, D2, mo0, mo1, fun pv p H3 hok hP D3 o3 => ?_⟩
    clear o3 e1
    walk_at "lw_go"
    refine ⟨d, rfl, D3, fun L hs H4 hH fL hL D4 o4 => ?_⟩
    have hP4 := hP.mono (D3.tk o4)
    clear o4
    have hpt : ∃ pa, pv = .ref pa := by obtain ⟨pa, _, _, e, _⟩ := hP4; exact ⟨pa, e⟩
    walk_at "lw_go"
    refine ⟨pv, L, p, hs, rfl, hok, hP4, hL, hH.1, hH.2, fun dv H5 hO S5 => ?_⟩
    have hL5 := S5 _ _ hL
    walk_at "lw_go"
    refine go_listL hL5 (fun L2 hL2 => ?_)
    have S6 := same_new hL2 (.lst (hs.map V.int))
    have hL6 := S6 _ _ hL5
    have hLL : upd H5 L2 (.lst (hs.map V.int)) L2 = some (.lst (hs.map V.int)) := upd_same
    have hO6 := hO.same S6
    have hP6 := (hP4.mono S5.tk).mono S6.tk
    have D6 := (D4.same S5).same S6
    generalize upd H5 L2 (.lst (hs.map V.int)) = H6 at *
    have G := good_fin hok hH.2
    walk_at "lw_go"
    refine fq_range (fun j σ H' => ∃ v5 v8, σ = [some (.ref a), some (.ref d), some (.int (0 + i)), some dv, some (.ref L2), v5, some pv, some (.ref L), v8] ∧ Same H6 H') ⟨v5, v8, rfl, Same.refl _⟩ ?_ ?_
    · rintro j σ H7 hj ⟨v5', v8', rfl, s7⟩
      have hL7 := s7 _ _ hL6
      have hLL7 := s7 _ _ hLL
      walk_at "lw_go"
      refine ⟨pv, L2, p, hs, rfl, hok, hP6.mono s7.tk, hLL7, hH.1, hH.2, fun fv8 H8 hF8 s8 => ?_⟩
      have hO8 := (hO6.same s7).same s8
      have hlk := like_out hok G hF8 hO8
      obtain ⟨oa, fl, sn, nl, ev, fv, rfl, k1, k2, k3, k4, k5, k6, z1, z2, z3, z4, z5, z6, z7⟩ := hF8
      walk_at "lw_go"
      refine ⟨_, _, rfl, hlk, ?_⟩
      walk_at "lw_go"
      refine go_neL (s8 _ _ hLL7) (s8 _ _ hL7) ?_
      walk_at "lw_go"
      have hfl0 : 0 < fv.length := by
        have g1 := G.fl
        have g2 := hok.f1
        rw [k3.length]
        omega
      have hfl1 : fv.length ≤ 1000 := by
        have g1 := G.fl
        have g2 := hok.f2
        rw [k3.length]
        omega
      obtain ⟨b, hb, hbx⟩ := k3.get (i := 0) (by rw [← k3.length]; exact hfl0)
      obtain ⟨zb, nb1, nb2, nb3⟩ := z4 b (List.mem_of_getElem? hb)
      have hgl := G.st
      have hgd := G.dn
      refine go_append k2 (small_line (by omega)) ?_
      have k1' : upd H8 fl (.lst (fv ++ [.int 0])) oa = some (.tup [.ref fl, .ref sn, ev, .ref nl, .int (Lw.fin p hs (s0 p)).1.done]) := upd_oth (ne_of k1 k2 (by intro z; cases z)) k1
      have hat : atI (fv ++ [V.int 0]) 0 = some (.ref b) := by
        show atI (fv ++ [V.int 0]) ((0 : Nat) : Int) = _
        exact atI_nat (by rw [List.getElem?_append_left hfl0]; exact hb)
      have hfl9 : upd H8 fl (.lst (fv ++ [.int 0])) fl = some (.lst (fv ++ [.int 0])) := upd_same
      have hb9 := upd_oth (o := .lst (fv ++ [.int 0])) nb2 hbx
      have hs9 := upd_oth (o := .lst (fv ++ [.int 0])) z7.symm k4
      have hn9 := upd_oth (o := .lst (fv ++ [.int 0])) z5 k6
      have S9 : Same H7 (upd H8 fl (.lst (fv ++ [.int 0]))) := same_upd z1 s8
      generalize upd H8 fl (.lst (fv ++ [.int 0])) = H9 at *
      walk_at "lw_go"
      have hbl : ((Lw.fin p hs (s0 p)).1.files.getD 0 []).length ≤ 40 := (G.file 0).1
      refine go_append hb9 (small_line (by rw [List.length_map]; omega)) ?_
      have k1'' := upd_oth (p := b) (o := .lst (((Lw.fin p hs (s0 p)).1.files.getD 0 []).map V.int ++ [.int 5])) (ne_of k1' hb9 (by intro z; cases z)) k1'
      have hs10 := upd_oth (p := b) (o := .lst (((Lw.fin p hs (s0 p)).1.files.getD 0 []).map V.int ++ [.int 5])) nb3.symm hs9
      have hn10 := upd_oth (p := b) (o := .lst (((Lw.fin p hs (s0 p)).1.files.getD 0 []).map V.int ++ [.int 5])) nb1.symm hn9
      have S10 := same_upd (o := .lst (((Lw.fin p hs (s0 p)).1.files.getD 0 []).map V.int ++ [.int 5])) zb S9
      generalize upd H9 b (.lst (((Lw.fin p hs (s0 p)).1.files.getD 0 []).map V.int ++ [.int 5])) = H10 at *
      clear k1 k1' hfl9
      walk_at "lw_go"
      refine go_append hs10 (small_line (by rw [List.length_map]; omega)) ?_
      have k11 := upd_oth (p := sn) (o := .lst ((Lw.fin p hs (s0 p)).1.sent.map V.int ++ [.int 5])) (ne_of k1'' hs10 (by intro z; cases z)) k1''
      have hn11 := upd_oth (p := sn) (o := .lst ((Lw.fin p hs (s0 p)).1.sent.map V.int ++ [.int 5])) z6 hn10
      have S11 := same_upd (o := .lst ((Lw.fin p hs (s0 p)).1.sent.map V.int ++ [.int 5])) z2 S10
      generalize upd H10 sn (.lst ((Lw.fin p hs (s0 p)).1.sent.map V.int ++ [.int 5])) = H11 at *
      clear k1''
      walk_at "lw_go"
      refine go_clear hn11 ?_
      walk_at "lw_go"
      exact ⟨_, _, rfl, s7.trans (same_upd z3 S11)⟩
    · rintro σ H7 ⟨v5', v8', rfl, s7⟩
      exact ⟨_, _, _, _, _, _, _, rfl, D6.same s7⟩
  · rintro σ H' ⟨v2, v3, v4, v5, v6, v7, v8, rfl, D⟩
    walk_at "lw_go"
    exact k _
end
end Lw
namespace Lw
open PySem L2
section
set_option maxHeartbeats 4000000
theorem all_mk {l : PySem.W.OpenLaw} {w : World} {K : PySem.W.Frag} {h : Heap} {mg : Str → Option Value} {fa : Addr} (X : K.In h) (G : h.Ns mainGlobals mg) (hfa : mg "law" = some (.ref fa))
    {f_is_number : Addr} {od_is_number an_is_number : Option Addr} {sl_is_number : Array (Option Value)} {oc_is_number kV_is_number dc_is_number pm_is_number cd_is_number ct_is_number : Value}
    {f_is_part : Addr} {od_is_part an_is_part : Option Addr} {sl_is_part : Array (Option Value)} {oc_is_part kV_is_part dc_is_part pm_is_part cd_is_part ct_is_part : Value}
    {f_is_single : Addr} {od_is_single an_is_single : Option Addr} {sl_is_single : Array (Option Value)} {oc_is_single kV_is_single dc_is_single pm_is_single cd_is_single ct_is_single : Value}
    {f_has_shape : Addr} {od_has_shape an_has_shape : Option Addr} {sl_has_shape : Array (Option Value)} {oc_has_shape kV_has_shape dc_has_shape pm_has_shape cd_has_shape ct_has_shape : Value}
    {f_is_place : Addr} {od_is_place an_is_place : Option Addr} {sl_is_place : Array (Option Value)} {oc_is_place kV_is_place dc_is_place pm_is_place cd_is_place ct_is_place : Value}
    {f_check_row : Addr} {od_check_row an_check_row : Option Addr} {sl_check_row : Array (Option Value)} {oc_check_row kV_check_row dc_check_row pm_check_row cd_check_row ct_check_row : Value}
    {f_check_program : Addr} {od_check_program an_check_program : Option Addr} {sl_check_program : Array (Option Value)} {oc_check_program kV_check_program dc_check_program pm_check_program cd_check_program ct_check_program : Value}
    {f_check_handed : Addr} {od_check_handed an_check_handed : Option Addr} {sl_check_handed : Array (Option Value)} {oc_check_handed kV_check_handed dc_check_handed pm_check_handed cd_check_handed ct_check_handed : Value}
    {f_comes_to : Addr} {od_comes_to an_comes_to : Option Addr} {sl_comes_to : Array (Option Value)} {oc_comes_to kV_comes_to dc_comes_to pm_comes_to cd_comes_to ct_comes_to : Value}
    {f_plan_set : Addr} {od_plan_set an_plan_set : Option Addr} {sl_plan_set : Array (Option Value)} {oc_plan_set kV_plan_set dc_plan_set pm_plan_set cd_plan_set ct_plan_set : Value}
    {f_plan_take : Addr} {od_plan_take an_plan_take : Option Addr} {sl_plan_take : Array (Option Value)} {oc_plan_take kV_plan_take dc_plan_take pm_plan_take cd_plan_take ct_plan_take : Value}
    {f_plan_get : Addr} {od_plan_get an_plan_get : Option Addr} {sl_plan_get : Array (Option Value)} {oc_plan_get kV_plan_get dc_plan_get pm_plan_get cd_plan_get ct_plan_get : Value}
    {f_plan_size : Addr} {od_plan_size an_plan_size : Option Addr} {sl_plan_size : Array (Option Value)} {oc_plan_size kV_plan_size dc_plan_size pm_plan_size cd_plan_size ct_plan_size : Value}
    {f_plan_add : Addr} {od_plan_add an_plan_add : Option Addr} {sl_plan_add : Array (Option Value)} {oc_plan_add kV_plan_add dc_plan_add pm_plan_add cd_plan_add ct_plan_add : Value}
    {f_plan_put : Addr} {od_plan_put an_plan_put : Option Addr} {sl_plan_put : Array (Option Value)} {oc_plan_put kV_plan_put dc_plan_put pm_plan_put cd_plan_put ct_plan_put : Value}
    {f_plan_cut : Addr} {od_plan_cut an_plan_cut : Option Addr} {sl_plan_cut : Array (Option Value)} {oc_plan_cut kV_plan_cut dc_plan_cut pm_plan_cut cd_plan_cut ct_plan_cut : Value}
    {f_plan_send : Addr} {od_plan_send an_plan_send : Option Addr} {sl_plan_send : Array (Option Value)} {oc_plan_send kV_plan_send dc_plan_send pm_plan_send cd_plan_send ct_plan_send : Value}
    {f_plan_go : Addr} {od_plan_go an_plan_go : Option Addr} {sl_plan_go : Array (Option Value)} {oc_plan_go kV_plan_go dc_plan_go pm_plan_go cd_plan_go ct_plan_go : Value}
    {f_plan_unless : Addr} {od_plan_unless an_plan_unless : Option Addr} {sl_plan_unless : Array (Option Value)} {oc_plan_unless kV_plan_unless dc_plan_unless pm_plan_unless cd_plan_unless ct_plan_unless : Value}
    {f_plan_mark : Addr} {od_plan_mark an_plan_mark : Option Addr} {sl_plan_mark : Array (Option Value)} {oc_plan_mark kV_plan_mark dc_plan_mark pm_plan_mark cd_plan_mark ct_plan_mark : Value}
    {f_planned : Addr} {od_planned an_planned : Option Addr} {sl_planned : Array (Option Value)} {oc_planned kV_planned dc_planned pm_planned cd_planned ct_planned : Value}
    {f_ended : Addr} {od_ended an_ended : Option Addr} {sl_ended : Array (Option Value)} {oc_ended kV_ended dc_ended pm_ended cd_ended ct_ended : Value}
    {f_do_change : Addr} {od_do_change an_do_change : Option Addr} {sl_do_change : Array (Option Value)} {oc_do_change kV_do_change dc_do_change pm_do_change cd_do_change ct_do_change : Value}
    {f_run : Addr} {od_run an_run : Option Addr} {sl_run : Array (Option Value)} {oc_run kV_run dc_run pm_run cd_run ct_run : Value}
    {f_law_dice : Addr} {od_law_dice an_law_dice : Option Addr} {sl_law_dice : Array (Option Value)} {oc_law_dice kV_law_dice dc_law_dice pm_law_dice cd_law_dice ct_law_dice : Value}
    {f_law_next : Addr} {od_law_next an_law_next : Option Addr} {sl_law_next : Array (Option Value)} {oc_law_next kV_law_next dc_law_next pm_law_next cd_law_next ct_law_next : Value}
    {f_law_like : Addr} {od_law_like an_law_like : Option Addr} {sl_law_like : Array (Option Value)} {oc_law_like kV_law_like dc_law_like pm_law_like cd_law_like ct_law_like : Value}
    {f_law_any_part : Addr} {od_law_any_part an_law_any_part : Option Addr} {sl_law_any_part : Array (Option Value)} {oc_law_any_part kV_law_any_part dc_law_any_part pm_law_any_part cd_law_any_part ct_law_any_part : Value}
    {f_law_any_row : Addr} {od_law_any_row an_law_any_row : Option Addr} {sl_law_any_row : Array (Option Value)} {oc_law_any_row kV_law_any_row dc_law_any_row pm_law_any_row cd_law_any_row ct_law_any_row : Value}
    {f_law_any_program : Addr} {od_law_any_program an_law_any_program : Option Addr} {sl_law_any_program : Array (Option Value)} {oc_law_any_program kV_law_any_program dc_law_any_program pm_law_any_program cd_law_any_program ct_law_any_program : Value}
    {f_law_any_handed : Addr} {od_law_any_handed an_law_any_handed : Option Addr} {sl_law_any_handed : Array (Option Value)} {oc_law_any_handed kV_law_any_handed dc_law_any_handed pm_law_any_handed cd_law_any_handed ct_law_any_handed : Value}
    {f_law_worth : Addr} {od_law_worth an_law_worth : Option Addr} {sl_law_worth : Array (Option Value)} {oc_law_worth kV_law_worth dc_law_worth pm_law_worth cd_law_worth ct_law_worth : Value}
    {f_law_effect : Addr} {od_law_effect an_law_effect : Option Addr} {sl_law_effect : Array (Option Value)} {oc_law_effect kV_law_effect dc_law_effect pm_law_effect cd_law_effect ct_law_effect : Value}
    {f_law_pass : Addr} {od_law_pass an_law_pass : Option Addr} {sl_law_pass : Array (Option Value)} {oc_law_pass kV_law_pass dc_law_pass pm_law_pass cd_law_pass ct_law_pass : Value}
    {f_law_inner : Addr} {od_law_inner an_law_inner : Option Addr} {sl_law_inner : Array (Option Value)} {oc_law_inner kV_law_inner dc_law_inner pm_law_inner cd_law_inner ct_law_inner : Value}
    {f_law_run : Addr} {od_law_run an_law_run : Option Addr} {sl_law_run : Array (Option Value)} {oc_law_run kV_law_run dc_law_run pm_law_run cd_law_run ct_law_run : Value}
    {f_law : Addr} {od_law an_law : Option Addr} {sl_law : Array (Option Value)} {oc_law kV_law dc_law pm_law cd_law ct_law : Value}
    {cI : Addr}
    {cC : Addr}
    {f_Inside___init__ : Addr} {od_Inside___init__ an_Inside___init__ : Option Addr} {sl_Inside___init__ : Array (Option Value)} {oc_Inside___init__ kV_Inside___init__ dc_Inside___init__ pm_Inside___init__ cd_Inside___init__ ct_Inside___init__ : Value}
    {f_Inside_follow : Addr} {od_Inside_follow an_Inside_follow : Option Addr} {sl_Inside_follow : Array (Option Value)} {oc_Inside_follow kV_Inside_follow dc_Inside_follow pm_Inside_follow cd_Inside_follow ct_Inside_follow : Value}
    {f_Change___init__ : Addr} {od_Change___init__ an_Change___init__ : Option Addr} {sl_Change___init__ : Array (Option Value)} {oc_Change___init__ kV_Change___init__ dc_Change___init__ pm_Change___init__ cd_Change___init__ ct_Change___init__ : Value}
    {f_Change_hold : Addr} {od_Change_hold an_Change_hold : Option Addr} {sl_Change_hold : Array (Option Value)} {oc_Change_hold kV_Change_hold dc_Change_hold pm_Change_hold cd_Change_hold ct_Change_hold : Value}
    {f_Change_fill : Addr} {od_Change_fill an_Change_fill : Option Addr} {sl_Change_fill : Array (Option Value)} {oc_Change_fill kV_Change_fill dc_Change_fill pm_Change_fill cd_Change_fill ct_Change_fill : Value}
    {dP : Addr}
    {dL : Addr}
    {t_MOST_NAMES : Tok}
    {t_MOST_FILES : Tok}
    {t_MOST_ROWS : Tok}
    {t_MOST_HANDED : Tok}
    {t_MOST_DEEP : Tok}
    {t_TOP : Tok}
    {t_REST : Tok}
    {t_MOST_NUMBERS : Tok}
    {t_MOST_DONE : Tok}
    (a_is_number : PySem.W.nsIn K mainGlobals "is_number" = some (some (.ref f_is_number)))
    (l_is_number : K.lookup f_is_number = some ⟨oc_is_number, od_is_number, .func (PySem.W.fnOf "is_number" "is_number" (defArgs s_is_number) (defBody s_is_number) (defScope s_is_number) .none kV_is_number dc_is_number pm_is_number an_is_number cd_is_number ct_is_number), sl_is_number⟩)
    (c_is_number : PySem.W.codeIn K cd_is_number "is_number" = true)
    (k_is_number : PySem.W.keepIn K (.ref f_is_number) = true)
    (a_is_part : PySem.W.nsIn K mainGlobals "is_part" = some (some (.ref f_is_part)))
    (l_is_part : K.lookup f_is_part = some ⟨oc_is_part, od_is_part, .func (PySem.W.fnOf "is_part" "is_part" (defArgs s_is_part) (defBody s_is_part) (defScope s_is_part) .none kV_is_part dc_is_part pm_is_part an_is_part cd_is_part ct_is_part), sl_is_part⟩)
    (c_is_part : PySem.W.codeIn K cd_is_part "is_part" = true)
    (k_is_part : PySem.W.keepIn K (.ref f_is_part) = true)
    (a_is_single : PySem.W.nsIn K mainGlobals "is_single" = some (some (.ref f_is_single)))
    (l_is_single : K.lookup f_is_single = some ⟨oc_is_single, od_is_single, .func (PySem.W.fnOf "is_single" "is_single" (defArgs s_is_single) (defBody s_is_single) (defScope s_is_single) .none kV_is_single dc_is_single pm_is_single an_is_single cd_is_single ct_is_single), sl_is_single⟩)
    (c_is_single : PySem.W.codeIn K cd_is_single "is_single" = true)
    (k_is_single : PySem.W.keepIn K (.ref f_is_single) = true)
    (a_has_shape : PySem.W.nsIn K mainGlobals "has_shape" = some (some (.ref f_has_shape)))
    (l_has_shape : K.lookup f_has_shape = some ⟨oc_has_shape, od_has_shape, .func (PySem.W.fnOf "has_shape" "has_shape" (defArgs s_has_shape) (defBody s_has_shape) (defScope s_has_shape) .none kV_has_shape dc_has_shape pm_has_shape an_has_shape cd_has_shape ct_has_shape), sl_has_shape⟩)
    (c_has_shape : PySem.W.codeIn K cd_has_shape "has_shape" = true)
    (k_has_shape : PySem.W.keepIn K (.ref f_has_shape) = true)
    (a_is_place : PySem.W.nsIn K mainGlobals "is_place" = some (some (.ref f_is_place)))
    (l_is_place : K.lookup f_is_place = some ⟨oc_is_place, od_is_place, .func (PySem.W.fnOf "is_place" "is_place" (defArgs s_is_place) (defBody s_is_place) (defScope s_is_place) .none kV_is_place dc_is_place pm_is_place an_is_place cd_is_place ct_is_place), sl_is_place⟩)
    (c_is_place : PySem.W.codeIn K cd_is_place "is_place" = true)
    (k_is_place : PySem.W.keepIn K (.ref f_is_place) = true)
    (a_check_row : PySem.W.nsIn K mainGlobals "check_row" = some (some (.ref f_check_row)))
    (l_check_row : K.lookup f_check_row = some ⟨oc_check_row, od_check_row, .func (PySem.W.fnOf "check_row" "check_row" (defArgs s_check_row) (defBody s_check_row) (defScope s_check_row) .none kV_check_row dc_check_row pm_check_row an_check_row cd_check_row ct_check_row), sl_check_row⟩)
    (c_check_row : PySem.W.codeIn K cd_check_row "check_row" = true)
    (k_check_row : PySem.W.keepIn K (.ref f_check_row) = true)
    (a_check_program : PySem.W.nsIn K mainGlobals "check_program" = some (some (.ref f_check_program)))
    (l_check_program : K.lookup f_check_program = some ⟨oc_check_program, od_check_program, .func (PySem.W.fnOf "check_program" "check_program" (defArgs s_check_program) (defBody s_check_program) (defScope s_check_program) .none kV_check_program dc_check_program pm_check_program an_check_program cd_check_program ct_check_program), sl_check_program⟩)
    (c_check_program : PySem.W.codeIn K cd_check_program "check_program" = true)
    (k_check_program : PySem.W.keepIn K (.ref f_check_program) = true)
    (a_check_handed : PySem.W.nsIn K mainGlobals "check_handed" = some (some (.ref f_check_handed)))
    (l_check_handed : K.lookup f_check_handed = some ⟨oc_check_handed, od_check_handed, .func (PySem.W.fnOf "check_handed" "check_handed" (defArgs s_check_handed) (defBody s_check_handed) (defScope s_check_handed) .none kV_check_handed dc_check_handed pm_check_handed an_check_handed cd_check_handed ct_check_handed), sl_check_handed⟩)
    (c_check_handed : PySem.W.codeIn K cd_check_handed "check_handed" = true)
    (k_check_handed : PySem.W.keepIn K (.ref f_check_handed) = true)
    (a_comes_to : PySem.W.nsIn K mainGlobals "comes_to" = some (some (.ref f_comes_to)))
    (l_comes_to : K.lookup f_comes_to = some ⟨oc_comes_to, od_comes_to, .func (PySem.W.fnOf "comes_to" "comes_to" (defArgs s_comes_to) (defBody s_comes_to) (defScope s_comes_to) .none kV_comes_to dc_comes_to pm_comes_to an_comes_to cd_comes_to ct_comes_to), sl_comes_to⟩)
    (c_comes_to : PySem.W.codeIn K cd_comes_to "comes_to" = true)
    (k_comes_to : PySem.W.keepIn K (.ref f_comes_to) = true)
    (a_plan_set : PySem.W.nsIn K mainGlobals "plan_set" = some (some (.ref f_plan_set)))
    (l_plan_set : K.lookup f_plan_set = some ⟨oc_plan_set, od_plan_set, .func (PySem.W.fnOf "plan_set" "plan_set" (defArgs s_plan_set) (defBody s_plan_set) (defScope s_plan_set) .none kV_plan_set dc_plan_set pm_plan_set an_plan_set cd_plan_set ct_plan_set), sl_plan_set⟩)
    (c_plan_set : PySem.W.codeIn K cd_plan_set "plan_set" = true)
    (k_plan_set : PySem.W.keepIn K (.ref f_plan_set) = true)
    (a_plan_take : PySem.W.nsIn K mainGlobals "plan_take" = some (some (.ref f_plan_take)))
    (l_plan_take : K.lookup f_plan_take = some ⟨oc_plan_take, od_plan_take, .func (PySem.W.fnOf "plan_take" "plan_take" (defArgs s_plan_take) (defBody s_plan_take) (defScope s_plan_take) .none kV_plan_take dc_plan_take pm_plan_take an_plan_take cd_plan_take ct_plan_take), sl_plan_take⟩)
    (c_plan_take : PySem.W.codeIn K cd_plan_take "plan_take" = true)
    (k_plan_take : PySem.W.keepIn K (.ref f_plan_take) = true)
    (a_plan_get : PySem.W.nsIn K mainGlobals "plan_get" = some (some (.ref f_plan_get)))
    (l_plan_get : K.lookup f_plan_get = some ⟨oc_plan_get, od_plan_get, .func (PySem.W.fnOf "plan_get" "plan_get" (defArgs s_plan_get) (defBody s_plan_get) (defScope s_plan_get) .none kV_plan_get dc_plan_get pm_plan_get an_plan_get cd_plan_get ct_plan_get), sl_plan_get⟩)
    (c_plan_get : PySem.W.codeIn K cd_plan_get "plan_get" = true)
    (k_plan_get : PySem.W.keepIn K (.ref f_plan_get) = true)
    (a_plan_size : PySem.W.nsIn K mainGlobals "plan_size" = some (some (.ref f_plan_size)))
    (l_plan_size : K.lookup f_plan_size = some ⟨oc_plan_size, od_plan_size, .func (PySem.W.fnOf "plan_size" "plan_size" (defArgs s_plan_size) (defBody s_plan_size) (defScope s_plan_size) .none kV_plan_size dc_plan_size pm_plan_size an_plan_size cd_plan_size ct_plan_size), sl_plan_size⟩)
    (c_plan_size : PySem.W.codeIn K cd_plan_size "plan_size" = true)
    (k_plan_size : PySem.W.keepIn K (.ref f_plan_size) = true)
    (a_plan_add : PySem.W.nsIn K mainGlobals "plan_add" = some (some (.ref f_plan_add)))
    (l_plan_add : K.lookup f_plan_add = some ⟨oc_plan_add, od_plan_add, .func (PySem.W.fnOf "plan_add" "plan_add" (defArgs s_plan_add) (defBody s_plan_add) (defScope s_plan_add) .none kV_plan_add dc_plan_add pm_plan_add an_plan_add cd_plan_add ct_plan_add), sl_plan_add⟩)
    (c_plan_add : PySem.W.codeIn K cd_plan_add "plan_add" = true)
    (k_plan_add : PySem.W.keepIn K (.ref f_plan_add) = true)
    (a_plan_put : PySem.W.nsIn K mainGlobals "plan_put" = some (some (.ref f_plan_put)))
    (l_plan_put : K.lookup f_plan_put = some ⟨oc_plan_put, od_plan_put, .func (PySem.W.fnOf "plan_put" "plan_put" (defArgs s_plan_put) (defBody s_plan_put) (defScope s_plan_put) .none kV_plan_put dc_plan_put pm_plan_put an_plan_put cd_plan_put ct_plan_put), sl_plan_put⟩)
    (c_plan_put : PySem.W.codeIn K cd_plan_put "plan_put" = true)
    (k_plan_put : PySem.W.keepIn K (.ref f_plan_put) = true)
    (a_plan_cut : PySem.W.nsIn K mainGlobals "plan_cut" = some (some (.ref f_plan_cut)))
    (l_plan_cut : K.lookup f_plan_cut = some ⟨oc_plan_cut, od_plan_cut, .func (PySem.W.fnOf "plan_cut" "plan_cut" (defArgs s_plan_cut) (defBody s_plan_cut) (defScope s_plan_cut) .none kV_plan_cut dc_plan_cut pm_plan_cut an_plan_cut cd_plan_cut ct_plan_cut), sl_plan_cut⟩)
    (c_plan_cut : PySem.W.codeIn K cd_plan_cut "plan_cut" = true)
    (k_plan_cut : PySem.W.keepIn K (.ref f_plan_cut) = true)
    (a_plan_send : PySem.W.nsIn K mainGlobals "plan_send" = some (some (.ref f_plan_send)))
    (l_plan_send : K.lookup f_plan_send = some ⟨oc_plan_send, od_plan_send, .func (PySem.W.fnOf "plan_send" "plan_send" (defArgs s_plan_send) (defBody s_plan_send) (defScope s_plan_send) .none kV_plan_send dc_plan_send pm_plan_send an_plan_send cd_plan_send ct_plan_send), sl_plan_send⟩)
    (c_plan_send : PySem.W.codeIn K cd_plan_send "plan_send" = true)
    (k_plan_send : PySem.W.keepIn K (.ref f_plan_send) = true)
    (a_plan_go : PySem.W.nsIn K mainGlobals "plan_go" = some (some (.ref f_plan_go)))
    (l_plan_go : K.lookup f_plan_go = some ⟨oc_plan_go, od_plan_go, .func (PySem.W.fnOf "plan_go" "plan_go" (defArgs s_plan_go) (defBody s_plan_go) (defScope s_plan_go) .none kV_plan_go dc_plan_go pm_plan_go an_plan_go cd_plan_go ct_plan_go), sl_plan_go⟩)
    (c_plan_go : PySem.W.codeIn K cd_plan_go "plan_go" = true)
    (k_plan_go : PySem.W.keepIn K (.ref f_plan_go) = true)
    (a_plan_unless : PySem.W.nsIn K mainGlobals "plan_unless" = some (some (.ref f_plan_unless)))
    (l_plan_unless : K.lookup f_plan_unless = some ⟨oc_plan_unless, od_plan_unless, .func (PySem.W.fnOf "plan_unless" "plan_unless" (defArgs s_plan_unless) (defBody s_plan_unless) (defScope s_plan_unless) .none kV_plan_unless dc_plan_unless pm_plan_unless an_plan_unless cd_plan_unless ct_plan_unless), sl_plan_unless⟩)
    (c_plan_unless : PySem.W.codeIn K cd_plan_unless "plan_unless" = true)
    (k_plan_unless : PySem.W.keepIn K (.ref f_plan_unless) = true)
    (a_plan_mark : PySem.W.nsIn K mainGlobals "plan_mark" = some (some (.ref f_plan_mark)))
    (l_plan_mark : K.lookup f_plan_mark = some ⟨oc_plan_mark, od_plan_mark, .func (PySem.W.fnOf "plan_mark" "plan_mark" (defArgs s_plan_mark) (defBody s_plan_mark) (defScope s_plan_mark) .none kV_plan_mark dc_plan_mark pm_plan_mark an_plan_mark cd_plan_mark ct_plan_mark), sl_plan_mark⟩)
    (c_plan_mark : PySem.W.codeIn K cd_plan_mark "plan_mark" = true)
    (k_plan_mark : PySem.W.keepIn K (.ref f_plan_mark) = true)
    (a_planned : PySem.W.nsIn K mainGlobals "planned" = some (some (.ref f_planned)))
    (l_planned : K.lookup f_planned = some ⟨oc_planned, od_planned, .func (PySem.W.fnOf "planned" "planned" (defArgs s_planned) (defBody s_planned) (defScope s_planned) .none kV_planned dc_planned pm_planned an_planned cd_planned ct_planned), sl_planned⟩)
    (c_planned : PySem.W.codeIn K cd_planned "planned" = true)
    (k_planned : PySem.W.keepIn K (.ref f_planned) = true)
    (a_ended : PySem.W.nsIn K mainGlobals "ended" = some (some (.ref f_ended)))
    (l_ended : K.lookup f_ended = some ⟨oc_ended, od_ended, .func (PySem.W.fnOf "ended" "ended" (defArgs s_ended) (defBody s_ended) (defScope s_ended) .none kV_ended dc_ended pm_ended an_ended cd_ended ct_ended), sl_ended⟩)
    (c_ended : PySem.W.codeIn K cd_ended "ended" = true)
    (k_ended : PySem.W.keepIn K (.ref f_ended) = true)
    (a_do_change : PySem.W.nsIn K mainGlobals "do_change" = some (some (.ref f_do_change)))
    (l_do_change : K.lookup f_do_change = some ⟨oc_do_change, od_do_change, .func (PySem.W.fnOf "do_change" "do_change" (defArgs s_do_change) (defBody s_do_change) (defScope s_do_change) .none kV_do_change dc_do_change pm_do_change an_do_change cd_do_change ct_do_change), sl_do_change⟩)
    (c_do_change : PySem.W.codeIn K cd_do_change "do_change" = true)
    (k_do_change : PySem.W.keepIn K (.ref f_do_change) = true)
    (a_run : PySem.W.nsIn K mainGlobals "run" = some (some (.ref f_run)))
    (l_run : K.lookup f_run = some ⟨oc_run, od_run, .func (PySem.W.fnOf "run" "run" (defArgs s_run) (defBody s_run) (defScope s_run) .none kV_run dc_run pm_run an_run cd_run ct_run), sl_run⟩)
    (c_run : PySem.W.codeIn K cd_run "run" = true)
    (k_run : PySem.W.keepIn K (.ref f_run) = true)
    (a_law_dice : PySem.W.nsIn K mainGlobals "_law_dice" = some (some (.ref f_law_dice)))
    (l_law_dice : K.lookup f_law_dice = some ⟨oc_law_dice, od_law_dice, .func (PySem.W.fnOf "_law_dice" "_law_dice" (defArgs s__law_dice) (defBody s__law_dice) (defScope s__law_dice) .none kV_law_dice dc_law_dice pm_law_dice an_law_dice cd_law_dice ct_law_dice), sl_law_dice⟩)
    (c_law_dice : PySem.W.codeIn K cd_law_dice "_law_dice" = true)
    (k_law_dice : PySem.W.keepIn K (.ref f_law_dice) = true)
    (a_law_next : PySem.W.nsIn K mainGlobals "_law_next" = some (some (.ref f_law_next)))
    (l_law_next : K.lookup f_law_next = some ⟨oc_law_next, od_law_next, .func (PySem.W.fnOf "_law_next" "_law_next" (defArgs s__law_next) (defBody s__law_next) (defScope s__law_next) .none kV_law_next dc_law_next pm_law_next an_law_next cd_law_next ct_law_next), sl_law_next⟩)
    (c_law_next : PySem.W.codeIn K cd_law_next "_law_next" = true)
    (k_law_next : PySem.W.keepIn K (.ref f_law_next) = true)
    (a_law_like : PySem.W.nsIn K mainGlobals "_law_like" = some (some (.ref f_law_like)))
    (l_law_like : K.lookup f_law_like = some ⟨oc_law_like, od_law_like, .func (PySem.W.fnOf "_law_like" "_law_like" (defArgs s__law_like) (defBody s__law_like) (defScope s__law_like) .none kV_law_like dc_law_like pm_law_like an_law_like cd_law_like ct_law_like), sl_law_like⟩)
    (c_law_like : PySem.W.codeIn K cd_law_like "_law_like" = true)
    (k_law_like : PySem.W.keepIn K (.ref f_law_like) = true)
    (a_law_any_part : PySem.W.nsIn K mainGlobals "_law_any_part" = some (some (.ref f_law_any_part)))
    (l_law_any_part : K.lookup f_law_any_part = some ⟨oc_law_any_part, od_law_any_part, .func (PySem.W.fnOf "_law_any_part" "_law_any_part" (defArgs s__law_any_part) (defBody s__law_any_part) (defScope s__law_any_part) .none kV_law_any_part dc_law_any_part pm_law_any_part an_law_any_part cd_law_any_part ct_law_any_part), sl_law_any_part⟩)
    (c_law_any_part : PySem.W.codeIn K cd_law_any_part "_law_any_part" = true)
    (k_law_any_part : PySem.W.keepIn K (.ref f_law_any_part) = true)
    (a_law_any_row : PySem.W.nsIn K mainGlobals "_law_any_row" = some (some (.ref f_law_any_row)))
    (l_law_any_row : K.lookup f_law_any_row = some ⟨oc_law_any_row, od_law_any_row, .func (PySem.W.fnOf "_law_any_row" "_law_any_row" (defArgs s__law_any_row) (defBody s__law_any_row) (defScope s__law_any_row) .none kV_law_any_row dc_law_any_row pm_law_any_row an_law_any_row cd_law_any_row ct_law_any_row), sl_law_any_row⟩)
    (c_law_any_row : PySem.W.codeIn K cd_law_any_row "_law_any_row" = true)
    (k_law_any_row : PySem.W.keepIn K (.ref f_law_any_row) = true)
    (a_law_any_program : PySem.W.nsIn K mainGlobals "_law_any_program" = some (some (.ref f_law_any_program)))
    (l_law_any_program : K.lookup f_law_any_program = some ⟨oc_law_any_program, od_law_any_program, .func (PySem.W.fnOf "_law_any_program" "_law_any_program" (defArgs s__law_any_program) (defBody s__law_any_program) (defScope s__law_any_program) .none kV_law_any_program dc_law_any_program pm_law_any_program an_law_any_program cd_law_any_program ct_law_any_program), sl_law_any_program⟩)
    (c_law_any_program : PySem.W.codeIn K cd_law_any_program "_law_any_program" = true)
    (k_law_any_program : PySem.W.keepIn K (.ref f_law_any_program) = true)
    (a_law_any_handed : PySem.W.nsIn K mainGlobals "_law_any_handed" = some (some (.ref f_law_any_handed)))
    (l_law_any_handed : K.lookup f_law_any_handed = some ⟨oc_law_any_handed, od_law_any_handed, .func (PySem.W.fnOf "_law_any_handed" "_law_any_handed" (defArgs s__law_any_handed) (defBody s__law_any_handed) (defScope s__law_any_handed) .none kV_law_any_handed dc_law_any_handed pm_law_any_handed an_law_any_handed cd_law_any_handed ct_law_any_handed), sl_law_any_handed⟩)
    (c_law_any_handed : PySem.W.codeIn K cd_law_any_handed "_law_any_handed" = true)
    (k_law_any_handed : PySem.W.keepIn K (.ref f_law_any_handed) = true)
    (a_law_worth : PySem.W.nsIn K mainGlobals "_law_worth" = some (some (.ref f_law_worth)))
    (l_law_worth : K.lookup f_law_worth = some ⟨oc_law_worth, od_law_worth, .func (PySem.W.fnOf "_law_worth" "_law_worth" (defArgs s__law_worth) (defBody s__law_worth) (defScope s__law_worth) .none kV_law_worth dc_law_worth pm_law_worth an_law_worth cd_law_worth ct_law_worth), sl_law_worth⟩)
    (c_law_worth : PySem.W.codeIn K cd_law_worth "_law_worth" = true)
    (k_law_worth : PySem.W.keepIn K (.ref f_law_worth) = true)
    (a_law_effect : PySem.W.nsIn K mainGlobals "_law_effect" = some (some (.ref f_law_effect)))
    (l_law_effect : K.lookup f_law_effect = some ⟨oc_law_effect, od_law_effect, .func (PySem.W.fnOf "_law_effect" "_law_effect" (defArgs s__law_effect) (defBody s__law_effect) (defScope s__law_effect) .none kV_law_effect dc_law_effect pm_law_effect an_law_effect cd_law_effect ct_law_effect), sl_law_effect⟩)
    (c_law_effect : PySem.W.codeIn K cd_law_effect "_law_effect" = true)
    (k_law_effect : PySem.W.keepIn K (.ref f_law_effect) = true)
    (a_law_pass : PySem.W.nsIn K mainGlobals "_law_pass" = some (some (.ref f_law_pass)))
    (l_law_pass : K.lookup f_law_pass = some ⟨oc_law_pass, od_law_pass, .func (PySem.W.fnOf "_law_pass" "_law_pass" (defArgs s__law_pass) (defBody s__law_pass) (defScope s__law_pass) .none kV_law_pass dc_law_pass pm_law_pass an_law_pass cd_law_pass ct_law_pass), sl_law_pass⟩)
    (c_law_pass : PySem.W.codeIn K cd_law_pass "_law_pass" = true)
    (k_law_pass : PySem.W.keepIn K (.ref f_law_pass) = true)
    (a_law_inner : PySem.W.nsIn K mainGlobals "_law_inner" = some (some (.ref f_law_inner)))
    (l_law_inner : K.lookup f_law_inner = some ⟨oc_law_inner, od_law_inner, .func (PySem.W.fnOf "_law_inner" "_law_inner" (defArgs s__law_inner) (defBody s__law_inner) (defScope s__law_inner) .none kV_law_inner dc_law_inner pm_law_inner an_law_inner cd_law_inner ct_law_inner), sl_law_inner⟩)
    (c_law_inner : PySem.W.codeIn K cd_law_inner "_law_inner" = true)
    (k_law_inner : PySem.W.keepIn K (.ref f_law_inner) = true)
    (a_law_run : PySem.W.nsIn K mainGlobals "_law_run" = some (some (.ref f_law_run)))
    (l_law_run : K.lookup f_law_run = some ⟨oc_law_run, od_law_run, .func (PySem.W.fnOf "_law_run" "_law_run" (defArgs s__law_run) (defBody s__law_run) (defScope s__law_run) .none kV_law_run dc_law_run pm_law_run an_law_run cd_law_run ct_law_run), sl_law_run⟩)
    (c_law_run : PySem.W.codeIn K cd_law_run "_law_run" = true)
    (k_law_run : PySem.W.keepIn K (.ref f_law_run) = true)
    (a_law : PySem.W.nsIn K mainGlobals "law" = some (some (.ref f_law)))
    (l_law : K.lookup f_law = some ⟨oc_law, od_law, .func (PySem.W.fnOf "law" "law" (defArgs s_law) (defBody s_law) (defScope s_law) .none kV_law dc_law pm_law an_law cd_law ct_law), sl_law⟩)
    (c_law : PySem.W.codeIn K cd_law "law" = true)
    (k_law : PySem.W.keepIn K (.ref f_law) = true)
    (aC_Inside : PySem.W.nsIn K mainGlobals "Inside" = some (some (.ref cI)))
    (pg_Inside : PySem.W.plainGet K cI Str.empty = true)
    (hd_Inside : PySem.W.hasDictIn K cI = true)
    (po_Inside : PySem.W.plainOver K cI = true)
    (sa_Inside : PySem.W.findIn K (.ref cI) "__setattr__" = some (some (.builtin "object.__setattr__")))
    (mk_Inside : PySem.W.makesIn K cI = true)
    (kc_Inside : PySem.W.keepIn K (.ref cI) = true)
    (n_Inside_row : PySem.W.findIn K (.ref cI) "row" = some none)
    (n_Inside_names : PySem.W.findIn K (.ref cI) "names" = some none)
    (n_Inside_taken : PySem.W.findIn K (.ref cI) "taken" = some none)
    (n_Inside_done : PySem.W.findIn K (.ref cI) "done" = some none)
    (n_Inside_letters : PySem.W.findIn K (.ref cI) "letters" = some none)
    (aC_Change : PySem.W.nsIn K mainGlobals "Change" = some (some (.ref cC)))
    (pg_Change : PySem.W.plainGet K cC Str.empty = true)
    (hd_Change : PySem.W.hasDictIn K cC = true)
    (po_Change : PySem.W.plainOver K cC = true)
    (sa_Change : PySem.W.findIn K (.ref cC) "__setattr__" = some (some (.builtin "object.__setattr__")))
    (mk_Change : PySem.W.makesIn K cC = true)
    (kc_Change : PySem.W.keepIn K (.ref cC) = true)
    (n_Change_follows : PySem.W.findIn K (.ref cC) "follows" = some none)
    (n_Change_fault : PySem.W.findIn K (.ref cC) "fault" = some none)
    (n_Change_name : PySem.W.findIn K (.ref cC) "name" = some none)
    (n_Change_worth : PySem.W.findIn K (.ref cC) "worth" = some none)
    (n_Change_takes : PySem.W.findIn K (.ref cC) "takes" = some none)
    (n_Change_file : PySem.W.findIn K (.ref cC) "file" = some none)
    (n_Change_numbers : PySem.W.findIn K (.ref cC) "numbers" = some none)
    (n_Change_letter : PySem.W.findIn K (.ref cC) "letter" = some none)
    (a_Inside___init__ : PySem.W.findIn K (.ref cI) "__init__" = some (some (.ref f_Inside___init__)))
    (i_Inside___init__ : PySem.W.isFn K (.ref f_Inside___init__) = true)
    (l_Inside___init__ : K.lookup f_Inside___init__ = some ⟨oc_Inside___init__, od_Inside___init__, .func (PySem.W.fnOf "__init__" "Inside.__init__" (defArgs s_Inside___init__) (defBody s_Inside___init__) (defScope s_Inside___init__) .none kV_Inside___init__ dc_Inside___init__ pm_Inside___init__ an_Inside___init__ cd_Inside___init__ ct_Inside___init__), sl_Inside___init__⟩)
    (c_Inside___init__ : PySem.W.codeIn K cd_Inside___init__ "Inside.__init__" = true)
    (k_Inside___init__ : PySem.W.keepIn K (.ref f_Inside___init__) = true)
    (a_Inside_follow : PySem.W.findIn K (.ref cI) "follow" = some (some (.ref f_Inside_follow)))
    (i_Inside_follow : PySem.W.isFn K (.ref f_Inside_follow) = true)
    (l_Inside_follow : K.lookup f_Inside_follow = some ⟨oc_Inside_follow, od_Inside_follow, .func (PySem.W.fnOf "follow" "Inside.follow" (defArgs s_Inside_follow) (defBody s_Inside_follow) (defScope s_Inside_follow) .none kV_Inside_follow dc_Inside_follow pm_Inside_follow an_Inside_follow cd_Inside_follow ct_Inside_follow), sl_Inside_follow⟩)
    (c_Inside_follow : PySem.W.codeIn K cd_Inside_follow "Inside.follow" = true)
    (k_Inside_follow : PySem.W.keepIn K (.ref f_Inside_follow) = true)
    (a_Change___init__ : PySem.W.findIn K (.ref cC) "__init__" = some (some (.ref f_Change___init__)))
    (i_Change___init__ : PySem.W.isFn K (.ref f_Change___init__) = true)
    (l_Change___init__ : K.lookup f_Change___init__ = some ⟨oc_Change___init__, od_Change___init__, .func (PySem.W.fnOf "__init__" "Change.__init__" (defArgs s_Change___init__) (defBody s_Change___init__) (defScope s_Change___init__) .none kV_Change___init__ dc_Change___init__ pm_Change___init__ an_Change___init__ cd_Change___init__ ct_Change___init__), sl_Change___init__⟩)
    (c_Change___init__ : PySem.W.codeIn K cd_Change___init__ "Change.__init__" = true)
    (k_Change___init__ : PySem.W.keepIn K (.ref f_Change___init__) = true)
    (a_Change_hold : PySem.W.findIn K (.ref cC) "hold" = some (some (.ref f_Change_hold)))
    (i_Change_hold : PySem.W.isFn K (.ref f_Change_hold) = true)
    (l_Change_hold : K.lookup f_Change_hold = some ⟨oc_Change_hold, od_Change_hold, .func (PySem.W.fnOf "hold" "Change.hold" (defArgs s_Change_hold) (defBody s_Change_hold) (defScope s_Change_hold) .none kV_Change_hold dc_Change_hold pm_Change_hold an_Change_hold cd_Change_hold ct_Change_hold), sl_Change_hold⟩)
    (c_Change_hold : PySem.W.codeIn K cd_Change_hold "Change.hold" = true)
    (k_Change_hold : PySem.W.keepIn K (.ref f_Change_hold) = true)
    (a_Change_fill : PySem.W.findIn K (.ref cC) "fill" = some (some (.ref f_Change_fill)))
    (i_Change_fill : PySem.W.isFn K (.ref f_Change_fill) = true)
    (l_Change_fill : K.lookup f_Change_fill = some ⟨oc_Change_fill, od_Change_fill, .func (PySem.W.fnOf "fill" "Change.fill" (defArgs s_Change_fill) (defBody s_Change_fill) (defScope s_Change_fill) .none kV_Change_fill dc_Change_fill pm_Change_fill an_Change_fill cd_Change_fill ct_Change_fill), sl_Change_fill⟩)
    (c_Change_fill : PySem.W.codeIn K cd_Change_fill "Change.fill" = true)
    (k_Change_fill : PySem.W.keepIn K (.ref f_Change_fill) = true)
    (ad_PLACES : PySem.W.nsIn K mainGlobals "PLACES" = some (some (.ref dP)))
    (ad_PLANS : PySem.W.nsIn K mainGlobals "PLANS" = some (some (.ref dL)))
    (z_len : PySem.W.nsIn K mainGlobals "len" = some none)
    (z_range : PySem.W.nsIn K mainGlobals "range" = some none)
    (z_isinstance : PySem.W.nsIn K mainGlobals "isinstance" = some none)
    (z_int : PySem.W.nsIn K mainGlobals "int" = some none)
    (z_bool : PySem.W.nsIn K mainGlobals "bool" = some none)
    (z_str : PySem.W.nsIn K mainGlobals "str" = some none)
    (z_tuple : PySem.W.nsIn K mainGlobals "tuple" = some none)
    (z_list : PySem.W.nsIn K mainGlobals "list" = some none)
    (z_min : PySem.W.nsIn K mainGlobals "min" = some none)
    (z_max : PySem.W.nsIn K mainGlobals "max" = some none)
    (z_enumerate : PySem.W.nsIn K mainGlobals "enumerate" = some none)
    (z_zip : PySem.W.nsIn K mainGlobals "zip" = some none)
    (y_MOST_NAMES : PySem.W.nsIn K mainGlobals "MOST_NAMES" = some (some (.int 8 t_MOST_NAMES)))
    (y_MOST_FILES : PySem.W.nsIn K mainGlobals "MOST_FILES" = some (some (.int 4 t_MOST_FILES)))
    (y_MOST_ROWS : PySem.W.nsIn K mainGlobals "MOST_ROWS" = some (some (.int 60 t_MOST_ROWS)))
    (y_MOST_HANDED : PySem.W.nsIn K mainGlobals "MOST_HANDED" = some (some (.int 40 t_MOST_HANDED)))
    (y_MOST_DEEP : PySem.W.nsIn K mainGlobals "MOST_DEEP" = some (some (.int 3 t_MOST_DEEP)))
    (y_TOP : PySem.W.nsIn K mainGlobals "TOP" = some (some (.int 10006 t_TOP)))
    (y_REST : PySem.W.nsIn K mainGlobals "REST" = some (some (.int 10007 t_REST)))
    (y_MOST_NUMBERS : PySem.W.nsIn K mainGlobals "MOST_NUMBERS" = some (some (.int 40 t_MOST_NUMBERS)))
    (y_MOST_DONE : PySem.W.nsIn K mainGlobals "MOST_DONE" = some (some (.int 1000 t_MOST_DONE)))
    (h_places : placesOk K dP = true)
    (h_ne : (cI == cC) = false)
    (h_plan_set : dictIn K dL "set" = some (some (.ref f_plan_set)))
    (h_plan_take : dictIn K dL "take" = some (some (.ref f_plan_take)))
    (h_plan_get : dictIn K dL "get" = some (some (.ref f_plan_get)))
    (h_plan_size : dictIn K dL "size" = some (some (.ref f_plan_size)))
    (h_plan_add : dictIn K dL "add" = some (some (.ref f_plan_add)))
    (h_plan_put : dictIn K dL "put" = some (some (.ref f_plan_put)))
    (h_plan_cut : dictIn K dL "cut" = some (some (.ref f_plan_cut)))
    (h_plan_send : dictIn K dL "send" = some (some (.ref f_plan_send)))
    (h_plan_go : dictIn K dL "go" = some (some (.ref f_plan_go)))
    (h_plan_unless : dictIn K dL "unless" = some (some (.ref f_plan_unless)))
    (h_plan_mark : dictIn K dL "mark" = some (some (.ref f_plan_mark)))
    : ∃ fd : FuncData, (∀ (s : Shared) (v : Value), BindsTo s fd ⟨[v], []⟩ [("_law_script", v)]) ∧ ∀ base : Heap, K.In base → base.Ns mainGlobals mg → FnOk l.prog w K mg base CX0 10 fa fd ["_law_script"] (spLaw K) := by
  have e := hfa.symm.trans (PySem.W.mg_of X G a_law)
  cases e
  have T : Txt mg := { n_len := PySem.W.mg_none_of X G z_len, n_range := PySem.W.mg_none_of X G z_range, n_isinstance := PySem.W.mg_none_of X G z_isinstance, n_int := PySem.W.mg_none_of X G z_int, n_bool := PySem.W.mg_none_of X G z_bool, n_str := PySem.W.mg_none_of X G z_str, n_tuple := PySem.W.mg_none_of X G z_tuple, n_list := PySem.W.mg_none_of X G z_list, n_min := PySem.W.mg_none_of X G z_min, n_max := PySem.W.mg_none_of X G z_max, n_enumerate := PySem.W.mg_none_of X G z_enumerate, n_zip := PySem.W.mg_none_of X G z_zip, g_MOST_NAMES := ⟨t_MOST_NAMES, PySem.W.mg_of X G y_MOST_NAMES⟩, g_MOST_FILES := ⟨t_MOST_FILES, PySem.W.mg_of X G y_MOST_FILES⟩, g_MOST_ROWS := ⟨t_MOST_ROWS, PySem.W.mg_of X G y_MOST_ROWS⟩, g_MOST_HANDED := ⟨t_MOST_HANDED, PySem.W.mg_of X G y_MOST_HANDED⟩, g_MOST_DEEP := ⟨t_MOST_DEEP, PySem.W.mg_of X G y_MOST_DEEP⟩, g_TOP := ⟨t_TOP, PySem.W.mg_of X G y_TOP⟩, g_REST := ⟨t_REST, PySem.W.mg_of X G y_REST⟩, g_MOST_NUMBERS := ⟨t_MOST_NUMBERS, PySem.W.mg_of X G y_MOST_NUMBERS⟩, g_MOST_DONE := ⟨t_MOST_DONE, PySem.W.mg_of X G y_MOST_DONE⟩ }
  have F_is_number := fun_mk (st := s_is_number) l_is_number c_is_number k_is_number
  have b_is_number := F_is_number.binds (ps := ["thing", "low", "high"]) fun _ _ _ _ _ _ us hl => match us, hl with | [_, _, _], _ => rfl
  have m_is_number := PySem.W.mg_of X G a_is_number
  have F_is_part := fun_mk (st := s_is_part) l_is_part c_is_part k_is_part
  have b_is_part := F_is_part.binds (ps := ["part", "names", "deep"]) fun _ _ _ _ _ _ us hl => match us, hl with | [_, _, _], _ => rfl
  have m_is_part := PySem.W.mg_of X G a_is_part
  have F_is_single := fun_mk (st := s_is_single) l_is_single c_is_single k_is_single
  have b_is_single := F_is_single.binds (ps := ["part", "names"]) fun _ _ _ _ _ _ us hl => match us, hl with | [_, _], _ => rfl
  have m_is_single := PySem.W.mg_of X G a_is_single
  have F_has_shape := fun_mk (st := s_has_shape) l_has_shape c_has_shape k_has_shape
  have b_has_shape := F_has_shape.binds (ps := ["row"]) fun _ _ _ _ _ _ us hl => match us, hl with | [_], _ => rfl
  have m_has_shape := PySem.W.mg_of X G a_has_shape
  have F_is_place := fun_mk (st := s_is_place) l_is_place c_is_place k_is_place
  have b_is_place := F_is_place.binds (ps := ["place", "kind", "program"]) fun _ _ _ _ _ _ us hl => match us, hl with | [_, _, _], _ => rfl
  have m_is_place := PySem.W.mg_of X G a_is_place
  have F_check_row := fun_mk (st := s_check_row) l_check_row c_check_row k_check_row
  have b_check_row := F_check_row.binds (ps := ["number", "row", "program"]) fun _ _ _ _ _ _ us hl => match us, hl with | [_, _, _], _ => rfl
  have m_check_row := PySem.W.mg_of X G a_check_row
  have F_check_program := fun_mk (st := s_check_program) l_check_program c_check_program k_check_program
  have b_check_program := F_check_program.binds (ps := ["program"]) fun _ _ _ _ _ _ us hl => match us, hl with | [_], _ => rfl
  have m_check_program := PySem.W.mg_of X G a_check_program
  have F_check_handed := fun_mk (st := s_check_handed) l_check_handed c_check_handed k_check_handed
  have b_check_handed := F_check_handed.binds (ps := ["handed"]) fun _ _ _ _ _ _ us hl => match us, hl with | [_], _ => rfl
  have m_check_handed := PySem.W.mg_of X G a_check_handed
  have F_comes_to := fun_mk (st := s_comes_to) l_comes_to c_comes_to k_comes_to
  have b_comes_to := F_comes_to.binds (ps := ["part", "names"]) fun _ _ _ _ _ _ us hl => match us, hl with | [_, _], _ => rfl
  have m_comes_to := PySem.W.mg_of X G a_comes_to
  have F_plan_set := fun_mk (st := s_plan_set) l_plan_set c_plan_set k_plan_set
  have b_plan_set := F_plan_set.binds (ps := ["row", "inside", "files", "handed", "change"]) fun _ _ _ _ _ _ us hl => match us, hl with | [_, _, _, _, _], _ => rfl
  have m_plan_set := PySem.W.mg_of X G a_plan_set
  have F_plan_take := fun_mk (st := s_plan_take) l_plan_take c_plan_take k_plan_take
  have b_plan_take := F_plan_take.binds (ps := ["row", "inside", "files", "handed", "change"]) fun _ _ _ _ _ _ us hl => match us, hl with | [_, _, _, _, _], _ => rfl
  have m_plan_take := PySem.W.mg_of X G a_plan_take
  have F_plan_get := fun_mk (st := s_plan_get) l_plan_get c_plan_get k_plan_get
  have b_plan_get := F_plan_get.binds (ps := ["row", "inside", "files", "handed", "change"]) fun _ _ _ _ _ _ us hl => match us, hl with | [_, _, _, _, _], _ => rfl
  have m_plan_get := PySem.W.mg_of X G a_plan_get
  have F_plan_size := fun_mk (st := s_plan_size) l_plan_size c_plan_size k_plan_size
  have b_plan_size := F_plan_size.binds (ps := ["row", "inside", "files", "handed", "change"]) fun _ _ _ _ _ _ us hl => match us, hl with | [_, _, _, _, _], _ => rfl
  have m_plan_size := PySem.W.mg_of X G a_plan_size
  have F_plan_add := fun_mk (st := s_plan_add) l_plan_add c_plan_add k_plan_add
  have b_plan_add := F_plan_add.binds (ps := ["row", "inside", "files", "handed", "change"]) fun _ _ _ _ _ _ us hl => match us, hl with | [_, _, _, _, _], _ => rfl
  have m_plan_add := PySem.W.mg_of X G a_plan_add
  have F_plan_put := fun_mk (st := s_plan_put) l_plan_put c_plan_put k_plan_put
  have b_plan_put := F_plan_put.binds (ps := ["row", "inside", "files", "handed", "change"]) fun _ _ _ _ _ _ us hl => match us, hl with | [_, _, _, _, _], _ => rfl
  have m_plan_put := PySem.W.mg_of X G a_plan_put
  have F_plan_cut := fun_mk (st := s_plan_cut) l_plan_cut c_plan_cut k_plan_cut
  have b_plan_cut := F_plan_cut.binds (ps := ["row", "inside", "files", "handed", "change"]) fun _ _ _ _ _ _ us hl => match us, hl with | [_, _, _, _, _], _ => rfl
  have m_plan_cut := PySem.W.mg_of X G a_plan_cut
  have F_plan_send := fun_mk (st := s_plan_send) l_plan_send c_plan_send k_plan_send
  have b_plan_send := F_plan_send.binds (ps := ["row", "inside", "files", "handed", "change"]) fun _ _ _ _ _ _ us hl => match us, hl with | [_, _, _, _, _], _ => rfl
  have m_plan_send := PySem.W.mg_of X G a_plan_send
  have F_plan_go := fun_mk (st := s_plan_go) l_plan_go c_plan_go k_plan_go
  have b_plan_go := F_plan_go.binds (ps := ["row", "inside", "files", "handed", "change"]) fun _ _ _ _ _ _ us hl => match us, hl with | [_, _, _, _, _], _ => rfl
  have m_plan_go := PySem.W.mg_of X G a_plan_go
  have F_plan_unless := fun_mk (st := s_plan_unless) l_plan_unless c_plan_unless k_plan_unless
  have b_plan_unless := F_plan_unless.binds (ps := ["row", "inside", "files", "handed", "change"]) fun _ _ _ _ _ _ us hl => match us, hl with | [_, _, _, _, _], _ => rfl
  have m_plan_unless := PySem.W.mg_of X G a_plan_unless
  have F_plan_mark := fun_mk (st := s_plan_mark) l_plan_mark c_plan_mark k_plan_mark
  have b_plan_mark := F_plan_mark.binds (ps := ["row", "inside", "files", "handed", "change"]) fun _ _ _ _ _ _ us hl => match us, hl with | [_, _, _, _, _], _ => rfl
  have m_plan_mark := PySem.W.mg_of X G a_plan_mark
  have F_planned := fun_mk (st := s_planned) l_planned c_planned k_planned
  have b_planned := F_planned.binds (ps := ["row", "inside", "files", "handed"]) fun _ _ _ _ _ _ us hl => match us, hl with | [_, _, _, _], _ => rfl
  have m_planned := PySem.W.mg_of X G a_planned
  have F_ended := fun_mk (st := s_ended) l_ended c_ended k_ended
  have b_ended := F_ended.binds (ps := ["rows", "inside"]) fun _ _ _ _ _ _ us hl => match us, hl with | [_, _], _ => rfl
  have m_ended := PySem.W.mg_of X G a_ended
  have F_do_change := fun_mk (st := s_do_change) l_do_change c_do_change k_do_change
  have b_do_change := F_do_change.binds (ps := ["change", "files", "sent"]) fun _ _ _ _ _ _ us hl => match us, hl with | [_, _, _], _ => rfl
  have m_do_change := PySem.W.mg_of X G a_do_change
  have F_run := fun_mk (st := s_run) l_run c_run k_run
  have b_run := F_run.binds (ps := ["program", "handed"]) fun _ _ _ _ _ _ us hl => match us, hl with | [_, _], _ => rfl
  have m_run := PySem.W.mg_of X G a_run
  have F_law_dice := fun_mk (st := s__law_dice) l_law_dice c_law_dice k_law_dice
  have b_law_dice := F_law_dice.binds (ps := ["_law_script"]) fun _ _ _ _ _ _ us hl => match us, hl with | [_], _ => rfl
  have m_law_dice := PySem.W.mg_of X G a_law_dice
  have F_law_next := fun_mk (st := s__law_next) l_law_next c_law_next k_law_next
  have b_law_next := F_law_next.binds (ps := ["_law_dice_here", "_law_many"]) fun _ _ _ _ _ _ us hl => match us, hl with | [_, _], _ => rfl
  have m_law_next := PySem.W.mg_of X G a_law_next
  have F_law_like := fun_mk (st := s__law_like) l_law_like c_law_like k_law_like
  have b_law_like := F_law_like.binds (ps := ["_law_found", "_law_due"]) fun _ _ _ _ _ _ us hl => match us, hl with | [_, _], _ => rfl
  have m_law_like := PySem.W.mg_of X G a_law_like
  have F_law_any_part := fun_mk (st := s__law_any_part) l_law_any_part c_law_any_part k_law_any_part
  have b_law_any_part := F_law_any_part.binds (ps := ["_law_d", "_law_names", "_law_deep"]) fun _ _ _ _ _ _ us hl => match us, hl with | [_, _, _], _ => rfl
  have m_law_any_part := PySem.W.mg_of X G a_law_any_part
  have F_law_any_row := fun_mk (st := s__law_any_row) l_law_any_row c_law_any_row k_law_any_row
  have b_law_any_row := F_law_any_row.binds (ps := ["_law_d", "_law_names", "_law_files", "_law_at", "_law_many"]) fun _ _ _ _ _ _ us hl => match us, hl with | [_, _, _, _, _], _ => rfl
  have m_law_any_row := PySem.W.mg_of X G a_law_any_row
  have F_law_any_program := fun_mk (st := s__law_any_program) l_law_any_program c_law_any_program k_law_any_program
  have b_law_any_program := F_law_any_program.binds (ps := ["_law_d", "_law_most"]) fun _ _ _ _ _ _ us hl => match us, hl with | [_, _], _ => rfl
  have m_law_any_program := PySem.W.mg_of X G a_law_any_program
  have F_law_any_handed := fun_mk (st := s__law_any_handed) l_law_any_handed c_law_any_handed k_law_any_handed
  have b_law_any_handed := F_law_any_handed.binds (ps := ["_law_d"]) fun _ _ _ _ _ _ us hl => match us, hl with | [_], _ => rfl
  have m_law_any_handed := PySem.W.mg_of X G a_law_any_handed
  have F_law_worth := fun_mk (st := s__law_worth) l_law_worth c_law_worth k_law_worth
  have b_law_worth := F_law_worth.binds (ps := ["_law_part", "_law_names"]) fun _ _ _ _ _ _ us hl => match us, hl with | [_, _], _ => rfl
  have m_law_worth := PySem.W.mg_of X G a_law_worth
  have F_law_effect := fun_mk (st := s__law_effect) l_law_effect c_law_effect k_law_effect
  have b_law_effect := F_law_effect.binds (ps := ["_law_p", "_law_handed", "_law_s", "_law_files"]) fun _ _ _ _ _ _ us hl => match us, hl with | [_, _, _, _], _ => rfl
  have m_law_effect := PySem.W.mg_of X G a_law_effect
  have F_law_pass := fun_mk (st := s__law_pass) l_law_pass c_law_pass k_law_pass
  have b_law_pass := F_law_pass.binds (ps := ["_law_s", "_law_e"]) fun _ _ _ _ _ _ us hl => match us, hl with | [_, _], _ => rfl
  have m_law_pass := PySem.W.mg_of X G a_law_pass
  have F_law_inner := fun_mk (st := s__law_inner) l_law_inner c_law_inner k_law_inner
  have b_law_inner := F_law_inner.binds (ps := ["_law_p"]) fun _ _ _ _ _ _ us hl => match us, hl with | [_], _ => rfl
  have m_law_inner := PySem.W.mg_of X G a_law_inner
  have F_law_run := fun_mk (st := s__law_run) l_law_run c_law_run k_law_run
  have b_law_run := F_law_run.binds (ps := ["_law_p", "_law_handed"]) fun _ _ _ _ _ _ us hl => match us, hl with | [_, _], _ => rfl
  have m_law_run := PySem.W.mg_of X G a_law_run
  have F_law := fun_mk (st := s_law) l_law c_law k_law
  have F_Inside___init__ := fun_mk (st := s_Inside___init__) l_Inside___init__ c_Inside___init__ k_Inside___init__
  have b_Inside___init__ := F_Inside___init__.binds (ps := ["self", "names"]) fun _ _ _ _ _ _ us hl => match us, hl with | [_, _], _ => rfl
  have F_Inside_follow := fun_mk (st := s_Inside_follow) l_Inside_follow c_Inside_follow k_Inside_follow
  have b_Inside_follow := F_Inside_follow.binds (ps := ["self", "change"]) fun _ _ _ _ _ _ us hl => match us, hl with | [_, _], _ => rfl
  have F_Change___init__ := fun_mk (st := s_Change___init__) l_Change___init__ c_Change___init__ k_Change___init__
  have b_Change___init__ := F_Change___init__.binds (ps := ["self", "follows"]) fun _ _ _ _ _ _ us hl => match us, hl with | [_, _], _ => rfl
  have F_Change_hold := fun_mk (st := s_Change_hold) l_Change_hold c_Change_hold k_Change_hold
  have b_Change_hold := F_Change_hold.binds (ps := ["self", "name", "worth"]) fun _ _ _ _ _ _ us hl => match us, hl with | [_, _, _], _ => rfl
  have F_Change_fill := fun_mk (st := s_Change_fill) l_Change_fill c_Change_fill k_Change_fill
  have b_Change_fill := F_Change_fill.binds (ps := ["self", "file", "numbers"]) fun _ _ _ _ _ _ us hl => match us, hl with | [_, _, _], _ => rfl
  have N_Inside : ∀ k ∈ iK, NoAttr K cI k := by
    intro k hk
    simp only [iK, List.mem_cons, List.not_mem_nil, or_false] at hk
    rcases hk with rfl | rfl | rfl | rfl | rfl
    · exact n_Inside_row
    · exact n_Inside_names
    · exact n_Inside_taken
    · exact n_Inside_done
    · exact n_Inside_letters
  have N_Change : ∀ k ∈ cK, NoAttr K cC k := by
    intro k hk
    simp only [cK, List.mem_cons, List.not_mem_nil, or_false] at hk
    rcases hk with rfl | rfl | rfl | rfl | rfl | rfl | rfl | rfl
    · exact n_Change_follows
    · exact n_Change_fault
    · exact n_Change_name
    · exact n_Change_worth
    · exact n_Change_takes
    · exact n_Change_file
    · exact n_Change_numbers
    · exact n_Change_letter
  have O : Own K mg cI cC dP dL := { i := ⟨⟨pg_Inside, hd_Inside, po_Inside, sa_Inside⟩, N_Inside⟩, c := ⟨⟨pg_Change, hd_Change, po_Change, sa_Change⟩, N_Change⟩, g_PLACES := PySem.W.mg_of X G ad_PLACES, g_PLANS := PySem.W.mg_of X G ad_PLANS, pl := h_places }
  refine ⟨PySem.W.fnOf "law" "law" (defArgs s_law) (defBody s_law) (defScope s_law) .none kV_law dc_law pm_law an_law cd_law ct_law, fun s v => .of_eq rfl, fun base _ _ => ?_⟩
  have C_is_number : FnC l.prog w K mg base 1 "is_number" ["thing", "low", "high"] spIsNum := ⟨f_is_number, _, ok_isnum F_is_number T, m_is_number, k_is_number, b_is_number⟩
  have C_is_single : FnC l.prog w K mg base 2 "is_single" ["part", "names"] spSingle := ⟨f_is_single, _, ok_single F_is_single T C_is_number, m_is_single, k_is_single, b_is_single⟩
  have C_is_part := c_ispart (P := l.prog) (w := w) (base := base) F_is_part b_is_part m_is_part T C_is_single 3
  have C_has_shape : FnC l.prog w K mg base 1 "has_shape" ["row"] spShape := ⟨f_has_shape, _, ok_shape F_has_shape T O, m_has_shape, k_has_shape, b_has_shape⟩
  have C_is_place : FnC l.prog w K mg base 6 "is_place" ["place", "kind", "program"] spPlace := ⟨f_is_place, _, ok_place F_is_place T C_is_number C_is_part, m_is_place, k_is_place, b_is_place⟩
  have C_check_row : FnC l.prog w K mg base 7 "check_row" ["number", "row", "program"] spCkRow := ⟨f_check_row, _, ok_ckrow F_check_row T O C_has_shape C_is_place, m_check_row, k_check_row, b_check_row⟩
  have C_check_program : FnC l.prog w K mg base 8 "check_program" ["program"] spCkProg := ⟨f_check_program, _, ok_ckprog F_check_program T C_is_number C_check_row, m_check_program, k_check_program, b_check_program⟩
  have C_check_handed : FnC l.prog w K mg base 2 "check_handed" ["handed"] spCkHand := ⟨f_check_handed, _, ok_ckhand F_check_handed T C_is_number, m_check_handed, k_check_handed, b_check_handed⟩
  have C_comes_to := c_comes (P := l.prog) (w := w) (base := base) F_comes_to b_comes_to m_comes_to T 3
  have M_Inside : MkC l.prog w K mg base 1 "Inside" cI ["self", "names"] (spIInit cI) := ⟨f_Inside___init__, _, ⟨mk_Inside, a_Inside___init__, i_Inside___init__, kc_Inside⟩, ok_iinit F_Inside___init__ T O, PySem.W.mg_of X G aC_Inside, b_Inside___init__⟩
  have MT_Inside_follow : MtC l.prog w K mg base 1 cI "follow" ["self", "change"] (spFollow cI cC) := ⟨f_Inside_follow, _, O.i.c, ⟨a_Inside_follow, i_Inside_follow, k_Inside_follow⟩, ok_follow F_Inside_follow T O, b_Inside_follow⟩
  have M_Change : MkC l.prog w K mg base 1 "Change" cC ["self", "follows"] (spCInit cC) := ⟨f_Change___init__, _, ⟨mk_Change, a_Change___init__, i_Change___init__, kc_Change⟩, ok_cinit F_Change___init__ T O, PySem.W.mg_of X G aC_Change, b_Change___init__⟩
  have MT_Change_hold : MtC l.prog w K mg base 1 cC "hold" ["self", "name", "worth"] (spHold cC) := ⟨f_Change_hold, _, O.c.c, ⟨a_Change_hold, i_Change_hold, k_Change_hold⟩, ok_hold F_Change_hold T O, b_Change_hold⟩
  have MT_Change_fill : MtC l.prog w K mg base 1 cC "fill" ["self", "file", "numbers"] (spFill cC) := ⟨f_Change_fill, _, O.c.c, ⟨a_Change_fill, i_Change_fill, k_Change_fill⟩, ok_fill F_Change_fill T O, b_Change_fill⟩
  have hne : cI ≠ cC := by intro z; rw [z, beq_self_eq_true] at h_ne; cases h_ne
  have D : PlansOk l.prog w K mg base cI cC dL := by
    intro r
    cases r with
    | set => exact ⟨f_plan_set, _, ok_pset F_plan_set T O C_comes_to MT_Change_hold, h_plan_set, k_plan_set, b_plan_set⟩
    | take => exact ⟨f_plan_take, _, ok_ptake F_plan_take T O MT_Change_hold, h_plan_take, k_plan_take, b_plan_take⟩
    | get => exact ⟨f_plan_get, _, ok_pget F_plan_get T O C_comes_to MT_Change_hold, h_plan_get, k_plan_get, b_plan_get⟩
    | size => exact ⟨f_plan_size, _, ok_psize F_plan_size T O MT_Change_hold, h_plan_size, k_plan_size, b_plan_size⟩
    | add => exact ⟨f_plan_add, _, ok_padd F_plan_add T O C_comes_to MT_Change_fill, h_plan_add, k_plan_add, b_plan_add⟩
    | put => exact ⟨f_plan_put, _, ok_pput F_plan_put T O C_comes_to MT_Change_fill, h_plan_put, k_plan_put, b_plan_put⟩
    | cut => exact ⟨f_plan_cut, _, ok_pcut F_plan_cut T O C_comes_to MT_Change_fill, h_plan_cut, k_plan_cut, b_plan_cut⟩
    | send => exact ⟨f_plan_send, _, ok_psend F_plan_send T O C_comes_to, h_plan_send, k_plan_send, b_plan_send⟩
    | go => exact ⟨f_plan_go, _, ok_pgo F_plan_go T O , h_plan_go, k_plan_go, b_plan_go⟩
    | unl => exact ⟨f_plan_unless, _, ok_punless F_plan_unless T O , h_plan_unless, k_plan_unless, b_plan_unless⟩
    | mark => exact ⟨f_plan_mark, _, ok_pmark F_plan_mark T O , h_plan_mark, k_plan_mark, b_plan_mark⟩
  have C_planned : FnC l.prog w K mg base 6 "planned" ["row", "inside", "files", "handed"] (spPlanned cI cC) := ⟨f_planned, _, ok_planned F_planned T O M_Change D, m_planned, k_planned, b_planned⟩
  have C_ended : FnC l.prog w K mg base 1 "ended" ["rows", "inside"] (spEnded cI) := ⟨f_ended, _, ok_ended F_ended T O, m_ended, k_ended, b_ended⟩
  have C_do_change : FnC l.prog w K mg base 1 "do_change" ["change", "files", "sent"] (spDoChange cC) := ⟨f_do_change, _, ok_dochange F_do_change T O, m_do_change, k_do_change, b_do_change⟩
  have C_run : FnC l.prog w K mg base 9 "run" ["program", "handed"] spRun := ⟨f_run, _, ok_run F_run T O hne C_check_program C_check_handed M_Inside C_ended C_planned C_do_change MT_Inside_follow, m_run, k_run, b_run⟩
  have C_law_dice : FnC l.prog w K mg base 1 "_law_dice" ["_law_script"] (spDice K) := ⟨f_law_dice, _, ok_dice F_law_dice T, m_law_dice, k_law_dice, b_law_dice⟩
  have C_law_next : FnC l.prog w K mg base 1 "_law_next" ["_law_dice_here", "_law_many"] (spNext K) := ⟨f_law_next, _, ok_next F_law_next T, m_law_next, k_law_next, b_law_next⟩
  have C_law_like := c_like (P := l.prog) (w := w) (base := base) F_law_like b_law_like m_law_like T 4
  have C_law_any_part := c_part (P := l.prog) (w := w) (base := base) F_law_any_part b_law_any_part m_law_any_part T C_law_next 3
  have C_law_any_row : FnC l.prog w K mg base 5 "_law_any_row" ["_law_d", "_law_names", "_law_files", "_law_at", "_law_many"] (spRow K) := ⟨f_law_any_row, _, ok_row F_law_any_row T C_law_next C_law_any_part, m_law_any_row, k_law_any_row, b_law_any_row⟩
  have C_law_any_program : FnC l.prog w K mg base 6 "_law_any_program" ["_law_d", "_law_most"] (spProg K) := ⟨f_law_any_program, _, ok_prog F_law_any_program T C_law_next C_law_any_row, m_law_any_program, k_law_any_program, b_law_any_program⟩
  have C_law_any_handed : FnC l.prog w K mg base 2 "_law_any_handed" ["_law_d"] (spHanded K) := ⟨f_law_any_handed, _, ok_handed F_law_any_handed T C_law_next, m_law_any_handed, k_law_any_handed, b_law_any_handed⟩
  have C_law_worth := c_worth (P := l.prog) (w := w) (base := base) F_law_worth b_law_worth m_law_worth T 3
  have C_law_effect : FnC l.prog w K mg base 5 "_law_effect" ["_law_p", "_law_handed", "_law_s", "_law_files"] spEffect := ⟨f_law_effect, _, ok_effect F_law_effect T C_law_worth, m_law_effect, k_law_effect, b_law_effect⟩
  have C_law_pass : FnC l.prog w K mg base 1 "_law_pass" ["_law_s", "_law_e"] spPass := ⟨f_law_pass, _, ok_pass F_law_pass T, m_law_pass, k_law_pass, b_law_pass⟩
  have C_law_inner : FnC l.prog w K mg base 1 "_law_inner" ["_law_p"] spInner := ⟨f_law_inner, _, ok_inner F_law_inner T, m_law_inner, k_law_inner, b_law_inner⟩
  have C_law_run : FnC l.prog w K mg base 6 "_law_run" ["_law_p", "_law_handed"] spRunL := ⟨f_law_run, _, ok_runL F_law_run T C_law_inner C_law_effect C_law_pass, m_law_run, k_law_run, b_law_run⟩
  exact ok_law F_law T C_law_dice C_law_next C_law_any_program C_law_any_handed C_law_run C_run C_law_like
end
theorem walk {l : PySem.W.OpenLaw} {q : Program} {loose : List Str} {XP : (Str → Option Value) → Heap → Prop} {YP : World → Heap → Prop} {d : DefRec} {K : Params → PySem.W.Frag} (hn : l.most = some 63) (hdf : d.params.defaults = [])
    (hY : ∀ (w : World) (h : Heap), YP w h → (K w.params).In h)
    (F : ∀ (w : World) (mg : Str → Option Value) (fa : Addr) (h : Heap), (K w.params).In h → h.Ns mainGlobals mg → mg d.name = some (.ref fa) →
      ∃ fd : FuncData, (∀ (s : Shared) (u : Value), BindsTo s fd ⟨[u], []⟩ [("_law_script", u)]) ∧ ∀ base : Heap, (K w.params).In base → base.Ns mainGlobals mg → FnOk l.prog w (K w.params) mg base CX0 10 fa fd ["_law_script"] (spLaw (K w.params))) :
    PySem.W.WalkO q loose XP YP l.row.toRowW d [] (fun f vs => PySem.call f vs) :=
  L2.walk_of (n := 63) (k := 10) (x := "_law_script") (CX := fun _ => CX0) (sp := fun w => spLaw (K w.params)) hn (by decide) hdf ⟨rfl, by decide, by decide⟩ hY F (fun _ _ a ns hl O hS => ⟨a, ns, rfl, Scr.of O hS, hl, fun _ => rfl⟩) fun _ _ _ _ _ z => z
end Lw
open PySem PySem.W PyProof.Rows
set_option maxRecDepth 100000 in
set_option maxHeartbeats 0 in
theorem PySem.Challenge.cw_longwork_k03_without_falls_holds : PySem.Challenge.rw_longwork_k03_without_falls.Holds := by
  w_on; o_law; k_head; (case hw => w_witness2)
  k_fill
  refine Lw.walk (l := PySem.Challenge.rw_longwork_k03_without_falls) rfl rfl (fun w h Y => PySem.W.kIn_of Y) ?F
  case F =>
    intro w mg fa h KX G hmg
    refine' Lw.all_mk KX G hmg ?a_is_number ?l_is_number ?c_is_number ?k_is_number ?a_is_part ?l_is_part ?c_is_part ?k_is_part ?a_is_single ?l_is_single ?c_is_single ?k_is_single ?a_has_shape ?l_has_shape ?c_has_shape ?k_has_shape ?a_is_place ?l_is_place ?c_is_place ?k_is_place ?a_check_row ?l_check_row ?c_check_row ?k_check_row ?a_check_program ?l_check_program ?c_check_program ?k_check_program ?a_check_handed ?l_check_handed ?c_check_handed ?k_check_handed ?a_comes_to ?l_comes_to ?c_comes_to ?k_comes_to ?a_plan_set ?l_plan_set ?c_plan_set ?k_plan_set ?a_plan_take ?l_plan_take ?c_plan_take ?k_plan_take ?a_plan_get ?l_plan_get ?c_plan_get ?k_plan_get ?a_plan_size ?l_plan_size ?c_plan_size ?k_plan_size ?a_plan_add ?l_plan_add ?c_plan_add ?k_plan_add ?a_plan_put ?l_plan_put ?c_plan_put ?k_plan_put ?a_plan_cut ?l_plan_cut ?c_plan_cut ?k_plan_cut ?a_plan_send ?l_plan_send ?c_plan_send ?k_plan_send ?a_plan_go ?l_plan_go ?c_plan_go ?k_plan_go ?a_plan_unless ?l_plan_unless ?c_plan_unless ?k_plan_unless ?a_plan_mark ?l_plan_mark ?c_plan_mark ?k_plan_mark ?a_planned ?l_planned ?c_planned ?k_planned ?a_ended ?l_ended ?c_ended ?k_ended ?a_do_change ?l_do_change ?c_do_change ?k_do_change ?a_run ?l_run ?c_run ?k_run ?a_law_dice ?l_law_dice ?c_law_dice ?k_law_dice ?a_law_next ?l_law_next ?c_law_next ?k_law_next ?a_law_like ?l_law_like ?c_law_like ?k_law_like ?a_law_any_part ?l_law_any_part ?c_law_any_part ?k_law_any_part ?a_law_any_row ?l_law_any_row ?c_law_any_row ?k_law_any_row ?a_law_any_program ?l_law_any_program ?c_law_any_program ?k_law_any_program ?a_law_any_handed ?l_law_any_handed ?c_law_any_handed ?k_law_any_handed ?a_law_worth ?l_law_worth ?c_law_worth ?k_law_worth ?a_law_effect ?l_law_effect ?c_law_effect ?k_law_effect ?a_law_pass ?l_law_pass ?c_law_pass ?k_law_pass ?a_law_inner ?l_law_inner ?c_law_inner ?k_law_inner ?a_law_run ?l_law_run ?c_law_run ?k_law_run ?a_law ?l_law ?c_law ?k_law ?aC_Inside ?pg_Inside ?hd_Inside ?po_Inside ?sa_Inside ?mk_Inside ?kc_Inside ?n_Inside_row ?n_Inside_names ?n_Inside_taken ?n_Inside_done ?n_Inside_letters ?aC_Change ?pg_Change ?hd_Change ?po_Change ?sa_Change ?mk_Change ?kc_Change ?n_Change_follows ?n_Change_fault ?n_Change_name ?n_Change_worth ?n_Change_takes ?n_Change_file ?n_Change_numbers ?n_Change_letter ?a_Inside___init__ ?i_Inside___init__ ?l_Inside___init__ ?c_Inside___init__ ?k_Inside___init__ ?a_Inside_follow ?i_Inside_follow ?l_Inside_follow ?c_Inside_follow ?k_Inside_follow ?a_Change___init__ ?i_Change___init__ ?l_Change___init__ ?c_Change___init__ ?k_Change___init__ ?a_Change_hold ?i_Change_hold ?l_Change_hold ?c_Change_hold ?k_Change_hold ?a_Change_fill ?i_Change_fill ?l_Change_fill ?c_Change_fill ?k_Change_fill ?ad_PLACES ?ad_PLANS ?z_len ?z_range ?z_isinstance ?z_int ?z_bool ?z_str ?z_tuple ?z_list ?z_min ?z_max ?z_enumerate ?z_zip ?y_MOST_NAMES ?y_MOST_FILES ?y_MOST_ROWS ?y_MOST_HANDED ?y_MOST_DEEP ?y_TOP ?y_REST ?y_MOST_NUMBERS ?y_MOST_DONE ?h_places ?h_ne ?h_plan_set ?h_plan_take ?h_plan_get ?h_plan_size ?h_plan_add ?h_plan_put ?h_plan_cut ?h_plan_send ?h_plan_go ?h_plan_unless ?h_plan_mark
    (case a_is_number => k_is)
    (case l_is_number => k_is)
    (case c_is_number => k_is)
    (case k_is_number => k_is)
    (case a_is_part => k_is)
    (case l_is_part => k_is)
    (case c_is_part => k_is)
    (case k_is_part => k_is)
    (case a_is_single => k_is)
    (case l_is_single => k_is)
    (case c_is_single => k_is)
    (case k_is_single => k_is)
    (case a_has_shape => k_is)
    (case l_has_shape => k_is)
    (case c_has_shape => k_is)
    (case k_has_shape => k_is)
    (case a_is_place => k_is)
    (case l_is_place => k_is)
    (case c_is_place => k_is)
    (case k_is_place => k_is)
    (case a_check_row => k_is)
    (case l_check_row => k_is)
    (case c_check_row => k_is)
    (case k_check_row => k_is)
    (case a_check_program => k_is)
    (case l_check_program => k_is)
    (case c_check_program => k_is)
    (case k_check_program => k_is)
    (case a_check_handed => k_is)
    (case l_check_handed => k_is)
    (case c_check_handed => k_is)
    (case k_check_handed => k_is)
    (case a_comes_to => k_is)
    (case l_comes_to => k_is)
    (case c_comes_to => k_is)
    (case k_comes_to => k_is)
    (case a_plan_set => k_is)
    (case l_plan_set => k_is)
    (case c_plan_set => k_is)
    (case k_plan_set => k_is)
    (case a_plan_take => k_is)
    (case l_plan_take => k_is)
    (case c_plan_take => k_is)
    (case k_plan_take => k_is)
    (case a_plan_get => k_is)
    (case l_plan_get => k_is)
    (case c_plan_get => k_is)
    (case k_plan_get => k_is)
    (case a_plan_size => k_is)
    (case l_plan_size => k_is)
    (case c_plan_size => k_is)
    (case k_plan_size => k_is)
    (case a_plan_add => k_is)
    (case l_plan_add => k_is)
    (case c_plan_add => k_is)
    (case k_plan_add => k_is)
    (case a_plan_put => k_is)
    (case l_plan_put => k_is)
    (case c_plan_put => k_is)
    (case k_plan_put => k_is)
    (case a_plan_cut => k_is)
    (case l_plan_cut => k_is)
    (case c_plan_cut => k_is)
    (case k_plan_cut => k_is)
    (case a_plan_send => k_is)
    (case l_plan_send => k_is)
    (case c_plan_send => k_is)
    (case k_plan_send => k_is)
    (case a_plan_go => k_is)
    (case l_plan_go => k_is)
    (case c_plan_go => k_is)
    (case k_plan_go => k_is)
    (case a_plan_unless => k_is)
    (case l_plan_unless => k_is)
    (case c_plan_unless => k_is)
    (case k_plan_unless => k_is)
    (case a_plan_mark => k_is)
    (case l_plan_mark => k_is)
    (case c_plan_mark => k_is)
    (case k_plan_mark => k_is)
    (case a_planned => k_is)
    (case l_planned => k_is)
    (case c_planned => k_is)
    (case k_planned => k_is)
    (case a_ended => k_is)
    (case l_ended => k_is)
    (case c_ended => k_is)
    (case k_ended => k_is)
    (case a_do_change => k_is)
    (case l_do_change => k_is)
    (case c_do_change => k_is)
    (case k_do_change => k_is)
    (case a_run => k_is)
    (case l_run => k_is)
    (case c_run => k_is)
    (case k_run => k_is)
    (case a_law_dice => k_is)
    (case l_law_dice => k_is)
    (case c_law_dice => k_is)
    (case k_law_dice => k_is)
    (case a_law_next => k_is)
    (case l_law_next => k_is)
    (case c_law_next => k_is)
    (case k_law_next => k_is)
    (case a_law_like => k_is)
    (case l_law_like => k_is)
    (case c_law_like => k_is)
    (case k_law_like => k_is)
    (case a_law_any_part => k_is)
    (case l_law_any_part => k_is)
    (case c_law_any_part => k_is)
    (case k_law_any_part => k_is)
    (case a_law_any_row => k_is)
    (case l_law_any_row => k_is)
    (case c_law_any_row => k_is)
    (case k_law_any_row => k_is)
    (case a_law_any_program => k_is)
    (case l_law_any_program => k_is)
    (case c_law_any_program => k_is)
    (case k_law_any_program => k_is)
    (case a_law_any_handed => k_is)
    (case l_law_any_handed => k_is)
    (case c_law_any_handed => k_is)
    (case k_law_any_handed => k_is)
    (case a_law_worth => k_is)
    (case l_law_worth => k_is)
    (case c_law_worth => k_is)
    (case k_law_worth => k_is)
    (case a_law_effect => k_is)
    (case l_law_effect => k_is)
    (case c_law_effect => k_is)
    (case k_law_effect => k_is)
    (case a_law_pass => k_is)
    (case l_law_pass => k_is)
    (case c_law_pass => k_is)
    (case k_law_pass => k_is)
    (case a_law_inner => k_is)
    (case l_law_inner => k_is)
    (case c_law_inner => k_is)
    (case k_law_inner => k_is)
    (case a_law_run => k_is)
    (case l_law_run => k_is)
    (case c_law_run => k_is)
    (case k_law_run => k_is)
    (case a_law => k_is)
    (case l_law => k_is)
    (case c_law => k_is)
    (case k_law => k_is)
    (case aC_Inside => k_is)
    (case pg_Inside => k_is)
    (case hd_Inside => k_is)
    (case po_Inside => k_is)
    (case sa_Inside => k_is)
    (case mk_Inside => k_is)
    (case kc_Inside => k_is)
    (case n_Inside_row => k_is)
    (case n_Inside_names => k_is)
    (case n_Inside_taken => k_is)
    (case n_Inside_done => k_is)
    (case n_Inside_letters => k_is)
    (case aC_Change => k_is)
    (case pg_Change => k_is)
    (case hd_Change => k_is)
    (case po_Change => k_is)
    (case sa_Change => k_is)
    (case mk_Change => k_is)
    (case kc_Change => k_is)
    (case n_Change_follows => k_is)
    (case n_Change_fault => k_is)
    (case n_Change_name => k_is)
    (case n_Change_worth => k_is)
    (case n_Change_takes => k_is)
    (case n_Change_file => k_is)
    (case n_Change_numbers => k_is)
    (case n_Change_letter => k_is)
    (case a_Inside___init__ => k_is)
    (case i_Inside___init__ => k_is)
    (case l_Inside___init__ => k_is)
    (case c_Inside___init__ => k_is)
    (case k_Inside___init__ => k_is)
    (case a_Inside_follow => k_is)
    (case i_Inside_follow => k_is)
    (case l_Inside_follow => k_is)
    (case c_Inside_follow => k_is)
    (case k_Inside_follow => k_is)
    (case a_Change___init__ => k_is)
    (case i_Change___init__ => k_is)
    (case l_Change___init__ => k_is)
    (case c_Change___init__ => k_is)
    (case k_Change___init__ => k_is)
    (case a_Change_hold => k_is)
    (case i_Change_hold => k_is)
    (case l_Change_hold => k_is)
    (case c_Change_hold => k_is)
    (case k_Change_hold => k_is)
    (case a_Change_fill => k_is)
    (case i_Change_fill => k_is)
    (case l_Change_fill => k_is)
    (case c_Change_fill => k_is)
    (case k_Change_fill => k_is)
    (case ad_PLACES => k_is)
    (case ad_PLANS => k_is)
    (case z_len => k_is)
    (case z_range => k_is)
    (case z_isinstance => k_is)
    (case z_int => k_is)
    (case z_bool => k_is)
    (case z_str => k_is)
    (case z_tuple => k_is)
    (case z_list => k_is)
    (case z_min => k_is)
    (case z_max => k_is)
    (case z_enumerate => k_is)
    (case z_zip => k_is)
    (case y_MOST_NAMES => k_is)
    (case y_MOST_FILES => k_is)
    (case y_MOST_ROWS => k_is)
    (case y_MOST_HANDED => k_is)
    (case y_MOST_DEEP => k_is)
    (case y_TOP => k_is)
    (case y_REST => k_is)
    (case y_MOST_NUMBERS => k_is)
    (case y_MOST_DONE => k_is)
    (case h_places => kernel_rfl)
    (case h_ne => rfl)
    (case h_plan_set => kernel_rfl)
    (case h_plan_take => kernel_rfl)
    (case h_plan_get => kernel_rfl)
    (case h_plan_size => kernel_rfl)
    (case h_plan_add => kernel_rfl)
    (case h_plan_put => kernel_rfl)
    (case h_plan_cut => kernel_rfl)
    (case h_plan_send => kernel_rfl)
    (case h_plan_go => kernel_rfl)
    (case h_plan_unless => kernel_rfl)
    (case h_plan_mark => kernel_rfl)
